import PyProof.Rows.All
import Wide.All
import OpenK.AllK
import Wide.FinOn
import PyProof.EqAt
import PyProof.EqKinds
import PyProof.TupleCall
import KE.BitLaws
import Open.SpecLaws
import KE.OsHead
import KE.OsGo
import PyProof.Rows.SortShellAny
import KE.KRevIter
import PySem.Challenge.RW_actioncaches_s01_answers
set_option Elab.async false
set_option linter.all false
set_option maxRecDepth 100000
namespace L2
open PySem PySem.Spec PyProof.Rows
abbrev Key := Sum Int Str
def keyIs : Key → Value → Bool
  | .inl k, v => Value.isInt k v
  | .inr x, v => Value.isStrOf x v
def keyH (w : World) : Key → Int
  | .inl k => hashInt k
  | .inr x => hashStr w x
theorem keyIs_shape : ∀ {k : Key} {v : Value}, keyIs k v = true → (∃ i t, k = Sum.inl i ∧ v = Value.int i t) ∨ (∃ x t, k = Sum.inr x ∧ v = Value.str x t)
  | .inl i, v, h => by
    obtain ⟨t, e⟩ := Value.isInt_shape (k := i) (v := v) h
    exact .inl ⟨i, t, rfl, e⟩
  | .inr x, v, h => by
    obtain ⟨t, e⟩ := Value.isStrOf_shape (x := x) (v := v) h
    exact .inr ⟨x, t, rfl, e⟩
theorem key_ll (a b : Int) : decide ((Sum.inl a : Key) = Sum.inl b) = (a == b) := by
  by_cases e : a = b
  · subst e; simp
  · have h : ¬ (Sum.inl a : Key) = Sum.inl b := fun q => e (Sum.inl.inj q)
    rw [decide_eq_false h]
    exact (beq_eq_false_iff_ne.mpr e).symm
theorem key_rr (a b : Str) : decide ((Sum.inr a : Key) = Sum.inr b) = decide (a = b) := by
  by_cases e : a = b
  · subst e; simp
  · have h : ¬ (Sum.inr a : Key) = Sum.inr b := fun q => e (Sum.inr.inj q)
    rw [decide_eq_false h, decide_eq_false e]
theorem key_lr (a : Int) (b : Str) : decide ((Sum.inl a : Key) = Sum.inr b) = false := decide_eq_false (fun q => nomatch q)
theorem key_rl (a : Str) (b : Int) : decide ((Sum.inr a : Key) = Sum.inl b) = false := decide_eq_false (fun q => nomatch q)
def mixKind (prog : Program) (w : World) : PySem.KeyKind prog w Key where
  is := keyIs
  hash := keyH w
  inj := fun v a b ha hb => by
    rcases keyIs_shape ha with ⟨i, t, rfl, rfl⟩ | ⟨x, t, rfl, rfl⟩
    · rcases keyIs_shape hb with ⟨j, u, rfl, e⟩ | ⟨y, u, rfl, e⟩
      · injection e with e1 _; rw [e1]
      · exact nomatch e
    · rcases keyIs_shape hb with ⟨j, u, rfl, e⟩ | ⟨y, u, rfl, e⟩
      · exact nomatch e
      · injection e with e1 _; rw [e1]
  byValue := fun k v h => by
    rcases keyIs_shape h with ⟨i, t, rfl, rfl⟩ | ⟨x, t, rfl, rfl⟩ <;> rfl
  pyHash := fun hv h => by
    rcases keyIs_shape hv with ⟨i, t, rfl, rfl⟩ | ⟨x, t, rfl, rfl⟩
    · exact wpAny_pyHash_int h
    · exact wpAny_pyHash_str h
  eqBool := fun hu hv h => by
    rcases keyIs_shape hu with ⟨i, t, rfl, rfl⟩ | ⟨x, t, rfl, rfl⟩
    · rcases keyIs_shape hv with ⟨j, u, rfl, rfl⟩ | ⟨y, u, rfl, rfl⟩
      · rw [key_ll] at h; exact wpAny_eqBool_int h
      · rw [key_lr] at h; exact SeqAt.EqAt.int_str i t y u _ _ _ _ h
    · rcases keyIs_shape hv with ⟨j, u, rfl, rfl⟩ | ⟨y, u, rfl, rfl⟩
      · rw [key_rl] at h; exact SeqAt.EqAt.str_int x t j u _ _ _ _ h
      · rw [key_rr] at h; exact wpAny_eqBool_str h
  «strs» := fun k x t v h => by
    rcases keyIs_shape h with ⟨i, u, rfl, e⟩ | ⟨y, u, rfl, e⟩
    · exact nomatch e
    · injection e with e1 _
      subst e1
      cases v <;> rfl
end L2
namespace L2
open PySem PySem.Spec PyProof.Rows
inductive V where
  | non | bl (b : Bool) | int (i : Int) | str (x : Str) | byt (b : Array UInt8) | flt (b : UInt64) | ref (a : Addr) | ty (n : String)
  deriving DecidableEq
def RelV : V → Value → Prop
  | .non, u => u = Value.none
  | .bl b, u => u = Value.bool b
  | .int i, u => ∃ t, u = Value.int i t
  | .str x, u => ∃ t, u = Value.str x t
  | .byt b, u => ∃ t, u = Value.bytes b t
  | .flt b, u => ∃ t, u = Value.float b t
  | .ref a, u => u = Value.ref a
  | .ty n, u => u = Value.type n
abbrev Vals : List V → List Value → Prop := Paired RelV
theorem Vals.length {xs : List V} {us : List Value} (r : Vals xs us) : xs.length = us.length := Paired.length r
theorem Vals.get : ∀ {xs : List V} {us : List Value} {i : Nat} {x : V}, Vals xs us → xs[i]? = some x → ∃ u, us[i]? = some u ∧ RelV x u
  | _, _, _, _, .nil, e => by simp at e
  | _, _, 0, _, .cons r _, e => by simp at e; subst e; exact ⟨_, rfl, r⟩
  | _, _, i + 1, x, .cons _ t, e => by
    obtain ⟨u, h1, h2⟩ := Vals.get (i := i) (x := x) t (by simpa using e)
    exact ⟨u, by simpa using h1, h2⟩
theorem Vals.append : ∀ {xs ys : List V} {us ws : List Value}, Vals xs us → Vals ys ws → Vals (xs ++ ys) (us ++ ws)
  | _, _, _, _, .nil, s => s
  | _, _, _, _, .cons r t, s => .cons r (Vals.append t s)
theorem Vals.take : ∀ {xs : List V} {us : List Value} (n : Nat), Vals xs us → Vals (xs.take n) (us.take n)
  | _, _, 0, _ => .nil
  | _, _, _ + 1, .nil => .nil
  | _, _, n + 1, .cons r t => .cons r (Vals.take n t)
theorem Vals.drop : ∀ {xs : List V} {us : List Value} (n : Nat), Vals xs us → Vals (xs.drop n) (us.drop n)
  | _, _, 0, r => r
  | _, _, _ + 1, .nil => .nil
  | _, _, n + 1, .cons _ t => Vals.drop n t
def RelO : Option V → Option Value → Prop
  | some v, some u => RelV v u
  | none, none => True
  | _, _ => False
def KV {κ : Type} : List (κ × V) → List (κ × Value) → Prop := Paired fun (p : κ × V) (q : κ × Value) => p.1 = q.1 ∧ RelV p.2 q.2
def kV : Key → V
  | .inl i => .int i
  | .inr x => .str x
inductive HO where
  /-- a list -/
  | lst (xs : List V)
  /-- a tuple (never changes) -/
  | tup (xs : List V)
  /-- a dict whose keys are ints and texts; one whose keys are tuples of ints and texts (the empty one is both) -/
  | dK (kvs : List (Key × V)) | dT (kvs : List (List Key × V))
  /-- a set of ints: its members, its size -/
  | set (S : Int → Bool) (n : Nat)
  /-- an instance of the class at C, its dict at dx, its attributes -/
  | ins (C dx : Addr) (fs : List (Str × V))
  /-- the dict of the instance at x -/
  | own (x : Addr)
  /-- the dict of an exception -/
  | xd (fs : List (Str × V))
  /-- a bound method, f of x -/
  | met (f x : Addr)
  /-- a range object lo, lo + 1, .. below hi -/
  | rng (lo hi : Int)
  /-- a thing that is known to the object (the script; a dict while a loop walks it): read, never written while it is so -/
  | frz (o : Obj) (u : HO)
  /-- a code object's table -/
  | tbl (ps : Array Value)
  /-- any other thing, by what is true of its one object (a def of one's own: SetO a S n := HO.ext fun h => ..) -/
  | ext (φ : Heap → Prop)
abbrev Hp := Addr → Option HO
def upd (H : Hp) (a : Addr) (o : HO) : Hp := fun b => if b = a then some o else H b
theorem upd_same {H : Hp} {a : Addr} {o : HO} : upd H a o a = some o := by unfold upd; rw [if_pos rfl]
theorem upd_ne {H : Hp} {a b : Addr} {o : HO} (h : b ≠ a) : upd H a o b = H b := by unfold upd; rw [if_neg h]
theorem ne_of_none {H : Hp} {a b : Addr} {o : HO} (h : H a = some o) (h' : H b = none) : a ≠ b := by
  intro e; subst e; rw [h] at h'; cases h'
section
variable (P : Program) (w : World)
def ObjOk (H : Hp) (h : Heap) (a : Addr) : HO → Prop
  | .lst xs => xs.length ≤ sizeLine ∧ ∃ (its : List Value) (n : Nat), Vals xs its ∧ h.get? a = some { cls := .type "list", data := .seq its.toArray n }
  | .tup xs => xs.length ≤ sizeLine ∧ ∃ its : List Value, Vals xs its ∧ IsTup h a its.toArray
  | .dK kvs => kvs.length ≤ sizeLine ∧ (a == sysModules) = false ∧ ∃ vs, KV kvs vs ∧ h.DictOf (mixKind P w) a vs
  | .dT kvs => kvs.length ≤ sizeLine ∧ (a == sysModules) = false ∧ ∃ xs : List (List Key × Addr × Value),
      Paired (fun (p : List Key × V) (q : List Key × Addr × Value) => p.1 = q.1 ∧ H q.2.1 = some (.tup (p.1.map kV)) ∧ RelV p.2 q.2.2) kvs xs ∧
      ∃ o es ep, h.get? a = some o ∧ o.ExactDict ∧ o.data = .dict es ep ∧ es.toList = xs.map (entryOfKey (tupleKind (mixKind P w))) ∧ (xs.map (·.1)).Nodup
  | .set S n => h.SetOf (intKind P w) a S n
  | .ins C dx fs => H dx = some (.own a) ∧ fs.length ≤ 1000 ∧ dx ≠ a ∧ h.get? a = some (PySem.W.instObj C dx) ∧
      ∃ mA, h.Ns1 dx mA ∧ (∀ f, RelO (fs.lookup f) (mA f)) ∧ PySem.Within mA (fs.map (·.1))
  | .own _ => ∃ o, h.get? a = some o
  | .xd fs => ∃ mA, h.Ns1 a mA ∧ ∀ f, RelO (fs.lookup f) (mA f)
  | .rng lo hi => ∃ t u v, h.get? a = some { cls := .type "range", data := .fields #[.int lo t, .int hi u, .int 1 v] }
  | .frz o u => h.get? a = some o ∧ ObjOk H h a u
  | .tbl ps => h.get? a = some { cls := .none, data := .fields ps }
  | .met f x => h.get? a = some (PySem.W.methodObj (.ref f) (.ref x))
  | .ext φ => φ h ∧ (∃ o, h.get? a = some o) ∧ ∀ h1 h2 : Heap, φ h1 → (∀ o, h1.get? a = some o → h2.get? a = some o) → φ h2
def HOk (H : Hp) (h : Heap) : Prop := ∀ a o, H a = some o → ObjOk P w H h a o
end
section
variable {P : Program} {w : World} {H H' : Hp} {h h' : Heap} {a : Addr} {o : HO}
theorem ObjOk.lt (x : ObjOk P w H h a o) : a < h.objs.size := by
  cases o with
  | lst xs => obtain ⟨_, _, _, _, e⟩ := x; exact Heap.lt_size e
  | tup xs => obtain ⟨_, _, _, p⟩ := x; exact p.lt
  | dK kvs => obtain ⟨_, _, _, _, o, _, _, e, _⟩ := x; exact Heap.lt_size e
  | dT kvs => obtain ⟨_, _, _, _, o, _, _, e, _⟩ := x; exact Heap.lt_size e
  | set S n => obtain ⟨o, _, _, _, e, _⟩ := x; exact Heap.lt_size e
  | ins C dx fs => obtain ⟨_, _, _, e, _⟩ := x; exact Heap.lt_size e
  | own y => obtain ⟨_, e⟩ := x; exact Heap.lt_size e
  | xd fs => obtain ⟨_, ⟨_, _, _, e, _⟩, _⟩ := x; exact Heap.lt_size e
  | rng lo hi => obtain ⟨_, _, _, e⟩ := x; exact Heap.lt_size e
  | frz ob u => obtain ⟨e, _⟩ := x; exact Heap.lt_size e
  | tbl ps => exact Heap.lt_size (show h.get? a = some _ from x)
  | met f y => exact Heap.lt_size (show h.get? a = some _ from x)
  | ext φ => obtain ⟨_, ⟨_, e⟩, _⟩ := x; exact Heap.lt_size e
theorem Paired.mapP {α β : Type} {F G : α → β → Prop} : ∀ {l₁ : List α} {l₂ : List β}, Paired F l₁ l₂ → (∀ a b, F a b → G a b) → Paired G l₁ l₂
  | _, _, .nil, _ => .nil
  | _, _, .cons r t, f => .cons (f _ _ r) (Paired.mapP t f)
theorem ObjOk.stay (x : ObjOk P w H h a o) (k : ∀ b u, (b = a ∨ H b = some (.own a)) → h.get? b = some u → h'.get? b = some u)
    (ho : ∀ b, H b = some (.own a) → H' b = some (.own a)) (ht : ∀ b xs, H b = some (.tup xs) → H' b = some (.tup xs)) : ObjOk P w H' h' a o := by
  induction o with
  | lst xs => obtain ⟨z, its, n, r, e⟩ := x; exact ⟨z, its, n, r, k _ _ (.inl rfl) e⟩
  | tup xs => obtain ⟨z, its, r, ob, e, c⟩ := x; exact ⟨z, its, r, ob, k _ _ (.inl rfl) e, c⟩
  | dK kvs => obtain ⟨z, y, vs, r, ob, es, ep, e, c⟩ := x; exact ⟨z, y, vs, r, ob, es, ep, k _ _ (.inl rfl) e, c⟩
  | dT kvs =>
    obtain ⟨z, y, xs, r, ob, es, ep, e, c⟩ := x
    exact ⟨z, y, xs, Paired.mapP r fun p q z => ⟨z.1, ht _ _ z.2.1, z.2.2⟩, ob, es, ep, k _ _ (.inl rfl) e, c⟩
  | set S n => obtain ⟨ob, es, ep, t, e, c⟩ := x; exact ⟨ob, es, ep, t, k _ _ (.inl rfl) e, c⟩
  | ins C dx fs =>
    obtain ⟨d, z, ne, e, mA, ⟨od, es, ep, e2, c⟩, r⟩ := x
    exact ⟨ho _ d, z, ne, k _ _ (.inl rfl) e, mA, ⟨od, es, ep, k _ _ (.inr d) e2, c⟩, r⟩
  | own y => obtain ⟨ob, e⟩ := x; exact ⟨ob, k _ _ (.inl rfl) e⟩
  | xd fs => obtain ⟨mA, ⟨od, es, ep, e, c⟩, r⟩ := x; exact ⟨mA, ⟨od, es, ep, k _ _ (.inl rfl) e, c⟩, r⟩
  | rng lo hi => obtain ⟨t, u, v, e⟩ := x; exact ⟨t, u, v, k _ _ (.inl rfl) e⟩
  | frz ob u ih => obtain ⟨e, q⟩ := x; exact ⟨k _ _ (.inl rfl) e, ih q⟩
  | tbl ps =>
    have e : h.get? a = some { cls := .none, data := .fields ps } := x
    show h'.get? a = some { cls := .none, data := .fields ps }
    exact k a _ (.inl rfl) e
  | met f y =>
    have e : h.get? a = some (PySem.W.methodObj (.ref f) (.ref y)) := x
    show h'.get? a = some (PySem.W.methodObj (.ref f) (.ref y))
    exact k a _ (.inl rfl) e
  | ext φ => obtain ⟨p, ⟨o, e⟩, st⟩ := x; exact ⟨st _ _ p fun o q => k _ _ (.inl rfl) q, ⟨o, k _ _ (.inl rfl) e⟩, st⟩
theorem HOk.lt (x : HOk P w H h) (e : H a = some o) : a < h.objs.size := (x a o e).lt
theorem HOk.fresh (x : HOk P w H h) (e : h.objs.size ≤ a) : H a = none := by
  cases q : H a with
  | none => rfl
  | some u => exact absurd (Nat.lt_of_lt_of_le (x.lt q) e) (Nat.lt_irrefl _)
theorem HOk.kept (x : HOk P w H h) (k : ∀ b u, h.get? b = some u → h'.get? b = some u) : HOk P w H h' := fun a o e =>
  (x a o e).stay (fun b u _ q => k b u q) (fun _ q => q) fun _ _ q => q
theorem HOk.laid (x : HOk P w H h) (k : ∀ b u, h.get? b = some u → h'.get? b = some u) (hp : h.objs.size ≤ a) (new : ObjOk P w (upd H a o) h' a o) : HOk P w (upd H a o) h' := fun b u e => by
  have hn := x.fresh hp
  by_cases hb : b = a
  · subst hb; rw [upd_same] at e; cases e; exact new
  · rw [upd_ne hb] at e
    exact (x b u e).stay (fun c v _ q => k c v q) (fun c q => by rw [upd_ne (ne_of_none q hn)]; exact q) fun c xs q => by rw [upd_ne (ne_of_none q hn)]; exact q
end
def Rd (H : Hp) (a : Addr) (u : HO) : Prop := H a = some u ∨ ∃ o, H a = some (.frz o u)
theorem Rd.ok {P : Program} {w : World} {H : Hp} {h : Heap} {a : Addr} {u : HO} (r : Rd H a u) (x : HOk P w H h) : ObjOk P w H h a u := by
  rcases r with r | ⟨o, r⟩
  · exact x a u r
  · obtain ⟨_, q⟩ := x a _ r
    exact q
def Mut : Option HO → Prop
  | some (.lst _) => True
  | some (.dK _) => True
  | some (.dT _) => True
  | some (.set _ _) => True
  | some (.ins _ _ _) => True
  | some (.ext _) => True
  | _ => False
section
variable {P : Program} {w : World} {H : Hp} {h h' : Heap} {x e : Addr} {o' : HO}
theorem HOk.write (ok : HOk P w H h) (mu : Mut (H x)) (he : e = x ∨ H e = some (.own x)) (k : ∀ b u, b ≠ e → h.get? b = some u → h'.get? b = some u) (heo : ∃ u, h'.get? e = some u)
    (new : ObjOk P w (upd H x o') h' x o') : HOk P w (upd H x o') h' := fun b u q => by
  have nown : ∀ c y, H c = some (.own y) → c ≠ x := fun c y r z => by subst z; rw [r] at mu; exact mu
  have ntup : ∀ c xs, H c = some (.tup xs) → c ≠ x := fun c xs r z => by subst z; rw [r] at mu; exact mu
  by_cases hb : b = x
  · subst hb; rw [upd_same] at q; cases q; exact new
  · rw [upd_ne hb] at q
    by_cases hbe : b = e
    · have q' : H b = some (.own x) := by
        rcases he with z | z
        · exact absurd (hbe.trans z) hb
        · rw [hbe]; exact z
      rw [q] at q'; cases q'
      obtain ⟨v, hv⟩ := heo
      exact ⟨v, by rw [hbe]; exact hv⟩
    · refine (ok b u q).stay (fun c v hc r => k c v ?_ r) (fun c r => by rw [upd_ne (nown c b r)]; exact r) fun c xs r => by rw [upd_ne (ntup c xs r)]; exact r
      rcases hc with rfl | hc
      · exact hbe
      · rintro rfl
        rcases he with z | z
        · exact nown c b hc z
        · rw [hc] at z; cases z; exact hb rfl
end
structure Un (fs ex : List Addr) (H H' : Hp) (h h' : Heap) : Prop where
  keep : ∀ b o, h.get? b = some o → H b = none → b ∉ fs → b ∉ ex → h'.get? b = some o
  slot : ∀ b o, h.get? b = some o → H b = none → b ∈ fs → b ∉ ex → ∃ sl, h'.get? b = some { o with slots := sl }
  free : ∀ b o, h.get? b = some o → H b = none → b ∉ ex → H' b = none
  there : ∀ b o, h.get? b = some o → b ∉ ex → ∃ o', h'.get? b = some o'
  tups : ∀ b xs, H b = some (.tup xs) → H' b = some (.tup xs)
  frzs : ∀ b o u, H b = some (.frz o u) → H' b = some (.frz o u)
  tbls : ∀ b ps, H b = some (.tbl ps) → ∃ more, H' b = some (.tbl (ps ++ more))
section
variable {fs fs' ex ex' : List Addr} {H H1 H2 : Hp} {h h1 h2 h' : Heap} {a x e : Addr} {o : HO}
theorem Un.any (u : Un fs ex H H1 h h1) {b : Addr} {ob : Obj} (q : h.get? b = some ob) (n : H b = none) (hx : b ∉ ex) : ∃ sl, h1.get? b = some { ob with slots := sl } := by
  by_cases hb : b ∈ fs
  · exact u.slot b ob q n hb hx
  · exact ⟨ob.slots, u.keep b ob q n hb hx⟩
theorem Un.kept (k : ∀ b u, h.get? b = some u → h'.get? b = some u) : Un fs ex H H h h' :=
  ⟨fun b ob q _ _ _ => k b ob q, fun b ob q _ _ _ => ⟨ob.slots, k b ob q⟩, fun _ _ _ n _ => n, fun b ob q _ => ⟨ob, k b ob q⟩, fun _ _ q => q, fun _ _ _ q => q, fun _ ps q => ⟨#[], by rw [q]; simp⟩⟩
theorem Un.refl : Un fs ex H H h h := Un.kept fun _ _ q => q
theorem Un.laid (k : ∀ b u, h.get? b = some u → h'.get? b = some u) (hp : h.objs.size ≤ a) (hn : H a = none) : Un fs ex H (upd H a o) h h' where
  keep := fun b u q _ _ _ => k b u q
  slot := fun b u q _ _ _ => ⟨u.slots, k b u q⟩
  free := fun b u q n _ => by rw [upd_ne (Nat.ne_of_lt (Nat.lt_of_lt_of_le (Heap.lt_size q) hp))]; exact n
  there := fun b u q _ => ⟨u, k b u q⟩
  tups := fun b xs q => by rw [upd_ne (ne_of_none q hn)]; exact q
  frzs := fun b u xs q => by rw [upd_ne (ne_of_none q hn)]; exact q
  tbls := fun b ps q => ⟨#[], by rw [upd_ne (ne_of_none q hn), q]; simp⟩
theorem Un.write (mu : Mut (H x)) (he : e = x ∨ H e = some (.own x)) (k : ∀ b u, b ≠ e → h.get? b = some u → h'.get? b = some u) (heo : ∃ u, h'.get? e = some u) : Un fs ex H (upd H x o) h h' := by
  have hx : ∀ b, H b = none → b ≠ x := fun b n z => by subst z; rw [n] at mu; exact mu
  have hb : ∀ b, H b = none → b ≠ e := fun b n z => by
    subst z
    rcases he with r | r
    · exact hx b n r
    · rw [n] at r; cases r
  have hm : ∀ b u, H b = some u → ¬ Mut (some u) → b ≠ x := fun b u q nm z => by subst z; rw [q] at mu; exact nm mu
  refine ⟨fun b u q n _ _ => k b u (hb b n) q, fun b u q n _ _ => ⟨u.slots, k b u (hb b n) q⟩, fun b u q n _ => by rw [upd_ne (hx b n)]; exact n, fun b u q _ => ?_,
    fun b xs q => by rw [upd_ne (hm b _ q fun z => z)]; exact q, fun b u xs q => by rw [upd_ne (hm b _ q fun z => z)]; exact q, fun b ps q => ⟨#[], by rw [upd_ne (hm b _ q fun z => z), q]; simp⟩⟩
  by_cases hbe : b = e
  · subst hbe; exact heo
  · exact ⟨u, k b u hbe q⟩
end
def trk (h : Heap) (H : Hp) : List Addr := (List.range h.objs.size).filter fun a => (H a).isSome
def hidT (h : Heap) (H : Hp) : Heap := PySem.W.hideAll h (trk h H)
theorem hidT_size (h : Heap) (H : Hp) : (hidT h H).objs.size = h.objs.size := PySem.W.hideAll_size _ _
theorem hidT_get {h : Heap} {H : Hp} {b : Addr} {o : Obj} (e : h.get? b = some o) (n : H b = none) : (hidT h H).get? b = some o :=
  PySem.W.hideAll_get _ e fun hm => by
    have q : (H b).isSome = true := (List.mem_filter.mp hm).2
    rw [n] at q; simp at q
theorem of_hidT {h : Heap} {H : Hp} {b : Addr} {o : Obj} (e : (hidT h H).get? b = some o) : h.get? b = some o ∧ H b = none := by
  have e' : h.get? b = some o := PySem.W.of_hideAll (trk h H) e
  refine ⟨e', ?_⟩
  cases q : H b with
  | none => rfl
  | some x =>
    have hm : b ∈ trk h H := List.mem_filter.mpr ⟨List.mem_range.mpr (Heap.lt_size e'), by simp [q]⟩
    have z : (hidT h H).get? b = none := PySem.W.hideAll_none (trk h H) hm
    rw [z] at e; cases e
end L2
namespace L2
open PySem PySem.Spec PyProof.Rows
structure Mod (K : PySem.W.Frag) (mg : Str → Option Value) (base : Heap) : Prop where
  kin : K.In base
  glob : base.Ns mainGlobals mg
  blt : ∃ mb, base.Ns builtinsNs mb ∧ ∀ x : Str, x ≠ "__name__" → mb x = bootBuiltins x
  nolimit : base.NoLimit
structure Cx where
  prog : Program
  w : World
  K : PySem.W.Frag
  mg : Str → Option Value
  base : Heap
  A : Around
  N : List Str
  s_0 : Shared
  H_0 : Hp
  env : Env
  outer : List Env
  stack : List Env
  ex : List Addr
  fn : Str → Bool
  calm : Bool
  pn : List (Addr × Obj)
  xe : Value → Shared → Prop
def frs (l : List Env) : List Addr := l.filterMap (·.frame)
abbrev Cx.fs (X : Cx) : List Addr := frs X.outer
def Vis (sc : Scope) (x : Str) : Prop := sc.names.lookup x = some .local ∨ sc.names.lookup x = some .cell ∨ sc.names.lookup x = some .free
def Loc (sc : Scope) (x : Str) : Prop := sc.names.lookup x = some .local ∨ sc.names.lookup x = some .cell
def Look (env : Env) (h : Heap) (m : Str → Option Value) (x : Str) (u : Value) : Prop :=
  (env.kindOf x = some .local ∧ m x = some u) ∨ ((env.kindOf x = some .cell ∨ env.kindOf x = some .free) ∧ ∃ c, env.cells.lookup x = some c ∧ h.IsCell c (some u))
structure Cx.Ok (X : Cx) : Prop where
  mod : Mod X.K X.mg X.base
  kind : X.env.scope.kind = .function
  glob : X.env.globals = mainGlobals
  blt : X.env.builtins = builtinsNs
  above : X.s_0.heap.objs.size ≤ X.env.locals
  inj : ∀ x y c, X.env.cells.lookup x = some c → X.env.cells.lookup y = some c → x = y
  has : ∀ x, (X.env.kindOf x = some .cell ∨ X.env.kindOf x = some .free) → ∃ c, X.env.cells.lookup x = some c
  cab : ∀ x c, X.fn x = true → X.env.cells.lookup x = some c → X.s_0.heap.objs.size ≤ c
  hd : X.calm = true → X.A.handled = none
  frames : X.A.frames = some X.stack
  stk : X.stack = X.outer ∨ (X.stack = X.env :: X.outer ∧ X.env.frame = some X.env.locals)
  exf : ∀ b ∈ X.ex, b ≠ X.env.locals ∧ ∀ x c, X.env.cells.lookup x = some c → c ≠ b
  bs : ∀ b o, X.base.get? b = some o → X.s_0.heap.get? b = some o ∧ X.H_0 b = none
  bsz : X.base.objs.size ≤ X.s_0.heap.objs.size
  noex : ∀ b o, X.base.get? b = some o → b ∉ X.ex
  exfs : ∀ b ∈ X.ex, b ∉ X.fs
  funs : X.s_0.heap.FunFrames X.base X.outer
  frf : ∀ b ∈ X.fs, X.H_0 b = none
structure Inv (X : Cx) (pins : List (Addr × Obj)) (σ : List (Option V)) (H : Hp) (s : Shared) : Prop where
  ok : X.Ok
  os : s.os = X.s_0.os
  bare : AllBare s.gens
  base : Un X.fs X.ex X.H_0 H X.s_0.heap s.heap
  loc : ∃ m, s.heap.Ns X.env.locals m ∧ ∀ (i : Nat) (x : Str) (v : V), X.N[i]? = some x → σ[i]? = some (some v) → Vis X.env.scope x → ∃ u, RelV v u ∧ Look X.env s.heap m x u
  cell : ∀ x c, X.env.cells.lookup x = some c → ∃ v, s.heap.IsCell c v
  free : H X.env.locals = none
  freeC : ∀ x c, X.env.cells.lookup x = some c → H c = none
  pin : ∀ p ∈ X.pn ++ pins, s.heap.get? p.1 = some p.2 ∧ H p.1 = none ∧ p.1 ≠ X.env.locals ∧ p.1 ∉ X.fs ∧ ∀ v, p.2.data ≠ .cell v
  hok : HOk X.prog X.w H s.heap
  len : σ.length = X.N.length
section
variable {X : Cx} {pins : List (Addr × Obj)} {σ : List (Option V)} {H H' : Hp} {s : Shared} {h' : Heap}
theorem Cx.Ok.nofr (ok : X.Ok) {b : Addr} {o : Obj} (e : X.base.get? b = some o) : b ∉ X.fs := fun hb => by
  have := (ok.funs.mem hb).1
  rw [e] at this; cases this
theorem Inv.bs (I : Inv X pins σ H s) : ∀ b o, X.base.get? b = some o → s.heap.get? b = some o ∧ H b = none := fun b o e =>
  ⟨I.base.keep b o (I.ok.bs b o e).1 (I.ok.bs b o e).2 (I.ok.nofr e) (I.ok.noex b o e), I.base.free b o (I.ok.bs b o e).1 (I.ok.bs b o e).2 (I.ok.noex b o e)⟩
theorem Inv.bk (I : Inv X pins σ H s) : ∀ b o, X.base.get? b = some o → s.heap.get? b = some o := fun b o e => (I.bs b o e).1
theorem Inv.mod (I : Inv X pins σ H s) : Mod X.K X.mg X.base := I.ok.mod
theorem Inv.kIn (I : Inv X pins σ H s) : X.K.In s.heap := I.ok.mod.kin.keeps I.bk
theorem Inv.lt (I : Inv X pins σ H s) : X.env.locals < s.heap.objs.size := let ⟨_, hn, _⟩ := I.loc; hn.lt
theorem Inv.sz (I : Inv X pins σ H s) : X.s_0.heap.objs.size ≤ s.heap.objs.size := Nat.le_trans I.ok.above (Nat.le_of_lt I.lt)
theorem Inv.nofs (I : Inv X pins σ H s) {a : Addr} (h : s.heap.objs.size ≤ a) : a ∉ X.fs := fun hb => by
  obtain ⟨_, o, ho, _⟩ := I.ok.funs.mem hb
  exact absurd (Nat.lt_of_lt_of_le (Heap.lt_size ho) (Nat.le_trans I.sz h)) (Nat.lt_irrefl _)
theorem Inv.cne (I : Inv X pins σ H s) : ∀ x c, X.env.cells.lookup x = some c → c ≠ X.env.locals := fun x c e z => by
  obtain ⟨v, o, ho, hd⟩ := I.cell x c e
  obtain ⟨m, ⟨o', es, ep, ho', hd', _⟩, _⟩ := I.loc
  rw [z, ho'] at ho; cases ho; rw [hd'] at hd; cases hd
theorem Inv.funs (I : Inv X pins σ H s) : s.heap.FunFrames X.base X.outer := by
  have all : ∀ (l : List Env), (∀ b ∈ frs l, b ∈ X.fs) → X.s_0.heap.FunFrames X.base l → s.heap.FunFrames X.base l := by
    intro l
    induction l with
    | nil => intro _ _; trivial
    | cons env r ih =>
      intro hs hl
      obtain ⟨hk, ⟨L, o, hf, hn, ho, hd⟩, hr⟩ := hl
      have hL : L ∈ X.fs := hs L (by unfold frs; rw [List.filterMap_cons, hf]; exact List.mem_cons_self)
      obtain ⟨sl, e⟩ := I.base.slot L o ho (I.ok.frf L hL) hL fun z => I.ok.exfs L z hL
      exact ⟨hk, ⟨L, _, hf, hn, e, hd⟩, ih (fun b hb => hs b (by unfold frs; rw [List.filterMap_cons, hf]; exact List.mem_cons_of_mem _ hb)) hr⟩
  exact all X.outer (fun _ hb => hb) I.ok.funs
theorem Inv.stack (I : Inv X pins σ H s) : s.heap.FunFrames X.base X.stack := by
  rcases I.ok.stk with e | ⟨e, hf⟩
  · rw [e]; exact I.funs
  · rw [e]
    obtain ⟨m, hn, _⟩ := I.loc
    refine .cons (by rw [I.ok.kind]; decide) hf hn ?_ I.funs
    exact Heap.get?_none_of_le (Nat.le_trans I.ok.bsz I.ok.above)
theorem Inv.stkSub (I : Inv X pins σ H s) : ∀ b ∈ frs X.stack, b ∈ X.env.locals :: X.fs := fun b hb => by
  rcases I.ok.stk with e | ⟨e, hf⟩
  · rw [e] at hb; exact List.mem_cons_of_mem _ hb
  · rw [e] at hb
    unfold frs at hb
    rw [List.filterMap_cons, hf] at hb
    exact hb
theorem Inv.stkFree (I : Inv X pins σ H s) : ∀ b ∈ frs X.stack, H b = none := fun b hb => by
  rcases List.mem_cons.mp (I.stkSub b hb) with e | hb
  · rw [e]; exact I.free
  · obtain ⟨_, o, ho, _⟩ := I.ok.funs.mem hb
    exact I.base.free b o ho (I.ok.frf b hb) fun z => I.ok.exfs b z hb
theorem Inv.step {g' : Array GenState} {t' : Nat} {d' : Drawn} {ch : List Addr} (I : Inv X pins σ H s)
    (hch : ∀ b ∈ ch, (b ∈ X.ex ∨ X.s_0.heap.objs.size ≤ b) ∧ b ≠ X.env.locals ∧ (∀ x c, X.env.cells.lookup x = some c → c ≠ b) ∧ ∀ p ∈ X.pn ++ pins, p.1 ≠ b)
    (keep : ∀ b o, b ≠ X.env.locals → b ∉ X.fs → b ∉ ch → s.heap.get? b = some o → H b = none → h'.get? b = some o)
    (slot : ∀ b o, b ≠ X.env.locals → b ∈ X.fs → b ∉ ch → s.heap.get? b = some o → H b = none → ∃ sl, h'.get? b = some { o with slots := sl }) (free : ∀ b o, b ∉ ch → s.heap.get? b = some o → H b = none → H' b = none)
    (there : ∀ b o, b ∉ ch → s.heap.get? b = some o → ∃ o', h'.get? b = some o')
    (tups : ∀ b xs, H b = some (.tup xs) → H' b = some (.tup xs)) (frzs : ∀ b o u, H b = some (.frz o u) → H' b = some (.frz o u)) (tbls : ∀ b ps, H b = some (.tbl ps) → ∃ more, H' b = some (.tbl (ps ++ more)))
    (ns : ∀ m, s.heap.Ns X.env.locals m → h'.Ns X.env.locals m) (hok : HOk X.prog X.w H' h') (hg : AllBare g') :
    Inv X pins σ H' { s with heap := h', gens := g', drawn := d', toks := t' } := by
  have neL : ∀ b o, X.s_0.heap.get? b = some o → b ≠ X.env.locals := fun b o e => Nat.ne_of_lt (Nat.lt_of_lt_of_le (Heap.lt_size e) I.ok.above)
  have neC : ∀ b o, X.s_0.heap.get? b = some o → b ∉ X.ex → b ∉ ch := fun b o e hx hb => by
    rcases (hch b hb).1 with z | z
    · exact hx z
    · exact absurd (Nat.lt_of_lt_of_le (Heap.lt_size e) z) (Nat.lt_irrefl _)
  have cellK : ∀ x c, X.env.cells.lookup x = some c → ∀ v, s.heap.IsCell c v → h'.IsCell c v := fun x c e v ⟨o, ho, hd⟩ => by
    have nch : c ∉ ch := fun z => (hch c z).2.2.1 x c e rfl
    by_cases hc : c ∈ X.fs
    · obtain ⟨sl, q⟩ := slot c o (I.cne x c e) hc nch ho (I.freeC x c e)
      exact ⟨_, q, hd⟩
    · exact ⟨o, keep c o (I.cne x c e) hc nch ho (I.freeC x c e), hd⟩
  refine ⟨I.ok, I.os, hg, ⟨fun b o e n hb hx => ?_, fun b o e n hb hx => ?_, fun b o e n hx => ?_, fun b o e hx => ?_, fun b xs e => tups b xs (I.base.tups b xs e), fun b o xs e => frzs b o xs (I.base.frzs b o xs e), fun b ps e => ?_⟩, ?_, fun x c e => ?_, ?_, fun x c e => ?_, fun p hp => ?_, hok, I.len⟩
  · exact keep b o (neL b o e) hb (neC b o e hx) (I.base.keep b o e n hb hx) (I.base.free b o e n hx)
  · obtain ⟨sl, e1⟩ := I.base.slot b o e n hb hx
    obtain ⟨sl', e2⟩ := slot b _ (neL b o e) hb (neC b o e hx) e1 (I.base.free b o e n hx)
    exact ⟨sl', e2⟩
  · obtain ⟨o', e1⟩ := I.base.there b o e hx
    exact free b o' (neC b o e hx) e1 (I.base.free b o e n hx)
  · obtain ⟨o', e1⟩ := I.base.there b o e hx
    exact there b o' (neC b o e hx) e1
  · obtain ⟨m1, e1⟩ := I.base.tbls b ps e
    obtain ⟨m2, e2⟩ := tbls b _ e1
    exact ⟨m1 ++ m2, by rw [e2, Array.append_assoc]⟩
  · obtain ⟨m, hn, hl⟩ := I.loc
    refine ⟨m, ns m hn, fun i x v e1 e2 e3 => ?_⟩
    obtain ⟨u, r, l⟩ := hl i x v e1 e2 e3
    refine ⟨u, r, ?_⟩
    rcases l with l | ⟨k, c, e, z⟩
    · exact .inl l
    · exact .inr ⟨k, c, e, cellK x c e _ z⟩
  · obtain ⟨v, z⟩ := I.cell x c e
    exact ⟨v, cellK x c e v z⟩
  · obtain ⟨m, ⟨o, _, _, ho, _⟩, _⟩ := I.loc
    exact free _ o (fun z => (hch _ z).2.1 rfl) ho I.free
  · obtain ⟨v, o, ho, hd⟩ := I.cell x c e
    exact free c o (fun z => (hch c z).2.2.1 x c e rfl) ho (I.freeC x c e)
  · obtain ⟨e, n, ne, nf, d⟩ := I.pin p hp
    have nch : p.1 ∉ ch := fun z => (hch p.1 z).2.2.2 p hp rfl
    exact ⟨keep p.1 p.2 ne nf nch e n, free p.1 p.2 nch e n, ne, nf, d⟩
theorem Inv.un {t' : Nat} (I : Inv X pins σ H s) (u : Un X.fs [] H H' s.heap h') (hok : HOk X.prog X.w H' h') : Inv X pins σ H' { s with heap := h', toks := t' } := by
  obtain ⟨m, ⟨o, es, ep, ho, r⟩, _⟩ := id I.loc
  obtain ⟨sl, hL⟩ := u.any ho I.free (by simp)
  exact I.step (g' := s.gens) (d' := s.drawn) (ch := []) (fun _ z => nomatch z) (fun b o _ hb _ e n => u.keep b o e n hb (by simp)) (fun b o _ hb _ e n => u.slot b o e n hb (by simp)) (fun b o _ e n => u.free b o e n (by simp)) (fun b o _ e => u.there b o e (by simp)) u.tups u.frzs u.tbls (fun m' hm => by
    obtain ⟨o', es', ep', ho', r'⟩ := hm
    rw [ho] at ho'; cases ho'
    exact ⟨_, es', ep', hL, r'⟩) hok I.bare
theorem Inv.call {g' : Array GenState} {t' : Nat} {d' : Drawn} {ch : List Addr} (I : Inv X pins σ H s) (u : Un (frs X.stack) ch H H' s.heap h') (hok : HOk X.prog X.w H' h') (hg : AllBare g')
    (hch : ∀ b ∈ ch, (b ∈ X.ex ∨ X.s_0.heap.objs.size ≤ b) ∧ b ≠ X.env.locals ∧ (∀ x c, X.env.cells.lookup x = some c → c ≠ b) ∧ ∀ p ∈ X.pn ++ pins, p.1 ≠ b) :
    Inv X pins σ H' { s with heap := h', gens := g', drawn := d', toks := t' } := by
  obtain ⟨m, ⟨o, es, ep, ho, r⟩, _⟩ := id I.loc
  obtain ⟨sl, hL⟩ := u.any ho I.free fun z => (hch _ z).2.1 rfl
  exact I.step (ch := ch) hch (fun b o hL hb hc e n => u.keep b o e n (fun z => (List.mem_cons.mp (I.stkSub b z)).elim hL hb) hc) (fun b o _ _ hc e n => u.any e n hc) (fun b o hc e n => u.free b o e n hc) (fun b o hc e => u.there b o e hc) u.tups u.frzs u.tbls (fun m' hm => by
    obtain ⟨o', es', ep', ho', r'⟩ := hm
    rw [ho] at ho'; cases ho'
    exact ⟨_, es', ep', hL, r'⟩) hok hg
theorem Inv.turned {t' : Nat} {it : Addr} (I : Inv X pins σ H s) (k : ∀ b o, b ≠ it → s.heap.get? b = some o → h'.get? b = some o) (hn : H it = none) (hL : it ≠ X.env.locals)
    (h1 : it ∈ X.ex ∨ X.s_0.heap.objs.size ≤ it) (h2 : ∀ x c, X.env.cells.lookup x = some c → c ≠ it) (h3 : ∀ p ∈ X.pn ++ pins, p.1 ≠ it) : Inv X pins σ H { s with heap := h', toks := t' } := by
  have nit : ∀ b u, H b = some u → b ≠ it := fun b u e z => by rw [z, hn] at e; cases e
  refine I.step (g' := s.gens) (d' := s.drawn) (ch := [it]) (fun b hb => ?_) (fun b o _ _ hc e _ => k b o (fun z => hc (by simp [z])) e) (fun b o _ _ hc e _ => ⟨o.slots, k b o (fun z => hc (by simp [z])) e⟩) (fun _ _ _ _ n => n)
    (fun b o hc e => ⟨o, k b o (fun z => hc (by simp [z])) e⟩) (fun _ _ e => e) (fun _ _ _ e => e) (fun b ps e => ⟨#[], by rw [e]; simp⟩) (fun m hm => ?_) (fun b u e => ?_) I.bare
  · have e : b = it := by simpa using hb
    subst e
    exact ⟨h1, hL, h2, h3⟩
  · obtain ⟨o, es, ep, ho, r⟩ := hm
    exact ⟨o, es, ep, k _ o (Ne.symm hL) ho, r⟩
  · refine (I.hok b u e).stay (fun c v hc q => k c v ?_ q) (fun _ q => q) fun _ _ q => q
    rcases hc with z | z
    · rw [z]; exact nit b u e
    · exact nit c _ z
theorem Inv.tok (I : Inv X pins σ H s) (t : Nat) : Inv X pins σ H { s with toks := t } := I.un (h' := s.heap) (t' := t) Un.refl I.hok
theorem Inv.kept {t' : Nat} (I : Inv X pins σ H s) (k : ∀ b u, s.heap.get? b = some u → h'.get? b = some u) : Inv X pins σ H { s with heap := h', toks := t' } := I.un (Un.kept k) (I.hok.kept k)
theorem Inv.laid {a : Addr} {o : HO} {t' : Nat} (I : Inv X pins σ H s) (k : ∀ b u, s.heap.get? b = some u → h'.get? b = some u) (hp : s.heap.objs.size ≤ a) (new : ObjOk X.prog X.w (upd H a o) h' a o) :
    Inv X pins σ (upd H a o) { s with heap := h', toks := t' } := I.un (Un.laid k hp (I.hok.fresh hp)) (I.hok.laid k hp new)
theorem Inv.write {x e : Addr} {o : HO} {t' : Nat} (I : Inv X pins σ H s) (mu : Mut (H x)) (he : e = x ∨ H e = some (.own x)) (k : ∀ b u, b ≠ e → s.heap.get? b = some u → h'.get? b = some u) (heo : ∃ u, h'.get? e = some u)
    (new : ObjOk X.prog X.w (upd H x o) h' x o) : Inv X pins σ (upd H x o) { s with heap := h', toks := t' } := I.un (Un.write mu he k heo) (I.hok.write mu he k heo new)
theorem Inv.weak {σ' : List (Option V)} (I : Inv X pins σ H s) (hl : σ'.length = σ.length) (w : ∀ (i : Nat) v, σ'[i]? = some (some v) → σ[i]? = some (some v)) : Inv X pins σ' H s :=
  ⟨I.ok, I.os, I.bare, I.base, let ⟨m, hn, hl'⟩ := I.loc; ⟨m, hn, fun i x v e1 e2 e3 => hl' i x v e1 (w i v e2) e3⟩, I.cell, I.free, I.freeC, I.pin, I.hok, hl.trans I.len⟩
theorem Inv.pins_of {pins' : List (Addr × Obj)} (I : Inv X pins σ H s) (h : ∀ p ∈ pins', s.heap.get? p.1 = some p.2 ∧ H p.1 = none ∧ p.1 ≠ X.env.locals ∧ p.1 ∉ X.fs ∧ ∀ v, p.2.data ≠ .cell v) : Inv X pins' σ H s :=
  ⟨I.ok, I.os, I.bare, I.base, I.loc, I.cell, I.free, I.freeC, fun p hp => (List.mem_append.mp hp).elim (fun z => I.pin p (List.mem_append_left _ z)) (h p), I.hok, I.len⟩
theorem nodup_ix {N : List Str} (hN : N.Nodup) {i j : Nat} {x : Str} (a : N[i]? = some x) (b : N[j]? = some x) : i = j := by
  obtain ⟨h1, e1⟩ := List.getElem?_eq_some_iff.mp a
  obtain ⟨h2, e2⟩ := List.getElem?_eq_some_iff.mp b
  exact (List.getElem_inj hN).mp (e1.trans e2.symm)
theorem store_ok2 {M : Model} {A : Around} {E : Value → Shared → Prop} {i : Nat} {x : Str} {v : V} {u : Value} {Q : Unit → Shared → Prop} (I : Inv X pins σ H s) (hN : X.N.Nodup) (hi : X.N[i]? = some x) (hx : Loc X.env.scope x) (r : RelV v u)
    (h : ∀ s', Inv X pins (σ.set i (some v)) H s' → (∃ a, Heap.SameBut a s.heap s'.heap ∧ (a = X.env.locals ∨ X.env.cells.lookup x = some a)) → Q () s') (hf : X.fn x = true ∨ X.env.scope.names.lookup x = some .local := by first | exact .inl rfl | exact .inr rfl | assumption) : wpAny M A (storeName X.env x u) Q E s := by
  obtain ⟨m, hn, hl⟩ := id I.loc
  have hcls : (X.env.scope.kind == .class || (X.env.scope.kind == .module && X.env.locals != X.env.globals)) = false := by rw [I.ok.kind]; rfl
  have hiσ : i < σ.length := by rw [I.len]; exact (List.getElem?_eq_some_iff.mp hi).1
  have cne := I.cne
  have tracked : ∀ {a : Addr} {h' : Heap}, (∃ o, s.heap.get? a = some o ∧ H a = none) → Heap.SameBut a s.heap h' → HOk X.prog X.w H h' := fun {a h'} ha hs b ob e => by
    obtain ⟨_, _, hfree⟩ := ha
    refine (I.hok b ob e).stay (fun c w' hc q => (hs.2 c ?_).trans q) (fun _ q => q) fun _ _ q => q
    rintro rfl
    rcases hc with rfl | hc
    · rw [hfree] at e; cases e
    · rw [hfree] at hc; cases hc
  rcases hx with hk | hk
  · refine wpAny_storeName_local hk hn (fun h' hn' hs => ?_) hcls
    obtain ⟨oL, _, _, hoL, _⟩ := id hn
    refine h _ ⟨I.ok, I.os, I.bare, ⟨fun b o e n hb hx => ?_, fun b o e n hb hx => ?_, I.base.free, fun b o e hx => ?_, I.base.tups, I.base.frzs, I.base.tbls⟩, ⟨_, hn', fun j y v' e1 e2 e3 => ?_⟩, fun y c e => ?_, I.free, I.freeC, fun p hp => ?_, tracked ⟨oL, hoL, I.free⟩ hs, by simpa using I.len⟩ ⟨_, hs, .inl rfl⟩
    · exact (hs.2 b (Nat.ne_of_lt (Nat.lt_of_lt_of_le (Heap.lt_size e) I.ok.above))).trans (I.base.keep b o e n hb hx)
    · obtain ⟨sl, e1⟩ := I.base.slot b o e n hb hx
      exact ⟨sl, (hs.2 b (Nat.ne_of_lt (Nat.lt_of_lt_of_le (Heap.lt_size e) I.ok.above))).trans e1⟩
    · obtain ⟨o', e1⟩ := I.base.there b o e hx
      exact ⟨o', (hs.2 b (Nat.ne_of_lt (Nat.lt_of_lt_of_le (Heap.lt_size e) I.ok.above))).trans e1⟩
    · by_cases hj : j = i
      · subst hj
        rw [hi] at e1; cases e1
        rw [List.getElem?_set_self hiσ] at e2
        cases e2
        exact ⟨u, r, .inl ⟨hk, by simp⟩⟩
      · rw [List.getElem?_set_ne (Ne.symm hj)] at e2
        obtain ⟨u', r', q⟩ := hl j y v' e1 e2 e3
        refine ⟨u', r', ?_⟩
        rcases q with ⟨k, e⟩ | ⟨k, c, e, z⟩
        · refine .inl ⟨k, ?_⟩
          have : y ≠ x := fun e => hj (nodup_ix hN e1 (e ▸ hi))
          simp [this, e]
        · exact .inr ⟨k, c, e, z.sameBut hs (cne y c e)⟩
    · obtain ⟨w', z⟩ := I.cell y c e
      exact ⟨w', z.sameBut hs (cne y c e)⟩
    · obtain ⟨e, n, ne, nf, d⟩ := I.pin p hp
      exact ⟨(hs.2 p.1 ne).trans e, n, ne, nf, d⟩
  · have hfn : X.fn x = true := by
      rcases hf with z | z
      · exact z
      · rw [z] at hk; cases hk
    obtain ⟨c, hc⟩ := I.ok.has x (.inl hk)
    obtain ⟨w', z⟩ := I.cell x c hc
    refine wpAny_storeName_cell I.ok.kind hk hc z (fun h' hc' hs => ?_)
    obtain ⟨oc, hoc, hocd⟩ := id z
    refine h { s with heap := h' } ⟨I.ok, I.os, I.bare, ⟨fun b o e n hb hx => ?_, fun b o e n hb hx => ?_, I.base.free, fun b o e hx => ?_, I.base.tups, I.base.frzs, I.base.tbls⟩, ⟨m, hn.sameBut hs (Ne.symm (cne x c hc)), fun j y v' e1 e2 e3 => ?_⟩, fun y c' e => ?_, I.free, I.freeC, fun p hp => ?_, tracked ⟨oc, hoc, I.freeC x c hc⟩ hs, by simpa using I.len⟩ ⟨c, hs, .inr hc⟩
    · exact (hs.2 b (Nat.ne_of_lt (Nat.lt_of_lt_of_le (Heap.lt_size e) (I.ok.cab x c hfn hc)))).trans (I.base.keep b o e n hb hx)
    · obtain ⟨sl, e1⟩ := I.base.slot b o e n hb hx
      exact ⟨sl, (hs.2 b (Nat.ne_of_lt (Nat.lt_of_lt_of_le (Heap.lt_size e) (I.ok.cab x c hfn hc)))).trans e1⟩
    · obtain ⟨o', e1⟩ := I.base.there b o e hx
      exact ⟨o', (hs.2 b (Nat.ne_of_lt (Nat.lt_of_lt_of_le (Heap.lt_size e) (I.ok.cab x c hfn hc)))).trans e1⟩
    · by_cases hj : j = i
      · subst hj
        rw [hi] at e1; cases e1
        rw [List.getElem?_set_self hiσ] at e2
        cases e2
        exact ⟨u, r, .inr ⟨.inl hk, c, hc, hc'⟩⟩
      · rw [List.getElem?_set_ne (Ne.symm hj)] at e2
        obtain ⟨u', r', q⟩ := hl j y v' e1 e2 e3
        refine ⟨u', r', ?_⟩
        rcases q with q | ⟨k, c', e, z'⟩
        · exact .inl q
        · refine .inr ⟨k, c', e, z'.sameBut hs ?_⟩
          rintro rfl
          exact hj (nodup_ix hN e1 (I.ok.inj _ _ _ e hc ▸ hi))
    · by_cases hcc : c' = c
      · subst hcc; exact ⟨_, hc'⟩
      · obtain ⟨w2, z2⟩ := I.cell y c' e
        exact ⟨w2, z2.sameBut hs hcc⟩
    · obtain ⟨e, n, ne, nf, d⟩ := I.pin p hp
      refine ⟨(hs.2 p.1 ?_).trans e, n, ne, nf, d⟩
      intro q
      rw [q, hoc] at e
      have q' : oc = p.2 := Option.some.inj e
      exact d w' (by rw [← q']; exact hocd)
theorem store_ok {M : Model} {A : Around} {E : Value → Shared → Prop} {i : Nat} {x : Str} {v : V} {u : Value} {Q : Unit → Shared → Prop} (I : Inv X pins σ H s) (hN : X.N.Nodup) (hi : X.N[i]? = some x) (hx : Loc X.env.scope x) (r : RelV v u)
    (h : ∀ s', Inv X pins (σ.set i (some v)) H s' → Q () s') (hf : X.fn x = true ∨ X.env.scope.names.lookup x = some .local := by first | exact .inl rfl | exact .inr rfl | assumption) : wpAny M A (storeName X.env x u) Q E s :=
  store_ok2 I hN hi hx r (fun s' I' _ => h s' I') hf
theorem Inv.call' {s' : Shared} {ch : List Addr} (I : Inv X pins σ H s) (ho : s'.os = s.os) (u : Un (frs X.stack) ch H H' s.heap s'.heap) (hok : HOk X.prog X.w H' s'.heap) (hg : AllBare s'.gens)
    (hch : ∀ b ∈ ch, (b ∈ X.ex ∨ X.s_0.heap.objs.size ≤ b) ∧ b ≠ X.env.locals ∧ (∀ x c, X.env.cells.lookup x = some c → c ≠ b) ∧ ∀ p ∈ X.pn ++ pins, p.1 ≠ b) : Inv X pins σ H' s' := by
  obtain ⟨h', g', d', t', o'⟩ := s'
  have e : o' = s.os := ho
  subst e
  exact I.call (g' := g') (t' := t') (d' := d') u hok hg hch
end
abbrev XK := Value → Option Addr → Hp → Prop
abbrev St := List (Option V)
abbrev VK := V → Hp → Prop
abbrev TE := St → Hp → VK → Prop
abbrev TT := St → Hp → (Bool → Hp → Prop) → Prop
abbrev TA := St → Hp → (List V → Hp → Prop) → Prop
structure Ends where
  nx : St → Hp → Prop
  rt : VK
  bk : St → Hp → Prop := fun _ _ => False
  ct : St → Hp → Prop := fun _ _ => False
abbrev TS := Ends → St → Hp → Prop
def EP (X : Cx) (pins : List (Addr × Obj)) (σ : St) (Q : VK) (u : Value) (s' : Shared) : Prop := ∃ v H', Inv X pins σ H' s' ∧ RelV v u ∧ Q v H'
def TP (X : Cx) (pins : List (Addr × Obj)) (σ : St) (Q : Bool → Hp → Prop) (b : Bool) (s' : Shared) : Prop := ∃ H', Inv X pins σ H' s' ∧ Q b H'
def AP (X : Cx) (pins : List (Addr × Obj)) (σ : St) (Q : List V → Hp → Prop) (us : List Value) (s' : Shared) : Prop := ∃ vs H', Inv X pins σ H' s' ∧ Vals vs us ∧ Q vs H'
def SP (X : Cx) (pins : List (Addr × Obj)) (D : Ends) (f : Flow) (s' : Shared) : Prop :=
  match f with
  | .next => ∃ σ' H', Inv X pins σ' H' s' ∧ D.nx σ' H'
  | .brk => ∃ σ' H', Inv X pins σ' H' s' ∧ D.bk σ' H'
  | .cont => ∃ σ' H', Inv X pins σ' H' s' ∧ D.ct σ' H'
  | .ret u => ∃ v σ' H', Inv X pins σ' H' s' ∧ RelV v u ∧ D.rt v H'
def PE (X : Cx) (e : Expr) (t : TE) : Prop :=
  ∀ (pins : List (Addr × Obj)) (s : Shared) (σ : St) (H : Hp) (Q : VK), Inv X pins σ H s → t σ H Q → wpAny (model X.prog X.w) X.A (eval e X.env) (EP X pins σ Q) X.xe s
def PT (X : Cx) (e : Expr) (t : TT) : Prop :=
  ∀ (pins : List (Addr × Obj)) (s : Shared) (σ : St) (H : Hp) (Q : Bool → Hp → Prop), Inv X pins σ H s → t σ H Q → wpAny (model X.prog X.w) X.A (isTrue e X.env (eval e X.env)) (TP X pins σ Q) X.xe s
def PW (X : Cx) (e : Expr) (t : TT) : Prop :=
  ∀ (whole : Sem Value) (pins : List (Addr × Obj)) (s : Shared) (σ : St) (H : Hp) (Q : Bool → Hp → Prop), Inv X pins σ H s → t σ H Q → wpAny (model X.prog X.w) X.A (isTrue e X.env whole) (TP X pins σ Q) X.xe s
theorem PW.pt {X : Cx} {e : Expr} {t : TT} (h : PW X e t) : PT X e t := h _
def PA (X : Cx) (es : List Expr) (t : TA) : Prop :=
  ∀ (pos : Pos) (pins : List (Addr × Obj)) (s : Shared) (σ : St) (H : Hp) (Q : List V → Hp → Prop), Inv X pins σ H s → t σ H Q → wpAny (model X.prog X.w) X.A (spliced (backTo pos (starEach es X.env))) (AP X pins σ Q) X.xe s
def PS (X : Cx) (st : Stmt) (t : TS) : Prop :=
  ∀ (pins : List (Addr × Obj)) (s : Shared) (σ : St) (H : Hp) (D : Ends), Inv X pins σ H s → t D σ H → wpAny (model X.prog X.w) X.A (exec st X.env) (SP X pins D) X.xe s
def PSs (X : Cx) (st : List Stmt) (t : TS) : Prop :=
  ∀ (pins : List (Addr × Obj)) (s : Shared) (σ : St) (H : Hp) (D : Ends), Inv X pins σ H s → t D σ H → wpAny (model X.prog X.w) X.A (execs st X.env) (SP X pins D) X.xe s
theorem thn {α : Type} {t : Sem α} {Q Q' : α → Shared → Prop} {M : Model} {A : Around} {E : Value → Shared → Prop} {s : Shared} (h : wpAny M A t Q E s) (hQ : ∀ a s, Q a s → Q' a s) : wpAny M A t Q' E s := wpAny_mono h hQ fun _ _ x => x
end L2
namespace L2
open PySem PySem.Spec PyProof.Rows
section
variable {X : Cx}
def tVar (i : Nat) : TE := fun σ H Q => ∃ v, σ[i]? = some (some v) ∧ Q v H
def tC (v : V) : TE := fun _ H Q => Q v H
theorem pe_var {i : Nat} {x : Str} {pos : Pos} (hN : X.N[i]? = some x) (hv : Vis X.env.scope x) (hd : (x == ("__debug__" : Str)) = false := by decide) (hcd : (x == ("__classdict__" : Str)) = false := by decide) : PE X (.Name x pos) (tVar i) := by
  intro pins s σ H Q I h
  obtain ⟨v, e, h⟩ := h
  obtain ⟨m, hn, hl⟩ := I.loc
  obtain ⟨u, r, l⟩ := hl i x v hN e hv
  have fin : EP X pins σ Q u s := ⟨v, H, I, r, h⟩
  rcases l with ⟨hk, hm⟩ | ⟨hk, c, hc, hcell⟩
  · exact wpAny_Name (wpAny_loadName_local I.ok.kind hk hn hm fin) hd
  · rcases hk with hk | hk
    · exact wpAny_Name (wpAny_loadName_cell I.ok.kind hk hc hcell fin) hd
    · exact wpAny_Name (wpAny_loadName_free I.ok.kind hk hc hcell fin hcd) hd
theorem pe_int {i j pos} : PE X (.Constant (.int i) j pos) (tC (.int i)) := fun _ _ _ H _ I h => wpAny_Constant_int ⟨.int i, H, I.tok _, ⟨_, rfl⟩, h⟩
theorem pe_bl {b j pos} : PE X (.Constant (.bool b) j pos) (tC (.bl b)) := fun _ _ _ H _ I h => Constant_bool ⟨.bl b, H, I, rfl, h⟩
def Gl (X : Cx) (x : Str) : Prop := X.env.kindOf x = some .globalImplicit
theorem ld_glob {E : Value → Shared → Prop} {pins : List (Addr × Obj)} {s : Shared} {σ : St} {H : Hp} {x : Str} {u : Value} {pos : Pos} {Q : Value → Shared → Prop} (I : Inv X pins σ H s) (hg : Gl X x) (hm : X.mg x = some u) (h : Q u s)
    (hd : (x == ("__debug__" : Str)) = false := by decide) : wpAny (model X.prog X.w) X.A (eval (.Name x pos) X.env) Q E s :=
  Calls.Name_function_global I.ok.kind hg (Calls.loadGlobal_global (by rw [I.ok.glob]; exact I.mod.glob.keeps I.bk) hm h) hd
theorem ld_blt {E : Value → Shared → Prop} {pins : List (Addr × Obj)} {s : Shared} {σ : St} {H : Hp} {x : Str} {u : Value} {pos : Pos} {Q : Value → Shared → Prop} (I : Inv X pins σ H s) (hg : Gl X x) (hm : X.mg x = none) (hv : bootBuiltins x = some u) (h : Q u s)
    (hn : x ≠ "__name__" := by decide) (hd : (x == ("__debug__" : Str)) = false := by decide) : wpAny (model X.prog X.w) X.A (eval (.Name x pos) X.env) Q E s := by
  obtain ⟨mb, h1, h2⟩ := I.mod.blt
  exact Calls.Name_function_global I.ok.kind hg (Calls.loadGlobal_builtin (by rw [I.ok.glob]; exact I.mod.glob.keeps I.bk) hm (by rw [I.ok.blt]; exact h1.keeps I.bk) ((h2 x hn).trans hv) h) hd
theorem pe_glob {x : Str} {v : V} {u : Value} {pos : Pos} (hg : Gl X x) (hm : X.mg x = some u) (r : RelV v u) (hd : (x == ("__debug__" : Str)) = false := by decide) : PE X (.Name x pos) (tC v) :=
  fun _ _ _ H _ I h => ld_glob I hg hm ⟨v, H, I, r, h⟩ hd
variable {a b : Expr} {ta tb : TE} {pos : Pos}
def tB (t : TE) : TT := fun σ H Q => t σ H fun x H1 => ∃ c, x = .bl c ∧ Q c H1
theorem pt_val {e : Expr} {t : TE} (h : PE X e t) (he : ∀ whole, isTrue e X.env whole = (do let v ← whole; standAt e.pos; holding [v] (truthy v)) := by intro _; rfl) : PT X e (tB t) := by
  intro pins s σ H Q I hw
  refine isTrue_plain (thn (h pins s σ H _ I hw) fun v s1 ⟨x, H1, I1, r1, q1⟩ => ?_) (he _)
  obtain ⟨d, rfl, q⟩ := q1
  cases r1
  exact wpAny_truthy_bool ⟨H1, I1, q⟩
variable {tA tB' : TT} {rest : List Expr}
def tAnd (t u : TT) : TT := fun σ H Q => t σ H fun c H1 => if c = true then u σ H1 Q else Q false H1
def tOr (t u : TT) : TT := fun σ H Q => t σ H fun c H1 => if c = true then Q true H1 else u σ H1 Q
def tNot (t : TT) : TT := fun σ H Q => t σ H fun c H1 => Q (!c) H1
theorem pw_and1 (ha : PT X a tA) : PW X (.BoolOp .And [a] pos) tA := by
  intro wh pins s σ H Q I h
  refine isTrue_and (thn (ha pins s σ H Q I h) fun c s1 e => ?_)
  cases c with
  | true => exact isTrue_and_nil e
  | false => exact e
theorem pw_or1 (ha : PT X a tA) : PW X (.BoolOp .Or [a] pos) tA := by
  intro wh pins s σ H Q I h
  refine isTrue_or (thn (ha pins s σ H Q I h) fun c s1 e => ?_)
  cases c with
  | false => exact isTrue_or_nil e
  | true => exact e
theorem pw_and (ha : PT X a tA) (hb : PW X (.BoolOp .And (b :: rest) pos) tB') : PW X (.BoolOp .And (a :: b :: rest) pos) (tAnd tA tB') := by
  intro wh pins s σ H Q I h
  refine isTrue_and (thn (ha pins s σ H _ I h) fun c s1 ⟨H1, I1, q1⟩ => ?_)
  cases c with
  | true => exact hb wh pins s1 σ H1 Q I1 q1
  | false => exact ⟨H1, I1, q1⟩
theorem pw_or (ha : PT X a tA) (hb : PW X (.BoolOp .Or (b :: rest) pos) tB') : PW X (.BoolOp .Or (a :: b :: rest) pos) (tOr tA tB') := by
  intro wh pins s σ H Q I h
  refine isTrue_or (thn (ha pins s σ H _ I h) fun c s1 ⟨H1, I1, q1⟩ => ?_)
  cases c with
  | true => exact ⟨H1, I1, q1⟩
  | false => exact hb wh pins s1 σ H1 Q I1 q1
theorem pt_not (ha : PT X a tA) : PT X (.UnaryOp .Not a pos) (tNot tA) := by
  intro pins s σ H Q I h
  exact isTrue_not (ha pins s σ H (fun c H1 => Q (!c) H1) I h)
def tAndV (ta tb : TE) : TE := fun σ H Q => ta σ H fun x H1 => ∃ c, x = .bl c ∧ if c = true then tb σ H1 Q else Q (.bl false) H1
def tOrV (ta tb : TE) : TE := fun σ H Q => ta σ H fun x H1 => ∃ c, x = .bl c ∧ if c = true then Q (.bl true) H1 else tb σ H1 Q
def tNotV (ta : TE) : TE := fun σ H Q => ta σ H fun x H1 => ∃ c, x = .bl c ∧ Q (.bl (!c)) H1
theorem pe_one {op} {t : TE} (h : PE X a t) : PE X (.BoolOp op [a] pos) t := fun pins s σ H Q I hw => BoolOp_one (h pins s σ H Q I hw)
theorem pe_and (ha : PE X a ta) (hb : PE X (.BoolOp .And (b :: rest) pos) tb) : PE X (.BoolOp .And (a :: b :: rest) pos) (tAndV ta tb) := by
  intro pins s σ H Q I h
  refine BoolOp_and (thn (ha pins s σ H _ I h) fun v s1 ⟨x, H1, I1, r1, q1⟩ => ?_)
  obtain ⟨c, rfl, q1⟩ := q1
  cases r1
  refine wpAny_truthy_bool ?_
  cases c with
  | true => exact hb pins s1 σ H1 Q I1 q1
  | false => exact ⟨.bl false, H1, I1, rfl, q1⟩
def tIf (t : TT) (ta tb : TE) : TE := fun σ H Q => t σ H fun c H1 => if c = true then ta σ H1 Q else tb σ H1 Q
theorem pe_ifExp {c : Expr} (hc : PT X c tA) (ha : PE X a ta) (hb : PE X b tb) : PE X (.IfExp c a b pos) (tIf tA ta tb) := by
  intro pins s σ H Q I h
  refine wpAny_IfExp (thn (hc pins s σ H _ I h) fun d s1 ⟨H1, I1, q1⟩ => ?_)
  cases d with
  | true => exact ha pins s1 σ H1 Q I1 q1
  | false => exact hb pins s1 σ H1 Q I1 q1
end
end L2
namespace L2
open PySem PySem.Spec PyProof.Rows
def SqL (K : PySem.W.Frag) (H : Hp) (a : Addr) (xs : List V) : Prop :=
  Rd H a (.lst xs) ∨
    ∃ (o : Obj) (its : Array Value) (n : Nat), K.lookup a = some o ∧ o.cls = .type "list" ∧ o.dict = none ∧ o.data = .seq its n ∧ its.size ≤ sizeLine ∧ Vals xs its.toList
def SqT (K : PySem.W.Frag) (H : Hp) (a : Addr) (xs : List V) : Prop :=
  Rd H a (.tup xs) ∨
    ∃ (o : Obj) (its : Array Value) (n : Nat), K.lookup a = some o ∧ o.cls = .type "tuple" ∧ o.data = .seq its n ∧ its.size ≤ sizeLine ∧ Vals xs its.toList
def absV : Value → Option V
  | .none => some .non
  | .bool b => some (.bl b)
  | .int i _ => some (.int i)
  | .str x _ => some (.str x)
  | .bytes b _ => some (.byt b)
  | .float b _ => some (.flt b)
  | .ref a => some (.ref a)
  | .type n => some (.ty n)
  | _ => none
theorem RelV.abs {x : V} {u : Value} (r : RelV x u) : absV u = some x := by
  cases x with
  | non => cases r; rfl
  | bl _ => cases r; rfl
  | int _ => obtain ⟨t, rfl⟩ := r; rfl
  | str _ => obtain ⟨t, rfl⟩ := r; rfl
  | byt _ => obtain ⟨t, rfl⟩ := r; rfl
  | flt _ => obtain ⟨t, rfl⟩ := r; rfl
  | ref _ => cases r; rfl
  | ty _ => cases r; rfl
theorem RelV.inj {x y : V} {u : Value} (r : RelV x u) (q : RelV y u) : x = y := Option.some.inj (r.abs.symm.trans q.abs)
theorem Vals.inj : ∀ {xs ys : List V} {us : List Value}, Vals xs us → Vals ys us → xs = ys
  | _, _, _, .nil, .nil => rfl
  | _, _, _, .cons r t, .cons r' t' => by rw [r.inj r', Vals.inj t t']
section
variable {X : Cx} {pins : List (Addr × Obj)} {σ : St} {H : Hp} {s : Shared} {a : Addr} {xs ys : List V}
theorem SqL.of {K : PySem.W.Frag} (h : H a = some (.lst xs)) : SqL K H a xs := .inl (.inl h)
theorem Inv.list (I : Inv X pins σ H s) (h : SqL X.K H a xs) : ∃ its : List Value, Vals xs its ∧ PlainL s.heap a its.toArray ∧ xs.length ≤ sizeLine := by
  rcases h with h | ⟨o, its, n, hk, hc, hd, hs, hz, r⟩
  · obtain ⟨z, its, n, r, e⟩ := h.ok I.hok
    exact ⟨its, r, ⟨_, n, e, rfl, rfl, rfl⟩, z⟩
  · refine ⟨its.toList, r, ⟨o, n, I.kIn a o hk, hc, hd, by simpa using hs⟩, ?_⟩
    have e := r.length
    simp only [Array.length_toList] at e
    omega
theorem Inv.tuple (I : Inv X pins σ H s) (h : SqT X.K H a xs) : ∃ its : List Value, Vals xs its ∧ IsTup s.heap a its.toArray ∧ xs.length ≤ sizeLine := by
  rcases h with h | ⟨o, its, n, hk, hc, hs, hz, r⟩
  · obtain ⟨z, its, r, p⟩ := h.ok I.hok
    exact ⟨its, r, p, z⟩
  · refine ⟨its.toList, r, ⟨o, I.kIn a o hk, hc, n, by simpa using hs⟩, ?_⟩
    have e := r.length
    simp only [Array.length_toList] at e
    omega
theorem Inv.list_inj (I : Inv X pins σ H s) (h : SqL X.K H a xs) (h' : SqL X.K H a ys) : xs = ys := by
  obtain ⟨its, r, ⟨o, n, e, _, _, d⟩, _⟩ := I.list h
  obtain ⟨its', r', ⟨o', n', e', _, _, d'⟩, _⟩ := I.list h'
  rw [e] at e'; cases e'
  rw [d] at d'
  injection d' with d1 _
  have : its = its' := by simpa using congrArg Array.toList d1
  subst this
  exact r.inj r'
end
abbrev Cx.wish (X : Cx) (E : Value → Shared → Prop) : Cx := { X with xe := E }
abbrev Cx.nox (X : Cx) : Cx := X.wish fun _ _ => False
theorem Cx.Ok.wish {X : Cx} (ok : X.Ok) (E : Value → Shared → Prop) : (X.wish E).Ok :=
  ⟨ok.mod, ok.kind, ok.glob, ok.blt, ok.above, ok.inj, ok.has, ok.cab, ok.hd, ok.frames, ok.stk, ok.exf, ok.bs, ok.bsz, ok.noex, ok.exfs, ok.funs, ok.frf⟩
theorem Cx.Ok.unwish {X : Cx} {E : Value → Shared → Prop} (ok : (X.wish E).Ok) : X.Ok :=
  ⟨ok.mod, ok.kind, ok.glob, ok.blt, ok.above, ok.inj, ok.has, ok.cab, ok.hd, ok.frames, ok.stk, ok.exf, ok.bs, ok.bsz, ok.noex, ok.exfs, ok.funs, ok.frf⟩
section
variable {X : Cx} {pins : List (Addr × Obj)} {σ : St} {H : Hp} {s : Shared} {E : Value → Shared → Prop}
theorem Inv.wish (I : Inv X pins σ H s) (E : Value → Shared → Prop) : Inv (X.wish E) pins σ H s := ⟨I.ok.wish E, I.os, I.bare, I.base, I.loc, I.cell, I.free, I.freeC, I.pin, I.hok, I.len⟩
theorem Inv.unwish (I : Inv (X.wish E) pins σ H s) : Inv X pins σ H s := ⟨I.ok.unwish, I.os, I.bare, I.base, I.loc, I.cell, I.free, I.freeC, I.pin, I.hok, I.len⟩
theorem SP.unwish {D : Ends} {f : Flow} {s' : Shared} (h : SP (X.wish E) pins D f s') : SP X pins D f s' := by
  cases f with
  | next => obtain ⟨σ', H', I, q⟩ := h; exact ⟨σ', H', I.unwish, q⟩
  | brk => obtain ⟨σ', H', I, q⟩ := h; exact ⟨σ', H', I.unwish, q⟩
  | cont => obtain ⟨σ', H', I, q⟩ := h; exact ⟨σ', H', I.unwish, q⟩
  | ret u => obtain ⟨v, σ', H', I, r, q⟩ := h; exact ⟨v, σ', H', I.unwish, r, q⟩
theorem PSs.nox {st : List Stmt} {t : TS} (h : PSs X.nox st t) : PSs X st t := fun pins s σ H D I hw =>
  wpAny_mono (h pins s σ H D (I.wish _) hw) (fun _ _ q => q.unwish) fun _ _ z => False.elim z
end
section
variable {X : Cx} {st : Stmt} {rest : List Stmt} {t u : TS} {e : Expr} {te : TE} {pos : Pos}
def tNext : TS := fun D σ H => D.nx σ H
def tSeq (t u : TS) : TS := fun D σ H => t { D with nx := u D } σ H
theorem pss_nil : PSs X [] tNext := fun _ _ σ H _ I h => wpAny_execs_nil ⟨σ, H, I, h⟩
theorem pss_cons (h1 : PS X st t) (h2 : PSs X rest u) : PSs X (st :: rest) (tSeq t u) := by
  intro pins s σ H D I h
  refine wpAny_execs_cons (thn (h1 pins s σ H { D with nx := u D } I h) fun f s1 q => ?_)
  cases f with
  | next =>
    obtain ⟨σ', H', I', q⟩ := q
    exact h2 pins s1 σ' H' D I' q
  | ret v => exact q
  | brk => exact q
  | cont => exact q
theorem pss_one (h1 : PS X st t) : PSs X [st] t := by
  intro pins s σ H D I h
  refine wpAny_execs_cons (thn (h1 pins s σ H D I h) fun f s1 q => ?_)
  cases f with
  | next => exact wpAny_execs_nil q
  | ret v => exact q
  | brk => exact q
  | cont => exact q
theorem Inv.quiet {pins : List (Addr × Obj)} {σ : St} {H : Hp} {s : Shared} (I : Inv X pins σ H s) : interactive X.env = false := by simp [interactive, I.ok.kind]
def tDrop (te : TE) : TS := fun D σ H => te σ H fun _ H1 => D.nx σ H1
theorem ps_expr (he : PE X e te) (hs : swapsWith e none pos.line X.env = pure false := by rfl) : PS X (.Expr e pos) (tDrop te) := by
  intro pins s σ H D I h
  exact wpAny_Expr_any (thn (he pins s σ H _ I h) fun v s1 ⟨x, H1, I1, r1, q1⟩ => ⟨σ, H1, I1, q1⟩) I.quiet hs
def tRet (te : TE) : TS := fun D σ H => te σ H D.rt
theorem ps_ret (he : PE X e te) : PS X (.Return (some e) pos) (tRet te) := by
  intro pins s σ H D I h
  exact wpAny_Return_some (thn (he pins s σ H _ I h) fun v s1 ⟨x, H1, I1, r1, q1⟩ => ⟨x, σ, H1, I1, r1, q1⟩)
def tRetN : TS := fun D _ H => D.rt .non H
def tIfS (c : TT) (t u : TS) : TS := fun D σ H => c σ H fun b H1 => if b = true then t D σ H1 else u D σ H1
theorem ps_if {c : Expr} {a b : List Stmt} {tc : TT} (hc : PT X c tc) (ha : PSs X a t) (hb : PSs X b u) : PS X (.If c a b pos) (tIfS tc t u) := by
  intro pins s σ H D I h
  refine wpAny_If (thn (hc pins s σ H _ I h) fun d s1 ⟨H1, I1, q1⟩ => ?_)
  cases d with
  | true => exact ha pins s1 σ H1 D I1 q1
  | false => exact hb pins s1 σ H1 D I1 q1
end
abbrev TG := V → St → Hp → (St → Hp → Prop) → Prop
abbrev TGs := List V → St → Hp → (St → Hp → Prop) → Prop
def PG (X : Cx) (target : Expr) (t : TG) : Prop :=
  ∀ (pins : List (Addr × Obj)) (s : Shared) (σ : St) (H : Hp) (v : V) (u : Value) (Q : St → Hp → Prop), Inv X pins σ H s → RelV v u → t v σ H Q →
    wpAny (model X.prog X.w) X.A (assign target X.env u) (fun _ s' => ∃ σ' H', Inv X pins σ' H' s' ∧ Q σ' H') X.xe s
def PGs (X : Cx) (ts : List Expr) (t : TGs) : Prop :=
  ∀ (pins : List (Addr × Obj)) (s : Shared) (σ : St) (H : Hp) (vs : List V) (us : List Value) (Q : St → Hp → Prop), Inv X pins σ H s → Vals vs us → t vs σ H Q →
    wpAny (model X.prog X.w) X.A (assignInOrder ((assignEach ts X.env).map (·.2)) us) (fun _ s' => ∃ σ' H', Inv X pins σ' H' s' ∧ Q σ' H') X.xe s
abbrev TIp := V → V → Hp → VK → Prop
def PIp (X : Cx) (op : Operator) (t : TIp) : Prop :=
  ∀ (pins : List (Addr × Obj)) (s : Shared) (σ : St) (H : Hp) (x y : V) (v u : Value) (Q : VK), Inv X pins σ H s → RelV x v → RelV y u → t x y H Q →
    wpAny (model X.prog X.w) X.A (inplaceOp op v u) (EP X pins σ Q) X.xe s
section
variable {X : Cx} {pos : Pos}
def gName (i : Nat) : TG := fun v σ H Q => Q (σ.set i (some v)) H
theorem pg_name {i : Nat} {x : Str} (hN : X.N.Nodup) (hi : X.N[i]? = some x) (hx : Loc X.env.scope x) (hf : X.fn x = true ∨ X.env.scope.names.lookup x = some .local := by first | exact .inl rfl | exact .inr rfl | assumption) : PG X (.Name x pos) (gName i) := by
  intro pins s σ H v u Q I r h
  exact wpAny_assign_Name (store_ok I hN hi hx r (fun s' I' => ⟨_, H, I', h⟩) hf)
def gNil : TGs := fun vs σ H Q => vs = [] ∧ Q σ H
def gCons (t : TG) (u : TGs) : TGs := fun vs σ H Q => ∃ v r, vs = v :: r ∧ t v σ H fun σ' H' => u r σ' H' Q
theorem pgs_nil : PGs X [] gNil := by
  intro pins s σ H vs us Q I r h
  obtain ⟨e, h⟩ := h
  subst e
  cases r
  exact assignInOrder_nil ⟨σ, H, I, h⟩
theorem pgs_cons {e : Expr} {es : List Expr} {t : TG} {u : TGs} (h1 : PG X e t) (h2 : PGs X es u)
    (hs : (assignEach (e :: es) X.env).map (·.2) = assign e X.env :: (assignEach es X.env).map (·.2) := by rfl) : PGs X (e :: es) (gCons t u) := by
  intro pins s σ H vs us Q I r h
  obtain ⟨v, vr, e1, h⟩ := h
  subst e1
  cases r with
  | cons r rr =>
    rw [hs]
    refine assignInOrder_cons (thn (h1 pins s σ H _ _ _ I r h) fun _ s1 ⟨σ1, H1, I1, q1⟩ => ?_)
    exact h2 pins s1 σ1 H1 _ _ Q I1 rr q1
def gTup (K : PySem.W.Frag) (n : Nat) (t : TGs) : TG := fun v σ H Q => ∃ a xs, v = .ref a ∧ SqT K H a xs ∧ xs.length = n ∧ t xs σ H Q
theorem pg_tup {es : List Expr} {k : Nat} {t : TGs} {n : Nat} (hc : X.calm = true) (h : PGs X es t)
    (hn : (assignEach es X.env).length = n := by rfl) (hst : (assignEach es X.env).findIdx? (·.1) = none := by rfl) : PG X (.Tuple es k pos) (gTup X.K n t) := by
  intro pins s σ H v u Q I r hw
  obtain ⟨a, xs, e1, hq, hl, hw⟩ := hw
  subst e1
  cases r
  obtain ⟨its, rv, ht, hz⟩ := I.tuple hq
  refine assign_Tuple_tuple (I.ok.hd hc) ht (by simp [hn, ← hl, rv.length]) hst fun h' hx => ?_
  have I1 : Inv X pins σ H { s with heap := h' } := I.kept (t' := s.toks) fun b o e => hx b o (Nat.ne_of_lt (Heap.lt_size e)) e
  exact h pins _ σ H xs _ Q I1 (by simpa using rv) hw
def tAsg (te : TE) (g : TG) : TS := fun D σ H => te σ H fun x H1 => g x σ H1 D.nx
theorem ps_set {i : Nat} {x : Str} {e : Expr} {te : TE} {pos' : Pos} (hN : X.N.Nodup) (hi : X.N[i]? = some x) (hx : Loc X.env.scope x) (he : PE X e te) (hs : swapsWith e (some (.Name x pos')) pos.line X.env = pure false := by rfl) (hf : X.fn x = true ∨ X.env.scope.names.lookup x = some .local := by first | exact .inl rfl | exact .inr rfl | assumption) :
    PS X (.Assign [.Name x pos'] e pos) (tAsg te (gName i)) := by
  intro pins s σ H D I h
  refine wpAny_Assign_Name (thn (he pins s σ H _ I h) fun v s1 ⟨y, H1, I1, r1, q1⟩ => ?_) hs
  exact store_ok I1 hN hi hx r1 (fun s2 I2 => ⟨_, H1, I2, q1⟩) hf
def tAug (i : Nat) (te : TE) (ti : TIp) : TS := fun D σ H => ∃ x, σ[i]? = some (some x) ∧ te σ H fun y H1 => ti x y H1 fun z H2 => D.nx (σ.set i (some z)) H2
theorem ps_aug {i : Nat} {x : Str} {e : Expr} {te : TE} {op : Operator} {ti : TIp} {pos' : Pos} (hN : X.N.Nodup) (hi : X.N[i]? = some x) (hx : Loc X.env.scope x) (he : PE X e te) (ho : PIp X op ti) (hf : X.fn x = true ∨ X.env.scope.names.lookup x = some .local := by first | exact .inl rfl | exact .inr rfl | assumption) :
    PS X (.AugAssign (.Name x pos') op e pos) (tAug i te ti) := by
  intro pins s σ H D I h
  obtain ⟨v, e1, h⟩ := h
  obtain ⟨m, hn, hl⟩ := I.loc
  have vis : Vis X.env.scope x := by rcases hx with k | k; exact .inl k; exact .inr (.inl k)
  obtain ⟨u, r, l⟩ := hl i x v hi e1 vis
  refine wpAny_AugAssign_Name ?_
  have go : wpAny (model X.prog X.w) X.A (eval e X.env) (fun w s₂ => wpAny (model X.prog X.w) X.A (inplaceOp op u w) (fun r s₃ => wpAny (model X.prog X.w) X.A (storeName X.env x r) (fun _ => SP X pins D .next) X.xe s₃) X.xe s₂) X.xe s := by
    refine thn (he pins s σ H _ I h) fun w s1 ⟨y, H1, I1, r1, q1⟩ => ?_
    refine thn (ho pins s1 σ H1 v y u w _ I1 r r1 q1) fun z s2 ⟨zv, H2, I2, r2, q2⟩ => ?_
    exact store_ok I2 hN hi hx r2 (fun s3 I3 => ⟨_, H2, I3, q2⟩) hf
  rcases l with ⟨hk, hm⟩ | ⟨hk, c, hc, hcell⟩
  · exact wpAny_loadName_local I.ok.kind hk hn hm go
  · rcases hk with hk | hk
    · exact wpAny_loadName_cell I.ok.kind hk hc hcell go
    · rcases hx with k | k
      · have : X.env.scope.names.lookup x = some .free := hk
        rw [k] at this; cases this
      · have : X.env.scope.names.lookup x = some .free := hk
        rw [k] at this; cases this
def ipI (f : Int → Int → Int) : TIp := fun x y H Q => ∃ i j, x = .int i ∧ y = .int j ∧ Q (.int (f i j)) H
theorem ip_add : PIp X .Add (ipI fun i j => i + j) := by
  intro pins s σ H x y v u Q I r1 r2 h
  obtain ⟨i, j, e1, e2, q⟩ := h
  subst e1; subst e2
  obtain ⟨t, rfl⟩ := r1
  obtain ⟨t', rfl⟩ := r2
  exact iadd_int ⟨.int _, H, I.tok _, ⟨_, rfl⟩, q⟩
theorem ip_sub : PIp X .Sub (ipI fun i j => i - j) := by
  intro pins s σ H x y v u Q I r1 r2 h
  obtain ⟨i, j, e1, e2, q⟩ := h
  subst e1; subst e2
  obtain ⟨t, rfl⟩ := r1
  obtain ⟨t', rfl⟩ := r2
  exact isub_int ⟨.int _, H, I.tok _, ⟨_, rfl⟩, q⟩
end
section
variable {X : Cx} {pos : Pos}
def tWhile (c : TT) (tb : TS) : TS := fun D σ H => ∃ W : Nat → St → Hp → Prop, (∃ m, W m σ H) ∧ ∀ m σ H, W m σ H →
  c σ H fun b H1 => if b = true then ∃ N : St → Hp → Prop, (∀ σ' H', N σ' H' → ∃ m', m' < m ∧ W m' σ' H') ∧ tb { D with nx := N, ct := N, bk := D.nx } σ H1 else D.nx σ H1
theorem ps_while {c : Expr} {body : List Stmt} {tc : TT} {tb : TS} (hp : PassesOwn (model X.prog X.w) X.A X.env X.xe) (hc : PT X c tc) (hb : PSs X body tb) : PS X (.While c body [] pos) (tWhile tc tb) := by
  intro pins s σ H D I h
  obtain ⟨W, ⟨m0, w0⟩, turn⟩ := h
  refine wpAny_While (codeAny_whileLoop (fun n s' => ∃ σ' H', Inv X pins σ' H' s' ∧ W n σ' H') ?_ m0 ⟨σ, H, I, w0⟩)
  rintro n s1 ⟨σ1, H1, I1, w1⟩
  refine wpAny_passesOwn hp (thn (hc pins s1 σ1 H1 _ I1 (turn n σ1 H1 w1)) fun b s2 ⟨H2, I2, q2⟩ => ?_)
  cases b with
  | true =>
    obtain ⟨N, hN, q2⟩ := q2
    rw [if_pos rfl]
    refine wpAny_passesOwn hp (thn (hb pins s2 σ1 H2 _ I2 q2) fun f s3 q3 => ?_)
    cases f with
    | next =>
      obtain ⟨σ3, H3, I3, n3⟩ := q3
      obtain ⟨m', hm, w3⟩ := hN σ3 H3 n3
      exact ⟨m', hm, σ3, H3, I3, w3⟩
    | cont =>
      obtain ⟨σ3, H3, I3, n3⟩ := q3
      obtain ⟨m', hm, w3⟩ := hN σ3 H3 n3
      exact ⟨m', hm, σ3, H3, I3, w3⟩
    | brk => exact q3
    | ret v => exact q3
  | false =>
    rw [if_neg Bool.false_ne_true]
    exact wpAny_execs_nil ⟨σ1, H2, I2, q2⟩
end
structure It where
  go : Nat → Hp → Prop
  yld : Nat → Hp → V → Hp → Prop
  stop : Nat → Hp → Prop
def FpOk (X : Cx) (pins : List (Addr × Obj)) (H : Hp) (b : Addr) : Prop :=
  H b = none ∧ b ≠ X.env.locals ∧ b ∉ X.fs ∧ (b ∈ X.ex ∨ X.s_0.heap.objs.size ≤ b) ∧ (∀ x c, X.env.cells.lookup x = some c → c ≠ b) ∧ ∀ p ∈ X.pn ++ pins, p.1 ≠ b
theorem Inv.fpOk {X : Cx} {pins : List (Addr × Obj)} {σ : St} {H H' : Hp} {s : Shared} {b : Addr} (I : Inv X pins σ H s) (hb : s.heap.objs.size ≤ b) (hn : H' b = none) : FpOk X pins H' b := by
  refine ⟨hn, Nat.ne_of_gt (Nat.lt_of_lt_of_le I.lt hb), I.nofs hb, .inr (Nat.le_trans I.sz hb), fun x c e z => ?_, fun p hp z => ?_⟩
  · obtain ⟨v, q⟩ := I.cell x c e
    exact absurd (Nat.lt_of_lt_of_le q.lt (by rw [z]; exact hb)) (Nat.lt_irrefl _)
  · exact absurd (Nat.lt_of_lt_of_le (Heap.lt_size (I.pin p hp).1) (by rw [z]; exact hb)) (Nat.lt_irrefl _)
structure Turn (P : Program) (w : World) (K : PySem.W.Frag) (tg : Expr) (J : It) (fp : List Addr) (it : Addr) (tn : Nat → Heap → Prop) : Prop where
  mem : it ∈ fp
  obj : ∀ i h, tn i h → ∀ b ∈ fp, ∃ o, h.get? b = some o ∧ ∀ v, o.data ≠ .cell v
  keep : ∀ i h h', tn i h → (∀ b ∈ fp, ∀ o, h.get? b = some o → h'.get? b = some o) → tn i h'
  item : ∀ (X : Cx), X.prog = P → X.w = w → X.K = K → X.calm = true → ∀ (i : Nat) (pins : List (Addr × Obj)) (s : Shared) (σ : St) (H : Hp) (E : Value → Shared → Prop), Inv X pins σ H s → (∀ b ∈ fp, FpOk X pins H b) → tn i s.heap → J.go i H →
    wpAny (model P w) X.A (pyNext (.ref it)) (fun r s1 => ∃ u, r = some u ∧
      wpAny (model P w) X.A (letOwnedTupleGo tg (.ref it) u) (fun _ s2 => ∃ x H', Inv X pins σ H' s2 ∧ RelV x u ∧ J.yld i H x H' ∧ tn (i + 1) s2.heap ∧ ∀ b ∈ fp, H' b = none) E s1) E s
  done : ∀ (X : Cx), X.prog = P → X.w = w → X.K = K → X.calm = true → ∀ (i : Nat) (pins : List (Addr × Obj)) (s : Shared) (σ : St) (H : Hp) (E : Value → Shared → Prop), Inv X pins σ H s → (∀ b ∈ fp, FpOk X pins H b) → tn i s.heap → J.stop i H →
    wpAny (model P w) X.A (pyNext (.ref it)) (fun r s1 => r = none ∧ Inv X pins σ H s1) E s
  self : ∀ (A : Around) (i : Nat) (s : Shared) (Q : Value → Shared → Prop) (E : Value → Shared → Prop), tn i s.heap → Q (.ref it) s → wpAny (model P w) A (pyIter (.ref it)) Q E s
abbrev TI := St → Hp → (It → Hp → Prop) → Prop
def PIE (X : Cx) (pins : List (Addr × Obj)) (σ : St) (tg : Expr) (R : It → Hp → Prop) (itv : Value) (s2 : Shared) : Prop :=
  ∃ (it : Addr) (fp : List Addr) (tn : Nat → Heap → Prop) (J : It) (H' : Hp), itv = .ref it ∧ Inv X pins σ H' s2 ∧ Turn X.prog X.w X.K tg J fp it tn ∧ tn 0 s2.heap ∧ (∀ b ∈ fp, FpOk X pins H' b) ∧ R J H'
def PI (X : Cx) (tg iter : Expr) (wi : TI) : Prop :=
  ∀ (pins : List (Addr × Obj)) (s : Shared) (σ : St) (H : Hp) (R : It → Hp → Prop), Inv X pins σ H s → wi σ H R →
    wpAny (model X.prog X.w) X.A (eval iter X.env) (fun v s1 => wpAny (model X.prog X.w) X.A (pyIter v) (PIE X pins σ tg R) X.xe s1) X.xe s
theorem go_of {M : Model} {A : Around} {E : Value → Shared → Prop} {s : Shared} {tg : Expr} {it : Addr} {u : Value} {o : Obj} {n : String} {vs : Array Value} {Q : Unit → Shared → Prop} (ho : s.heap.get? it = some o) (hc : o.cls = .type n) (hd : o.data = .fields vs)
    (hn : ["enumerate", "zip", "dict_itemiterator", "dict_reverseitemiterator", "odict_iterator", "itertools.zip_longest", "itertools.pairwise"].contains n = false) (hQ : Q () s) : wpAny M A (letOwnedTupleGo tg (.ref it) u) Q E s := by
  unfold letOwnedTupleGo
  cases tg <;> first
    | exact wpAny_pure hQ
    | (cases u <;> first
        | exact wpAny_pure hQ
        | (refine wpAny_bind (wpAny_load ho ?_)
           rw [hc, hd]
           show wpAny M A (if (["enumerate", "zip", "dict_itemiterator", "dict_reverseitemiterator", "odict_iterator", "itertools.zip_longest", "itertools.pairwise"].contains n && vs[0]? == some (rawInt _)) = true then _ else _) Q E s
           rw [if_neg (by intro h; rw [hn, Bool.false_and] at h; cases h)]
           exact wpAny_pure hQ))
def Itl (K : PySem.W.Frag) (a : Addr) : It :=
  ⟨fun i H => ∃ xs x, SqL K H a xs ∧ xs[i]? = some x, fun i H x H' => H' = H ∧ ∀ xs, SqL K H a xs → xs[i]? = some x, fun i H => ∃ xs, SqL K H a xs ∧ xs.length ≤ i⟩
theorem turn_list {P : Program} {w : World} {K : PySem.W.Frag} {tg : Expr} (a it : Addr) : Turn P w K tg (Itl K a) [it] it (fun i h => h.IsListIter it a i) where
  mem := by simp
  obj := fun i h st b hb => by
    have e : b = it := by simpa using hb
    subst e
    obtain ⟨o, e, c, d⟩ := st
    exact ⟨o, e, fun v z => by rw [d] at z; cases z⟩
  keep := fun i h h' st k => st.at fun o e => k it (by simp) o e
  item := by
    intro X hP hw hK hc i pins s σ H E I hf st hg
    subst hP hw hK
    obtain ⟨xs, x, hq, hx⟩ := hg
    obtain ⟨its, rv, p, hz⟩ := I.list hq
    obtain ⟨u, hu, ru⟩ := rv.get hx
    obtain ⟨f0, f1, f2, f3, f4, f5⟩ := hf it (by simp)
    refine wpAny_pyNext_list_item st p.isList (x := u) (by simpa using hu) fun h' st' sb => ?_
    have I1 : Inv X pins σ H { s with heap := h' } := I.turned (t' := s.toks) (fun b o hb e => (sb.2 b hb).trans e) f0 f1 f3 f4 f5
    obtain ⟨o, e, c, d⟩ := id st'
    exact ⟨u, rfl, go_of (s := { s with heap := h' }) e c d (by decide) ⟨x, H, I1, ru, ⟨rfl, fun ys hy => by rw [I.list_inj hy hq]; exact hx⟩, st', fun b hb => (hf b hb).1⟩⟩
  done := by
    intro X hP hw hK hc i pins s σ H E I hf st hg
    subst hP hw hK
    obtain ⟨xs, hq, hx⟩ := hg
    obtain ⟨its, rv, p, hz⟩ := I.list hq
    obtain ⟨f0, f1, f2, f3, f4, f5⟩ := hf it (by simp)
    have hl := rv.length
    exact wpAny_pyNext_list_end (I.ok.hd hc) st p.isList (by simp; omega) fun h' eb => ⟨rfl, I.turned (t' := s.toks) (fun b o hb e => eb b o hb e) f0 f1 f3 f4 f5⟩
  self := fun _ _ _ _ _ st h => wpAny_pyIter_listiter st h
end L2
namespace L2
open PySem PySem.Spec PyProof.Rows
section
variable {X : Cx} {tg : Expr}
def iList (K : PySem.W.Frag) (tl : TE) : TI := fun σ H R => tl σ H fun x H1 => ∃ a, x = .ref a ∧ (∃ xs, SqL K H1 a xs) ∧ R (Itl K a) H1
theorem pi_list {l : Expr} {tl : TE} (hl : PE X l tl) : PI X tg l (iList X.K tl) := by
  intro pins s σ H R I h
  refine thn (hl pins s σ H _ I h) fun v s1 ⟨x, H1, I1, r1, q1⟩ => ?_
  obtain ⟨a, e, ⟨xs, hq⟩, q⟩ := q1
  subst e
  cases r1
  obtain ⟨its, rv, p, hz⟩ := I1.list hq
  refine wpAny_pyIter_list p.isList ?_
  refine ⟨s1.heap.objs.size, [s1.heap.objs.size], _, _, H1, rfl, I1.kept (t' := s1.toks) fun b o e => Heap.get?_push_of_some _ e, turn_list a _, ⟨_, Heap.get?_push_size _ rfl, rfl, rfl⟩, fun b hb => ?_, q⟩
  have e : b = s1.heap.objs.size := by simpa using hb
  subst e
  exact I1.fpOk (Nat.le_refl _) (I1.hok.fresh (Nat.le_refl _))
def tFor (wi : TI) (g : TG) (tb : TS) : TS := fun D σ H => wi σ H fun J H1 => ∃ W : Nat → Nat → St → Hp → Prop, (∃ m, W 0 m σ H1) ∧ ∀ i m σ H, W i m σ H →
  (J.stop i H ∧ D.nx σ H) ∨ (J.go i H ∧ ∃ N : St → Hp → Prop, (∀ σ' H', N σ' H' → ∃ m', m' < m ∧ W (i + 1) m' σ' H') ∧ ∀ x H', J.yld i H x H' → g x σ H' fun σ2 H2 => tb { D with nx := N, ct := N, bk := D.nx } σ2 H2)
def pinsAt (fp : List Addr) (h : Heap) : List (Addr × Obj) := fp.filterMap fun b => (h.get? b).map fun o => (b, o)
theorem mem_pinsAt {fp : List Addr} {h : Heap} {b : Addr} {o : Obj} (hb : b ∈ fp) (e : h.get? b = some o) : (b, o) ∈ pinsAt fp h := List.mem_filterMap.mpr ⟨b, hb, by rw [e]; rfl⟩
theorem of_pinsAt {fp : List Addr} {h : Heap} {p : Addr × Obj} (hp : p ∈ pinsAt fp h) : p.1 ∈ fp ∧ h.get? p.1 = some p.2 := by
  obtain ⟨b, hb, e⟩ := List.mem_filterMap.mp hp
  cases q : h.get? b with
  | none => rw [q] at e; cases e
  | some o =>
    rw [q] at e
    have e' : (b, o) = p := Option.some.inj e
    subst e'
    exact ⟨hb, q⟩
theorem Inv.pinned {pins : List (Addr × Obj)} {σ : St} {H : Hp} {s : Shared} {fp : List Addr} (I : Inv X pins σ H s) (hf : ∀ b ∈ fp, FpOk X pins H b) (ho : ∀ b ∈ fp, ∃ o, s.heap.get? b = some o ∧ ∀ v, o.data ≠ .cell v) : Inv X (pins ++ pinsAt fp s.heap) σ H s :=
  I.pins_of fun p hp => (List.mem_append.mp hp).elim (fun z => I.pin p (List.mem_append_right _ z)) fun z => by
    obtain ⟨hb, e⟩ := of_pinsAt z
    obtain ⟨f0, f1, f2, _⟩ := hf p.1 hb
    obtain ⟨o, e', d⟩ := ho p.1 hb
    rw [e] at e'; cases e'
    exact ⟨e, f0, f1, f2, d⟩
theorem Inv.unpinned {pins pl : List (Addr × Obj)} {σ : St} {H : Hp} {s : Shared} (I : Inv X (pins ++ pl) σ H s) : Inv X pins σ H s := I.pins_of fun p hp => I.pin p (List.mem_append_right _ (List.mem_append_left _ hp))
theorem ps_for {iter : Expr} {body : List Stmt} {wi : TI} {g : TG} {tb : TS} {pos : Pos} (hp : PassesOwn (model X.prog X.w) X.A X.env X.xe) (hc : X.calm = true) (hi : PI X tg iter wi) (hg : PG X tg g) (hb : PSs X body tb)
    (hs : ∀ x, foldedSetIterable iter X.env x = pure x := by intro _; rfl) : PS X (.For tg iter body [] pos) (tFor wi g tb) := by
  intro pins s σ H D I h
  refine wpAny_For (thn (hi pins s σ H _ I h) fun v s1 h1 => thn h1 fun itv s2 h2 => ?_) hs
  obtain ⟨it, fp, tn, J, H2, e, I2, T, st2, f2, W, ⟨m0, w0⟩, turn⟩ := h2
  subst e
  -- what stays true of the iterator's objects through the loop
  have stat : ∀ {H' : Hp}, (∀ b ∈ fp, H' b = none) → ∀ b ∈ fp, FpOk X pins H' b := fun hn b hb => ⟨hn b hb, (f2 b hb).2⟩
  refine codeAny_forLoop_any (fun n s' => ∃ i σ' H', Inv X pins σ' H' s' ∧ tn i s'.heap ∧ (∀ b ∈ fp, H' b = none) ∧ W i n σ' H') ?_ m0 ⟨0, σ, H2, I2, st2, fun b hb => (f2 b hb).1, w0⟩
  rintro n s3 ⟨i, σ3, H3, I3, st3, fr3, w3⟩
  rcases turn i n σ3 H3 w3 with ⟨stop, qn⟩ | ⟨go, N, hN, step⟩
  · refine wpAny_passesOwn hp (thn (T.done X rfl rfl rfl hc i pins s3 σ3 H3 X.xe I3 (stat fr3) st3 stop) fun r s4 ⟨hr, I4⟩ => ?_)
    subst hr
    exact wpAny_execs_nil ⟨σ3, H3, I4, qn⟩
  · refine wpAny_passesOwn hp (thn (T.item X rfl rfl rfl hc i pins s3 σ3 H3 X.xe I3 (stat fr3) st3 go) fun r s4 ⟨u, hr, h4⟩ => ?_)
    subst hr
    refine wpAny_passesOwn hp (thn h4 fun _ s5 ⟨x, H5, I5, r5, y5, st5, fr5⟩ => ?_)
    have I5' := I5.pinned (stat fr5) (T.obj _ _ st5)
    refine wpAny_passesOwn hp (thn (hg _ s5 σ3 H5 x u _ I5' r5 (step x H5 y5)) fun _ s6 ⟨σ6, H6, I6, q6⟩ => ?_)
    refine wpAny_passesOwn hp (thn (hb _ s6 σ6 H6 _ I6 q6) fun f s7 q7 => ?_)
    have again : ∀ {σ7 : St} {H7 : Hp}, Inv X (pins ++ pinsAt fp s5.heap) σ7 H7 s7 → N σ7 H7 → ∃ m, m < n ∧ ∃ i σ' H', Inv X pins σ' H' s7 ∧ tn i s7.heap ∧ (∀ b ∈ fp, H' b = none) ∧ W i m σ' H' := fun {σ7 H7} I7 n7 => by
      obtain ⟨m', hm, w7⟩ := hN σ7 H7 n7
      refine ⟨m', hm, i + 1, σ7, H7, I7.unpinned, T.keep _ _ _ st5 fun b hb o e => (I7.pin (b, o) (List.mem_append_right _ (List.mem_append_right _ (mem_pinsAt hb e)))).1, fun b hb => ?_, w7⟩
      obtain ⟨o, e, d⟩ := T.obj _ _ st5 b hb
      exact (I7.pin (b, o) (List.mem_append_right _ (List.mem_append_right _ (mem_pinsAt hb e)))).2.1
    cases f with
    | next => obtain ⟨σ7, H7, I7, n7⟩ := q7; exact again I7 n7
    | cont => obtain ⟨σ7, H7, I7, n7⟩ := q7; exact again I7 n7
    | brk => obtain ⟨σ7, H7, I7, q7⟩ := q7; exact ⟨σ7, H7, I7.unpinned, q7⟩
    | ret v => obtain ⟨x7, σ7, H7, I7, r7, q7⟩ := q7; exact ⟨x7, σ7, H7, I7.unpinned, r7, q7⟩
end
theorem for_list {K : PySem.W.Frag} {a : Addr} {xs : List V} {g : TG} {tb : TS} {D : Ends} {σ : St} {H : Hp} (Pv : Nat → St → Hp → Prop) (h0 : Pv 0 σ H) (hl : ∀ i σ H, i ≤ xs.length → Pv i σ H → SqL K H a xs)
    (hs : ∀ i x σ H, xs[i]? = some x → Pv i σ H → g x σ H fun σ2 H2 => tb { D with nx := Pv (i + 1), ct := Pv (i + 1), bk := D.nx } σ2 H2) (hd : ∀ σ H, Pv xs.length σ H → D.nx σ H) :
    ∃ W : Nat → Nat → St → Hp → Prop, (∃ m, W 0 m σ H) ∧ ∀ i m σ H, W i m σ H →
      ((Itl K a).stop i H ∧ D.nx σ H) ∨ ((Itl K a).go i H ∧ ∃ N : St → Hp → Prop, (∀ σ' H', N σ' H' → ∃ m', m' < m ∧ W (i + 1) m' σ' H') ∧ ∀ x H', (Itl K a).yld i H x H' → g x σ H' fun σ2 H2 => tb { D with nx := N, ct := N, bk := D.nx } σ2 H2) := by
  refine ⟨fun i m σ H => m = xs.length - i ∧ i ≤ xs.length ∧ Pv i σ H, ⟨xs.length, by simp, Nat.zero_le _, h0⟩, ?_⟩
  rintro i m σ H ⟨rfl, hi, p⟩
  have q := hl i σ H hi p
  by_cases hlt : i < xs.length
  · refine .inr ⟨⟨xs, xs[i], q, by simp [hlt]⟩, Pv (i + 1), fun σ' H' p' => ⟨xs.length - (i + 1), by omega, rfl, hlt, p'⟩, fun x H' y => ?_⟩
    obtain ⟨e, y⟩ := y
    subst e
    exact hs i x σ _ (y xs q) p
  · have e : i = xs.length := by omega
    subst e
    exact .inl ⟨⟨xs, q, Nat.le_refl _⟩, hd σ H p⟩
end L2
namespace L2
open PySem PySem.Spec PyProof.Rows
abbrev R2 := V → V → Hp → VK → Prop
def OpR (X : Cx) (f : Value → Value → Sem Value) (r : R2) : Prop :=
  ∀ (pins : List (Addr × Obj)) (s : Shared) (σ : St) (H : Hp) (x y : V) (v u : Value) (Q : VK), Inv X pins σ H s → RelV x v → RelV y u → r x y H Q →
    wpAny (model X.prog X.w) X.A (f v u) (EP X pins σ Q) X.xe s
def CallR (X : Cx) (f : Value) (r : List V → Hp → VK → Prop) : Prop :=
  ∀ (pins : List (Addr × Obj)) (s : Shared) (σ : St) (H : Hp) (xs : List V) (us : List Value) (Q : VK), Inv X pins σ H s → Vals xs us → r xs H Q →
    wpAny (model X.prog X.w) X.A (call f us) (EP X pins σ Q) X.xe s
def tOp (r : R2) (ta tb : TE) : TE := fun σ H Q => ta σ H fun x H1 => tb σ H1 fun y H2 => r x y H2 Q
def tUn (r : V → Hp → VK → Prop) (ta : TE) : TE := fun σ H Q => ta σ H fun x H1 => r x H1 Q
def rI (C : Int → Int → Prop) (g : Int → Int → V) : R2 := fun x y H Q => ∃ i j, x = .int i ∧ y = .int j ∧ C i j ∧ Q (g i j) H
def rI0 (g : Int → Int → V) : R2 := fun x y H Q => ∃ i j, x = .int i ∧ y = .int j ∧ Q (g i j) H
section
variable {X : Cx} {a b c : Expr} {ta tb tc : TE} {pos : Pos}
theorem binT (ha : PE X a ta) (hb : PE X b tb) {pins : List (Addr × Obj)} {s : Shared} {σ : St} {H : Hp} {R : V → V → Hp → Prop} (I : Inv X pins σ H s)
    (h : ta σ H fun x H1 => tb σ H1 fun y H2 => R x y H2) {Q : Value → Shared → Prop} {f : Value → Value → Sem Value}
    (hf : ∀ v u s2 x y H2, Inv X pins σ H2 s2 → RelV x v → RelV y u → R x y H2 → wpAny (model X.prog X.w) X.A (f v u) Q X.xe s2) :
    wpAny (model X.prog X.w) X.A (eval a X.env) (fun v s₁ => wpAny (model X.prog X.w) X.A (eval b X.env) (fun u s₂ => wpAny (model X.prog X.w) X.A (f v u) Q X.xe s₂) X.xe s₁) X.xe s := by
  refine thn (ha pins s σ H _ I h) fun v s1 ⟨x, H1, I1, r1, q1⟩ => ?_
  refine thn (hb pins s1 σ H1 _ I1 q1) fun u s2 ⟨y, H2, I2, r2, q2⟩ => ?_
  exact hf v u s2 x y H2 I2 r1 r2 q2
theorem pe_op {op : Operator} {r : R2} (ho : OpR X (binaryOp op) r) (ha : PE X a ta) (hb : PE X b tb) : PE X (.BinOp a op b pos) (tOp r ta tb) := by
  intro pins s σ H Q I h
  exact wpAny_BinOp (binT ha hb I h fun v u s2 x y H2 I2 rx ry q => ho pins s2 σ H2 x y v u Q I2 rx ry q)
theorem opI {f : Value → Value → Sem Value} {C : Int → Int → Prop} {g : Int → Int → Int}
    (rule : ∀ (i j : Int) (t u : Tok) (s : Shared) (Q : Value → Shared → Prop) (E : Value → Shared → Prop), C i j → Q (.int (g i j) s.toks) { s with toks := s.toks + 1 } → wpAny (model X.prog X.w) X.A (f (.int i t) (.int j u)) Q E s) :
    OpR X f (rI C fun i j => .int (g i j)) := by
  intro pins s σ H x y v u Q I rx ry h
  obtain ⟨i, j, rfl, rfl, hc, q⟩ := h
  obtain ⟨t, rfl⟩ := rx
  obtain ⟨t', rfl⟩ := ry
  exact rule i j t t' s _ _ hc ⟨.int (g i j), H, I.tok _, ⟨_, rfl⟩, q⟩
theorem opI0 {f : Value → Value → Sem Value} {g : Int → Int → Int}
    (rule : ∀ (i j : Int) (t u : Tok) (s : Shared) (Q : Value → Shared → Prop) (E : Value → Shared → Prop), Q (.int (g i j) s.toks) { s with toks := s.toks + 1 } → wpAny (model X.prog X.w) X.A (f (.int i t) (.int j u)) Q E s) :
    OpR X f (rI0 fun i j => .int (g i j)) := by
  intro pins s σ H x y v u Q I rx ry h
  obtain ⟨i, j, rfl, rfl, q⟩ := h
  obtain ⟨t, rfl⟩ := rx
  obtain ⟨t', rfl⟩ := ry
  exact rule i j t t' s _ _ ⟨.int (g i j), H, I.tok _, ⟨_, rfl⟩, q⟩
theorem opB0 {f : Value → Value → Sem Value} {g : Int → Int → Bool}
    (rule : ∀ (i j : Int) (t u : Tok) (s : Shared) (Q : Value → Shared → Prop) (E : Value → Shared → Prop), Q (.bool (g i j)) s → wpAny (model X.prog X.w) X.A (f (.int i t) (.int j u)) Q E s) :
    OpR X f (rI0 fun i j => .bl (g i j)) := by
  intro pins s σ H x y v u Q I rx ry h
  obtain ⟨i, j, rfl, rfl, q⟩ := h
  obtain ⟨t, rfl⟩ := rx
  obtain ⟨t', rfl⟩ := ry
  exact rule i j t t' s _ _ ⟨.bl (g i j), H, I, rfl, q⟩
def CDiv (i j : Int) : Prop := 0 < j ∧ j < 1073741824
theorem op_add : OpR X (binaryOp .Add) (rI0 fun i j => .int (i + j)) := opI0 fun _ _ _ _ _ _ _ q => add_int q
theorem op_sub : OpR X (binaryOp .Sub) (rI0 fun i j => .int (i - j)) := opI0 fun _ _ _ _ _ _ _ q => sub_int q
theorem op_fdiv : OpR X (binaryOp .FloorDiv) (rI CDiv fun i j => .int (i / j)) := opI fun i j _ _ _ _ _ hc q => by
  have h1 : (0 : Int) < j := hc.1
  have h2 : j < 1073741824 := hc.2
  exact floordiv_int (by omega) (by rw [Int.fdiv_eq_ediv_of_nonneg i (by omega)]; exact q) (.inl (PyProof.noPylong_small (by omega)))
theorem op_mod : OpR X (binaryOp .Mod) (rI (fun _ j => 0 < j) fun i j => .int (i % j)) := opI fun i j _ _ _ _ _ hc q => by
  have h1 : (0 : Int) < j := hc
  exact mod_int' (by omega) (by rw [Int.fmod_eq_emod_of_nonneg i (by omega)]; exact q)
end
def scal : V → V → Bool
  | .non, .non => true | .non, .int _ => true | .int _, .non => true | .non, .bl _ => true | .bl _, .non => true | .non, .str _ => true | .str _, .non => true
  | .int _, .int _ => true | .bl _, .bl _ => true | .str _, .str _ => true | .byt _, .byt _ => true
  | .int _, .str _ => true | .str _, .int _ => true | .bl _, .str _ => true | .str _, .bl _ => true
  | _, _ => false
def rEq : R2 := fun x y H Q => scal x y = true ∧ Q (.bl (decide (x = y))) H
def rNe : R2 := fun x y H Q => scal x y = true ∧ Q (.bl (!decide (x = y))) H
theorem dec_int {i j : Int} : decide (V.int i = V.int j) = (i == j) := by
  rw [Bool.eq_iff_iff]
  simp
theorem dec_bl {i j : Bool} : decide (V.bl i = V.bl j) = (i == j) := by
  rw [Bool.eq_iff_iff]
  simp
theorem dec_str {i j : Str} : decide (V.str i = V.str j) = (i == j) := by
  rw [Bool.eq_iff_iff]
  simp
theorem dec_byt {i j : Array UInt8} : decide (V.byt i = V.byt j) = (i.toList == j.toList) := by
  rw [Bool.eq_iff_iff]
  cases i
  cases j
  simp
section
variable {X : Cx} {a b c : Expr} {ta tb tc : TE} {pos : Pos}
theorem fin_bl {pins : List (Addr × Obj)} {σ : St} {H : Hp} {s : Shared} {Q : VK} {k k' : Bool} (I : Inv X pins σ H s) (q : Q (.bl k) H) (e : k = k') : EP X pins σ Q (.bool k') s := by
  subst e
  exact ⟨.bl k, H, I, rfl, q⟩
theorem op_eq : OpR X (compareOp .Eq) rEq := by
  intro pins s σ H x y v u Q I rx ry h
  obtain ⟨hs, q⟩ := h
  cases x with
  | non =>
    cases rx
    cases y with
    | non => cases ry; exact PySem.EqNone.eq_none_none (fin_bl I q (by simp))
    | bl j => cases ry; exact PySem.EqNone.eq_none_bool (fin_bl I q (by simp))
    | int j => obtain ⟨t', rfl⟩ := ry; exact PySem.EqNone.eq_none_int (fin_bl I q (by simp))
    | str j => obtain ⟨t', rfl⟩ := ry; exact PySem.EqNone.eq_none_str (fin_bl I q (by simp))
    | _ => exact absurd (show false = true from hs) Bool.false_ne_true
  | bl i =>
    cases rx
    cases y with
    | non => cases ry; exact PySem.EqNone.eq_bool_none (fin_bl I q (by simp))
    | bl j => cases ry; exact eq_bool (fin_bl I q dec_bl)
    | str j => obtain ⟨t', rfl⟩ := ry; exact PySem.EqMixed.eq_bool_str (fin_bl I q (by simp))
    | _ => exact absurd (show false = true from hs) Bool.false_ne_true
  | int i =>
    obtain ⟨t, rfl⟩ := rx
    cases y with
    | non => cases ry; exact PySem.EqNone.eq_int_none (fin_bl I q (by simp))
    | int j => obtain ⟨t', rfl⟩ := ry; exact eq_int (fin_bl I q dec_int)
    | str j => obtain ⟨t', rfl⟩ := ry; exact PySem.EqMixed.eq_int_str (fin_bl I q (by simp))
    | _ => exact absurd (show false = true from hs) Bool.false_ne_true
  | str i =>
    obtain ⟨t, rfl⟩ := rx
    cases y with
    | non => cases ry; exact PySem.EqNone.eq_str_none (fin_bl I q (by simp))
    | bl j => cases ry; exact PySem.EqMixed.eq_str_bool (fin_bl I q (by simp))
    | int j => obtain ⟨t', rfl⟩ := ry; exact PySem.EqMixed.eq_str_int (fin_bl I q (by simp))
    | str j => obtain ⟨t', rfl⟩ := ry; exact eq_str (fin_bl I q dec_str)
    | _ => exact absurd (show false = true from hs) Bool.false_ne_true
  | byt i =>
    obtain ⟨t, rfl⟩ := rx
    cases y with
    | byt j => obtain ⟨t', rfl⟩ := ry; exact PySem.W.eq_bytes (fin_bl I q dec_byt)
    | _ => exact absurd (show false = true from hs) Bool.false_ne_true
  | _ => cases y <;> exact absurd (show false = true from hs) Bool.false_ne_true
theorem op_ne : OpR X (compareOp .NotEq) rNe := by
  intro pins s σ H x y v u Q I rx ry h
  obtain ⟨hs, q⟩ := h
  cases x with
  | non =>
    cases rx
    cases y with
    | non => cases ry; exact PySem.EqNone.ne_none_none (fin_bl I q (by simp))
    | bl j => cases ry; exact PySem.EqNone.ne_none_bool (fin_bl I q (by simp))
    | int j => obtain ⟨t', rfl⟩ := ry; exact PySem.EqNone.ne_none_int (fin_bl I q (by simp))
    | str j => obtain ⟨t', rfl⟩ := ry; exact PySem.EqNone.ne_none_str (fin_bl I q (by simp))
    | _ => exact absurd (show false = true from hs) Bool.false_ne_true
  | bl i =>
    cases rx
    cases y with
    | non => cases ry; exact PySem.EqNone.ne_bool_none (fin_bl I q (by simp))
    | bl j => cases ry; exact ne_bool (fin_bl I q (congrArg not dec_bl))
    | str j => obtain ⟨t', rfl⟩ := ry; exact PySem.EqMixed.ne_bool_str (fin_bl I q (by simp))
    | _ => exact absurd (show false = true from hs) Bool.false_ne_true
  | int i =>
    obtain ⟨t, rfl⟩ := rx
    cases y with
    | non => cases ry; exact PySem.EqNone.ne_int_none (fin_bl I q (by simp))
    | int j => obtain ⟨t', rfl⟩ := ry; exact ne_int (fin_bl I q (congrArg not dec_int))
    | str j => obtain ⟨t', rfl⟩ := ry; exact PySem.EqMixed.ne_int_str (fin_bl I q (by simp))
    | _ => exact absurd (show false = true from hs) Bool.false_ne_true
  | str i =>
    obtain ⟨t, rfl⟩ := rx
    cases y with
    | non => cases ry; exact PySem.EqNone.ne_str_none (fin_bl I q (by simp))
    | bl j => cases ry; exact PySem.EqMixed.ne_str_bool (fin_bl I q (by simp))
    | int j => obtain ⟨t', rfl⟩ := ry; exact PySem.EqMixed.ne_str_int (fin_bl I q (by simp))
    | str j => obtain ⟨t', rfl⟩ := ry; exact ne_str (fin_bl I q (congrArg not dec_str))
    | _ => exact absurd (show false = true from hs) Bool.false_ne_true
  | byt i =>
    obtain ⟨t, rfl⟩ := rx
    cases y with
    | byt j => obtain ⟨t', rfl⟩ := ry; exact PySem.W.ne_bytes (fin_bl I q (congrArg not dec_byt))
    | _ => exact absurd (show false = true from hs) Bool.false_ne_true
  | _ => cases y <;> exact absurd (show false = true from hs) Bool.false_ne_true
theorem op_lt : OpR X (compareOp .Lt) (rI0 fun i j => .bl (decide (i < j))) := opB0 fun _ _ _ _ _ _ _ q => lt_int q
theorem op_le : OpR X (compareOp .LtE) (rI0 fun i j => .bl (decide (i ≤ j))) := opB0 fun _ _ _ _ _ _ _ q => le_int q
theorem op_gt : OpR X (compareOp .Gt) (rI0 fun i j => .bl (decide (j < i))) := opB0 fun _ _ _ _ _ _ _ q => gt_int q
theorem nomark (b : Expr) {op : CmpOp} (h : op ≠ .In := by decide) (h2 : op ≠ .NotIn := by decide) : behindInMarks op b = false := by
  have e1 : (op == CmpOp.In) = false := by cases op <;> first | rfl | exact absurd rfl h
  have e2 : (op == CmpOp.NotIn) = false := by cases op <;> first | rfl | exact absurd rfl h2
  cases b <;> simp [behindInMarks, e1, e2]
theorem pe_cmpR {op : CmpOp} {r : R2} (ho : OpR X (compareOp op) r) (ha : PE X a ta) (hb : PE X b tb) (hm : behindInMarks op b = false) : PE X (.Compare a [op] [b] pos) (tOp r ta tb) := by
  intro pins s σ H Q I h
  exact wpAny_Compare1 (binT ha hb I h fun v u s2 x y H2 I2 rx ry q => ho pins s2 σ H2 x y v u Q I2 rx ry q) hm
def tTest (t : TE) : TT := fun σ H Q => t σ H fun x H' => ∃ k, x = .bl k ∧ Q k H'
theorem pt_cmpR {op : CmpOp} {r : R2} (ho : OpR X (compareOp op) r) (ha : PE X a ta) (hb : PE X b tb) (hm : behindInMarks op b = false) : PT X (.Compare a [op] [b] pos) (tTest (tOp r ta tb)) := by
  intro pins s σ H Q I h
  refine wpAny_isTrue_Compare1 (thn (ha pins s σ H _ I h) fun v s1 ⟨x, H1, I1, r1, q1⟩ => thn (hb pins s1 σ H1 _ I1 q1) fun u s2 ⟨y, H2, I2, r2, q2⟩ =>
    thn (ho pins s2 σ H2 x y v u _ I2 r1 r2 q2) fun c s3 ⟨z, H3, I3, r3, k, e, q3⟩ => ?_) hm
  subst e
  cases r3
  exact wpAny_truthy_bool ⟨H3, I3, q3⟩
def tChain (r r' : R2) (ta tb tc : TE) : TE := fun σ H Q => ta σ H fun x H1 => tb σ H1 fun y H2 => r x y H2 fun z H3 => ∃ k, z = .bl k ∧
  (if k = true then tc σ H3 fun w' H4 => r' y w' H4 Q else Q (.bl false) H3)
theorem pt_chain {op op' : CmpOp} {r r' : R2} (ho : OpR X (compareOp op) r) (ho' : OpR X (compareOp op') r') (ha : PE X a ta) (hb : PE X b tb) (hc : PE X c tc)
    (hm : lastMarks [op, op'] [b, c] = false := by with_unfolding_all rfl) : PT X (.Compare a [op, op'] [b, c] pos) (tTest (tChain r r' ta tb tc)) := by
  intro pins s σ H Q I h
  refine isTrue_chain (thn (ha pins s σ H _ I h) fun v s1 ⟨x, H1, I1, r1, q1⟩ => test_link (thn (hb pins s1 σ H1 _ I1 q1) fun u s2 ⟨y, H2, I2, r2, q2⟩ =>
    thn (ho pins s2 σ H2 x y v u _ I2 r1 r2 q2) fun d s3 ⟨z, H3, I3, r3, k, e, q3⟩ => ?_)) hm
  subst e
  cases r3
  refine wpAny_truthy_bool ?_
  cases k with
  | false =>
    obtain ⟨k', e', q'⟩ := q3
    cases e'
    exact ite_ff ⟨H3, I3, q'⟩
  | true =>
    refine ite_tt (test_last (thn (hc pins s3 σ H3 _ I3 q3) fun w' s4 ⟨z', H4, I4, r4, q4⟩ => thn (ho' pins s4 σ H4 y z' u w' _ I4 r2 r4 q4) fun d' s5 ⟨z2, H5, I5, r5, k2, e2, q5⟩ => ?_))
    subst e2
    cases r5
    exact wpAny_truthy_bool ⟨H5, I5, q5⟩
theorem line63 : (sizeLine : Nat) < 2 ^ 63 := by rw [sizeLine_eq]; decide
theorem vals1 {x : V} {us : List Value} (r : Vals [x] us) : ∃ u, us = [u] ∧ RelV x u := by
  cases r with
  | cons r1 r2 => cases r2; exact ⟨_, rfl, r1⟩
end
end L2
namespace L2
open PySem PySem.Spec PyProof.Rows
structure ObjM (h : Heap) (x dx C : Addr) (mA : Str → Option Value) : Prop where
  obj : h.get? x = some (PySem.W.instObj C dx)
  ns : h.Ns1 dx mA
  ne : dx ≠ x
theorem lookIn_ns {h : Heap} {dx : Addr} {mA : Str → Option Value} (n : h.Ns1 dx mA) : ∃ od, h.get? dx = some od ∧ ∀ name, PySem.W.lookIn name od = some (mA name) := by
  obtain ⟨o, es, ep, ho, hd, hk, _, hm⟩ := n
  refine ⟨o, ho, fun name => ?_⟩
  have e := hm name
  unfold nsFind findBy at e
  rw [← Array.find?_toList] at e
  unfold PySem.W.lookIn
  rw [hd]
  dsimp only
  split
  · rename_i y q
    rw [q] at e
    exact congrArg some e
  · rename_i q
    rw [q] at e
    have a : es.toList.any (·.refKey) = false := by
      rw [List.any_eq_false]
      intro y hy
      obtain ⟨z, t, hkey⟩ := hk y (Array.mem_toList_iff.mp hy)
      simp [DictEntry.refKey, hkey]
    have a' : ¬ es.toList.any (·.refKey) = true := by rw [a]; exact Bool.false_ne_true
    rw [if_neg a']
    exact congrArg some e
theorem ObjM.look {h : Heap} {x dx C : Addr} {mA : Str → Option Value} (I : ObjM h x dx C mA) : ∃ od, PySem.W.InstAt h x (PySem.W.instObj C dx) C (some od) ∧ ∀ name, PySem.W.lookIn name od = some (mA name) :=
  let ⟨od, ho, hl⟩ := lookIn_ns I.ns
  ⟨od, ⟨I.obj, rfl, rfl, ho⟩, hl⟩
section
variable {prog : Program} {w : World} {A : Around} {E : Value → Shared → Prop} {s : Shared} {K : PySem.W.Frag} {x dx C f : Addr} {mA : Str → Option Value} {name : Str} {v : Value}
theorem get_map {expr : Bool} {Q : Value → Shared → Prop} (X : K.In s.heap) (I : ObjM s.heap x dx C mA) (hg : PySem.W.plainGet K C name = true) (hh : PySem.W.hasDictIn K C = true)
    (ha : PySem.W.findIn K (.ref C) name = some none) (hv : mA name = some v) (hv' : PySem.W.handedIn v = true) (h : Q v { s with toks := s.toks + 1 }) :
    wpAny (model prog w) A (getAttr (.ref x) name expr) Q E s := by
  obtain ⟨od, J, hl⟩ := I.look
  exact PySem.W.get_value X J (PySem.W.plainGet_of hg).1 (PySem.W.findObj_own hh ha rfl (by rw [hl, hv])) hv' h
theorem get_meth {pl : Sem Bool} {Q : Value × List Value → Shared → Prop} (X : K.In s.heap) (I : ObjM s.heap x dx C mA) (hg : PySem.W.plainGet K C name = true)
    (hf : PySem.W.findIn K (.ref C) name = some (some (.ref f))) (ht : PySem.W.isFn K (.ref f) = true) (hv : mA name = none) (h : Q (.ref f, [.ref x]) s) :
    wpAny (model prog w) A (getMethod (.ref x) name pl) Q E s := by
  obtain ⟨od, J, hl⟩ := I.look
  exact PySem.W.method_fn X J (PySem.W.plainGet_of hg).1 (PySem.W.plainGet_of hg).2 hf (beq_iff_eq.mp ht) (by show (PySem.W.lookIn name od).map (·.isSome) = some false; rw [hl, hv]; rfl) h
theorem set_map {ns : List Str} {Q : Unit → Shared → Prop} (X : K.In s.heap) (I : ObjM s.heap x dx C mA)
    (hs : PySem.W.findIn K (.ref C) "__setattr__" = some (some (.builtin "object.__setattr__"))) (hp : PySem.W.plainOver K C = true) (ht : PySem.W.takerIn K C name = some none) (hh : PySem.W.hasDictIn K C = true)
    (hw : PySem.Within mA ns) (hsz : ns.length ≤ sizeLine)
    (h : ∀ h', ObjM h' x dx C (fun y => if y = name then some v else mA y) → Heap.SameBut dx s.heap h' → Q () { s with heap := h', toks := s.toks + 2 }) :
    wpAny (model prog w) A (setAttr (.ref x) name v) Q E s := by
  obtain ⟨od, J, hl⟩ := I.look
  refine PySem.W.set_plain X J hs (PySem.W.osa_open (s := { s with toks := s.toks + 1 }) (r := none) X J hp ht fun b => ?_)
  obtain ⟨cd, hc, hd'⟩ := PySem.W.any_some hh
  have hx : s.heap.get? x = some ⟨.ref C, some dx, .plain, #[]⟩ := I.obj
  refine wpAny_bind (wpAny_pure (wpAny_bind (wpAny_bind (wpAny_loadPart hx (wpAny_bind (PySem.W.Looks.here (s := { s with toks := s.toks + 1 }) (PySem.W.looks_clsIn X hc) ?_))))))
  rw [hd']
  refine wpAny_pure (a := some dx) (wpAny_bind (wpAny_pure (wpAny_bind ?_)))
  refine wpAny_nsSet1 (s := { s with toks := s.toks + 1 }) I.ns fun h' hn2 hs2 => ?_
  obtain ⟨oD, esD, epD, hoD, hdD, hcD⟩ := hn2.count (PySem.Within.cons name v hw)
  refine wpAny_bind (wpAny_lookBehind hoD (by rw [hdD]; exact pastItsLine_dict (Nat.le_trans hcD (by rw [List.length_cons]; omega))) ?_)
  exact wpAny_pure (h _ ⟨(hs2.2 _ (Ne.symm I.ne)).trans I.obj, hn2, I.ne⟩ hs2)
theorem make_map {R : Result → Shared → Prop} {vs : List Value} {kw : List (Str × Value)} (X : K.In s.heap) (hm : PySem.W.makesIn K C = true)
    (hi : PySem.W.findIn K (.ref C) "__init__" = some (some (.ref f))) (hf : PySem.W.typeIn K (.ref f) = some (.type "function"))
    (h : codeAny (model prog w) (A.under (.builtin "type.__call__" ⟨.ref C :: vs, kw⟩)) (.call (.ref f) ⟨.ref (s.heap.objs.size + 1) :: vs, kw⟩) (PySem.W.InitBack (s.heap.objs.size + 1) R)
      { s with heap := (s.heap.push PySem.W.emptyDict).push (PySem.W.instObj C s.heap.objs.size) }) :
    codeAny (model prog w) A (.call (.ref C) ⟨vs, kw⟩) R s := by
  obtain ⟨hh, g, d, t, os⟩ := s
  exact PySem.W.make_core (PySem.W.makes_of X hm) (PySem.W.looks_findIn X hi) (fun self => PySem.W.bind_fn X self hf) (.inl rfl) h
end
def putF (f : Str) (v : V) : List (Str × V) → List (Str × V)
  | [] => [(f, v)]
  | (g, x) :: r => if g = f then (g, v) :: r else (g, x) :: putF f v r
theorem lookup_putF (f g : Str) (v : V) : ∀ fs : List (Str × V), (putF f v fs).lookup g = if g = f then some v else fs.lookup g
  | [] => by
    show List.lookup g [(f, v)] = _
    by_cases h : g = f
    · have hb : (g == f) = true := beq_iff_eq.mpr h
      simp only [List.lookup, hb, if_pos h]
    · have hb : (g == f) = false := beq_eq_false_iff_ne.mpr h
      simp only [List.lookup, hb, if_neg h]
  | (k, x) :: r => by
    have ih := lookup_putF f g v r
    rw [show putF f v ((k, x) :: r) = (if k = f then (k, v) :: r else (k, x) :: putF f v r) from rfl]
    by_cases hk : k = f
    · rw [if_pos hk]
      by_cases h : g = k
      · have hb : (g == k) = true := beq_iff_eq.mpr h
        simp only [List.lookup, hb, if_pos (h.trans hk)]
      · have hb : (g == k) = false := beq_eq_false_iff_ne.mpr h
        simp only [List.lookup, hb, if_neg (fun e : g = f => h (e.trans hk.symm))]
    · rw [if_neg hk]
      by_cases h : g = k
      · have hb : (g == k) = true := beq_iff_eq.mpr h
        simp only [List.lookup, hb, if_neg (fun e : g = f => hk (h.symm.trans e))]
      · have hb : (g == k) = false := beq_eq_false_iff_ne.mpr h
        simp only [List.lookup, hb]
        exact ih
theorem keys_putF (f : Str) (v : V) : ∀ fs : List (Str × V), f ∈ (putF f v fs).map (·.1) ∧ ∀ g, g ∈ fs.map (·.1) → g ∈ (putF f v fs).map (·.1)
  | [] => ⟨by simp [putF], fun g h => by simp at h⟩
  | (k, x) :: r => by
    obtain ⟨i1, i2⟩ := keys_putF f v r
    rw [show putF f v ((k, x) :: r) = (if k = f then (k, v) :: r else (k, x) :: putF f v r) from rfl]
    by_cases hk : k = f
    · rw [if_pos hk]
      subst hk
      exact ⟨by simp, fun g h => by simpa using h⟩
    · rw [if_neg hk]
      refine ⟨?_, fun g h => ?_⟩
      · rw [List.map_cons]
        exact List.mem_cons_of_mem _ i1
      · rw [List.map_cons] at h ⊢
        rcases List.mem_cons.mp h with e | e
        · exact List.mem_cons.mpr (.inl e)
        · exact List.mem_cons_of_mem _ (i2 g e)
theorem length_putF (f : Str) (v : V) : ∀ fs : List (Str × V), (putF f v fs).length ≤ fs.length + 1
  | [] => by simp [putF]
  | (k, x) :: r => by
    have ih := length_putF f v r
    rw [show putF f v ((k, x) :: r) = (if k = f then (k, v) :: r else (k, x) :: putF f v r) from rfl]
    by_cases hk : k = f
    · rw [if_pos hk, List.length_cons, List.length_cons]; omega
    · rw [if_neg hk, List.length_cons, List.length_cons]; omega
theorem RelO.some_of {v : V} {o : Option Value} (r : RelO (some v) o) : ∃ u, o = some u ∧ RelV v u := by
  cases o with
  | none => exact (show False from r).elim
  | some u => exact ⟨u, rfl, r⟩
theorem RelO.none_of {o : Option Value} (r : RelO none o) : o = none := by
  cases o with
  | none => rfl
  | some u => exact (show False from r).elim
theorem handed_of {v : V} {u : Value} (r : RelV v u) : PySem.W.handedIn u = true := by
  cases v with
  | non => cases (show u = Value.none from r); rfl
  | bl b => cases (show u = Value.bool b from r); rfl
  | int i => obtain ⟨t, e⟩ := (show ∃ t, u = Value.int i t from r); cases e; rfl
  | str x => obtain ⟨t, e⟩ := (show ∃ t, u = Value.str x t from r); cases e; rfl
  | byt b => obtain ⟨t, e⟩ := (show ∃ t, u = Value.bytes b t from r); cases e; rfl
  | flt b => obtain ⟨t, e⟩ := (show ∃ t, u = Value.float b t from r); cases e; rfl
  | ref a => cases (show u = Value.ref a from r); rfl
  | ty n => cases (show u = Value.type n from r); rfl
section
variable {P : Program} {w : World} {H H' : Hp} {h h' : Heap} {a C dx : Addr} {fs fs' : List (Str × V)}
theorem ins_get (hok : HOk P w H h) (e : H a = some (.ins C dx fs)) : ∃ mA, ObjM h a dx C mA ∧ (∀ f, RelO (fs.lookup f) (mA f)) ∧ PySem.Within mA (fs.map (·.1)) ∧ fs.length ≤ 1000 ∧ H dx = some (.own a) := by
  obtain ⟨d, z, ne, ob, mA, n, r, q⟩ := (show ObjOk P w H h a (.ins C dx fs) from hok a _ e)
  exact ⟨mA, ⟨ob, n, ne⟩, r, q, z, d⟩
end
structure Cls (K : PySem.W.Frag) (C : Addr) : Prop where
  pg : PySem.W.plainGet K C Str.empty = true
  hd : PySem.W.hasDictIn K C = true
  po : PySem.W.plainOver K C = true
  sa : PySem.W.findIn K (.ref C) "__setattr__" = some (some (.builtin "object.__setattr__"))
theorem Cls.get {K : PySem.W.Frag} {C : Addr} (c : Cls K C) (f : Str) : PySem.W.plainGet K C f = true := c.pg
def NoAttr (K : PySem.W.Frag) (C : Addr) (f : Str) : Prop := PySem.W.findIn K (.ref C) f = some none
theorem NoAttr.taker {K : PySem.W.Frag} {C : Addr} {f : Str} (n : NoAttr K C f) : PySem.W.takerIn K C f = some none := by
  unfold PySem.W.takerIn
  rw [show PySem.W.findIn K (.ref C) f = some none from n]
  rfl
structure Meth (K : PySem.W.Frag) (C : Addr) (m : Str) (f : Addr) : Prop where
  at_ : PySem.W.findIn K (.ref C) m = some (some (.ref f))
  fn : PySem.W.isFn K (.ref f) = true
  kp : PySem.W.keepIn K (.ref f) = true
section
variable {X : Cx} {pins : List (Addr × Obj)} {σ : St} {H : Hp} {s : Shared} {a C dx : Addr} {fs : List (Str × V)} {f : Str} {v : V} {A : Around} {E : Value → Shared → Prop}
theorem getattr_ok {b : Bool} {Q : Value → Shared → Prop} (I : Inv X pins σ H s) (e : H a = some (.ins C dx fs)) (c : Cls X.K C) (n : NoAttr X.K C f) (l : fs.lookup f = some v)
    (h : ∀ u s', Inv X pins σ H s' → RelV v u → Q u s') : wpAny (model X.prog X.w) A (getAttr (.ref a) f b) Q E s := by
  obtain ⟨mA, O, r, _, _, _⟩ := ins_get I.hok e
  obtain ⟨u, hu, ru⟩ := RelO.some_of (v := v) (o := mA f) (by rw [← l]; exact r f)
  exact get_map I.kIn O (c.get f) c.hd n hu (handed_of ru) (h u _ (I.tok _) ru)
theorem getmeth_ok {m : Str} {g : Addr} {pl : Sem Bool} {Q : Value × List Value → Shared → Prop} (I : Inv X pins σ H s) (e : H a = some (.ins C dx fs)) (c : Cls X.K C) (k : Meth X.K C m g) (l : fs.lookup m = none)
    (h : Q (.ref g, [.ref a]) s) : wpAny (model X.prog X.w) A (getMethod (.ref a) m pl) Q E s := by
  obtain ⟨mA, O, r, _, _, _⟩ := ins_get I.hok e
  have hn : mA m = none := RelO.none_of (by rw [← l]; exact r m)
  exact get_meth I.kIn O (c.get m) k.at_ k.fn hn h
theorem setattr_ok {y : V} {u : Value} {Q : Unit → Shared → Prop} (I : Inv X pins σ H s) (e : H a = some (.ins C dx fs)) (c : Cls X.K C) (n : NoAttr X.K C f) (hl : fs.length < 1000) (ry : RelV y u)
    (h : ∀ s', Inv X pins σ (upd H a (.ins C dx (putF f y fs))) s' → Q () s') : wpAny (model X.prog X.w) A (setAttr (.ref a) f u) Q E s := by
  obtain ⟨mA, O, r, wi, _, ho⟩ := ins_get I.hok e
  have hz : (fs.map (·.1)).length ≤ sizeLine := by rw [List.length_map, sizeLine_eq]; omega
  refine set_map I.kIn O c.sa c.po n.taker c.hd wi hz fun h' O' sb => h _ ?_
  have hd : ∃ o, h'.get? dx = some o := let ⟨o, _, _, e', _⟩ := O'.ns; ⟨o, e'⟩
  refine I.write (x := a) (e := dx) (by rw [e]; exact True.intro) (.inr ho) (fun b q hb z => (sb.2 b hb).trans z) hd ?_
  refine ⟨by rw [upd_ne O.ne]; exact ho, ?_, O.ne, O'.obj, _, O'.ns, fun g => ?_, fun g hg => ?_⟩
  · have := length_putF f y fs; omega
  · show RelO ((putF f y fs).lookup g) (if g = f then some u else mA g)
    rw [lookup_putF]
    by_cases q : g = f
    · rw [if_pos q, if_pos q]; exact ry
    · rw [if_neg q, if_neg q]; exact r g
  · by_cases q : g = f
    · rw [q]; exact (keys_putF f y fs).1
    · refine (keys_putF f y fs).2 g (wi g fun z => hg ?_)
      show (if g = f then some u else mA g) = none
      rw [if_neg q]; exact z
theorem Inv.made (I : Inv X pins σ H s) : Inv X pins σ (upd (upd H s.heap.objs.size (.own (s.heap.objs.size + 1))) (s.heap.objs.size + 1) (.ins C s.heap.objs.size []))
    { s with heap := (s.heap.push PySem.W.emptyDict).push (PySem.W.instObj C s.heap.objs.size) } := by
  have e1 : (s.heap.push PySem.W.emptyDict).get? s.heap.objs.size = some PySem.W.emptyDict := Heap.get?_push_size s.heap rfl
  have e2 : ((s.heap.push PySem.W.emptyDict).push (PySem.W.instObj C s.heap.objs.size)).get? (s.heap.objs.size + 1) = some (PySem.W.instObj C s.heap.objs.size) := by
    have := Heap.get?_push_size (s.heap.push PySem.W.emptyDict) (o := PySem.W.instObj C s.heap.objs.size) rfl
    rwa [Heap.size_push] at this
  have e3 : (s.heap.push PySem.W.emptyDict).Ns s.heap.objs.size (fun _ => none) := ⟨PySem.W.emptyDict, #[], _, e1, rfl, (fun e he => absurd he (by simp)), fun _ => rfl⟩
  have I1 := I.laid (a := s.heap.objs.size) (o := .own (s.heap.objs.size + 1)) (h' := s.heap.push PySem.W.emptyDict) (t' := s.toks) (fun b u q => Heap.get?_push_of_some _ q) (Nat.le_refl _) ⟨_, e1⟩
  refine I1.laid (a := s.heap.objs.size + 1) (o := .ins C s.heap.objs.size []) (t' := s.toks) (fun b u q => Heap.get?_push_of_some _ q) (Nat.le_of_eq (Heap.size_push _ _)) ?_
  have ne : s.heap.objs.size ≠ s.heap.objs.size + 1 := Nat.ne_of_lt (Nat.lt_succ_self _)
  refine ⟨by rw [upd_ne ne, upd_same], Nat.zero_le _, ne, e2, fun _ => none, (Heap.Ns1.of_empty e3).at fun o q => Heap.get?_push_of_some _ q, fun _ => True.intro, fun y hy => absurd rfl hy⟩
theorem attr_of {prog : Program} {w : World} {env : Env} {e : Expr} {f : Str} {pos : Pos} {s : Shared} {Q : Value → Shared → Prop} (hb : attributeBase e f env (eval e env) = eval e env)
    (h : wpAny (model prog w) A (eval e env) (fun o s₁ => wpAny (model prog w) A (getAttr o f true) Q E s₁) E s) : wpAny (model prog w) A (eval (.Attribute e f pos) env) Q E s :=
  Attribute_any_ h (by rw [arm_eval_Attribute, hb])
end
def tFld (K : PySem.W.Frag) (ta : TE) (f : Str) : TE := fun σ H Q => ta σ H fun x H1 => ∃ a C dx fs v, x = .ref a ∧ H1 a = some (.ins C dx fs) ∧ Cls K C ∧ NoAttr K C f ∧ fs.lookup f = some v ∧ Q v H1
def sFld (K : PySem.W.Frag) (ta tv : TE) (f : Str) : TS := fun D σ H => tv σ H fun y H1 => ta σ H1 fun x H2 => ∃ a C dx fs, x = .ref a ∧ H2 a = some (.ins C dx fs) ∧ Cls K C ∧ NoAttr K C f ∧ fs.length < 1000 ∧
  D.nx σ (upd H2 a (.ins C dx (putF f y fs)))
def InOp (X : Cx) (op : Operator) (rd : V → V → Hp → VK → Prop) : Prop :=
  ∀ (pins : List (Addr × Obj)) (s : Shared) (σ : St) (H : Hp) (x y : V) (u v : Value) (Q : VK), Inv X pins σ H s → RelV x u → RelV y v → rd x y H Q → wpAny (model X.prog X.w) X.A (inplaceOp op u v) (EP X pins σ Q) X.xe s
def sFldAug (K : PySem.W.Frag) (ta tv : TE) (rd : V → V → Hp → VK → Prop) (f : Str) : TS := fun D σ H => ta σ H fun x H1 => ∃ a C dx fs v, x = .ref a ∧ H1 a = some (.ins C dx fs) ∧ Cls K C ∧ NoAttr K C f ∧ fs.lookup f = some v ∧
  tv σ H1 fun y H2 => rd v y H2 fun z H3 => ∃ dx' fs', H3 a = some (.ins C dx' fs') ∧ fs'.length < 1000 ∧ D.nx σ (upd H3 a (.ins C dx' (putF f z fs')))
section
variable {X : Cx} {o e value : Expr} {f : Str} {pos pos' tpos : Pos} {ta tv : TE}
theorem pe_fld (he : PE X e ta) (hb : attributeBase e f X.env (eval e X.env) = eval e X.env) : PE X (.Attribute e f pos) (tFld X.K ta f) := by
  intro pins s σ H Q I h
  refine attr_of hb (thn (he pins s σ H _ I h) fun u s1 ⟨x, H1, I1, rx, a, C, dx, fs, v, ex, ea, c, n, l, q⟩ => ?_)
  subst ex
  obtain rfl : u = Value.ref a := rx
  exact getattr_ok I1 ea c n l fun u' s2 I2 ru => ⟨v, H1, I2, ru, q⟩
theorem ps_fld (ha : PE X o ta) (hv : PE X value tv) (hs : swapsWith value (some (.Attribute o f pos')) pos.line X.env = pure false) : PS X (.Assign [.Attribute o f pos'] value pos) (sFld X.K ta tv f) := by
  intro pins s σ H D I h
  refine plainObj_wpAny_Assign_Attribute (thn (hv pins s σ H _ I h) fun u s1 ⟨y, H1, I1, ry, q⟩ => thn (ha pins s1 σ H1 _ I1 q) fun ov s2 ⟨x, H2, I2, rx, a, C, dx, fs, ex, ea, c, n, l, q2⟩ => ?_) hs
  subst ex
  obtain rfl : ov = Value.ref a := rx
  exact setattr_ok I2 ea c n l ry fun s3 I3 => ⟨σ, _, I3, q2⟩
theorem ps_fldaug {op : Operator} {rd : V → V → Hp → VK → Prop} (ha : PE X o ta) (hv : PE X value tv) (hop : InOp X op rd) : PS X (.AugAssign (.Attribute o f tpos) op value pos) (sFldAug X.K ta tv rd f) := by
  intro pins s σ H D I h
  refine wpAny_AugAssign_AttributeAny (thn (ha pins s σ H _ I h) fun ov s1 ⟨x, H1, I1, rx, a, C, dx, fs, v, ex, ea, c, n, l, q⟩ => ?_)
  subst ex
  obtain rfl : ov = Value.ref a := rx
  refine getattr_ok I1 ea c n l fun u s2 I2 ru => thn (hv pins s2 σ H1 _ I2 q) fun w3 s3 ⟨y, H2, I3, ry, q3⟩ => thn (hop pins s3 σ H2 v y u w3 _ I3 ru ry q3) fun w4 s4 ⟨z, H3, I4, rz, dx', fs', ea', l', q4⟩ => ?_
  exact setattr_ok I4 ea' c n l' rz fun s5 I5 => ⟨σ, _, I5, q4⟩
def rAdd : V → V → Hp → VK → Prop := fun x y H Q => ∃ i j, x = .int i ∧ y = .int j ∧ Q (.int (i + j)) H
theorem in_add : InOp X .Add rAdd := by
  rintro pins s σ H x y u v Q I rx ry ⟨i, j, rfl, rfl, q⟩
  obtain ⟨t, rfl⟩ := (show ∃ t, u = Value.int i t from rx)
  obtain ⟨t', rfl⟩ := (show ∃ t', v = Value.int j t' from ry)
  exact PyProof.Rows.iadd_int ⟨.int (i + j), H, I.tok _, ⟨_, rfl⟩, q⟩
end
section
variable {X : Cx} {pins : List (Addr × Obj)} {σ : St} {H : Hp} {s : Shared} {A : Around} {E : Value → Shared → Prop} {Q : Value → Shared → Prop} {c : Value} {b : Bool}
end
end L2
namespace L2
open PySem PySem.Spec PyProof.Rows
structure Room (k : Nat) (A : Around) : Prop where
  hd : A.handled = none
  dp : A.depth + 3 * k + 5 < recursionLimit
  un : A.units + 16 * k + 200 < cLine
theorem Room.mono {j k : Nat} {A : Around} (r : Room k A) (h : j ≤ k) : Room j A := ⟨r.hd, by have := r.dp; omega, by have := r.un; omega⟩
theorem Room.deeper {k : Nat} {A : Around} (r : Room (k + 1) A) (env : Env) : Room k (A.deeper env) :=
  ⟨r.hd, by have := r.dp; show A.depth + 1 + 3 * k + 5 < _; omega, by have := r.un; show A.units + 3 + 16 * k + 200 < _; omega⟩
theorem make_depth {A : Around} {C : Addr} {us : List Value} {kw : List (Str × Value)} : (A.under (.builtin "type.__call__" ⟨.ref C :: us, kw⟩)).depth = A.depth + 1 := by
  first | rfl | simp [Around.under, Code.weight, Code.isCreation, Code.isGuard, Code.isCaller, Code.frames, Code.isFrame, guardIds]
theorem make_units {A : Around} {C : Addr} {us : List Value} {kw : List (Str × Value)} : (A.under (.builtin "type.__call__" ⟨.ref C :: us, kw⟩)).units = A.units + 1 := by
  first | rfl | simp [Around.under, Code.cUnits, Code.frames, Code.isFrame]
theorem Room.make {k : Nat} {A : Around} (r : Room (k + 1) A) (C : Addr) (us : List Value) (kw : List (Str × Value)) : Room k (A.under (.builtin "type.__call__" ⟨.ref C :: us, kw⟩)) :=
  ⟨r.hd, by have := r.dp; rw [make_depth]; omega, by have := r.un; rw [make_units]; omega⟩
theorem Room.depth {k : Nat} {A : Around} (r : Room k A) : A.depth < recursionLimit := by have := r.dp; omega
theorem Room.units {k : Nat} {A : Around} (r : Room k A) : A.units + 64 < cLine := by have := r.un; omega
def tNil : TA := fun _ H Q => Q [] H
def tCons (ta : TE) (tr : TA) : TA := fun σ H Q => ta σ H fun x H1 => tr σ H1 fun xs H2 => Q (x :: xs) H2
section
variable {X : Cx} {e : Expr} {es : List Expr} {te : TE} {t : TA} {pos : Pos}
theorem pa_nil : PA X [] tNil := fun _ _ _ _ H Q I h => Calls.spliced_nil ⟨[], H, I, .nil, h⟩
theorem pa_cons (ha : PE X e te) (hr : PA X es t) (hs : starEach (e :: es) X.env = (false, eval e X.env) :: starEach es X.env := by rfl) : PA X (e :: es) (tCons te t) := by
  intro pos pins s σ H Q I h
  rw [hs]
  show wpAny _ _ (spliced ((false, eval e X.env) :: backTo pos (starEach es X.env))) _ _ s
  refine Calls.spliced_cons (thn (ha pins s σ H _ I h) fun u s1 ⟨x, H1, I1, r1, q1⟩ => ?_)
  exact thn (hr pos pins s1 σ H1 _ I1 q1) fun us s2 ⟨xs, H2, I2, r2, q2⟩ => ⟨x :: xs, H2, I2, .cons r1 r2, q2⟩
def tTup (t : TA) : TE := fun σ H Q => t σ H fun xs H1 => xs.length ≤ sizeLine ∧ ∀ p, H1 p = none → Q (.ref p) (upd H1 p (.tup xs))
def tLst (t : TA) : TE := fun σ H Q => t σ H fun xs H1 => xs.length ≤ sizeLine ∧ ∀ p, H1 p = none → Q (.ref p) (upd H1 p (.lst xs))
theorem pe_tup {x1} (h : PA X es t) : PE X (.Tuple es x1 pos) (tTup t) := by
  intro pins s σ H Q I hq
  refine wpAny_Tuple_spliced (thn (h pos pins s σ H _ I hq) fun us s1 ⟨xs, H1, I1, r, z, q⟩ => ⟨by rw [← r.length]; exact z, ?_⟩)
  have hf : H1 s1.heap.objs.size = none := I1.hok.fresh (Nat.le_refl _)
  refine ⟨.ref s1.heap.objs.size, upd H1 s1.heap.objs.size (.tup xs), I1.laid (t' := s1.toks) (fun b u e => Heap.get?_push_of_some _ e) (Nat.le_refl _) ?_, rfl, q _ hf⟩
  exact ⟨z, us, r, ⟨_, Heap.get?_push_size _ rfl, rfl, _, rfl⟩⟩
theorem pe_lst (h : PA X es t) : PE X (.List es pos) (tLst t) := by
  intro pins s σ H Q I hq
  refine wpAny_List_spliced (thn (h pos pins s σ H _ I hq) fun us s1 ⟨xs, H1, I1, r, z, q⟩ => ⟨by rw [← r.length]; exact z, ?_⟩)
  have hf : H1 s1.heap.objs.size = none := I1.hok.fresh (Nat.le_refl _)
  refine ⟨.ref s1.heap.objs.size, upd H1 s1.heap.objs.size (.lst xs), I1.laid (t' := s1.toks) (fun b u e => Heap.get?_push_of_some _ e) (Nat.le_refl _) ?_, rfl, q _ hf⟩
  exact ⟨z, us, 0, r, Heap.get?_push_size _ rfl⟩
end
abbrev Sp := List V → Hp → VK → XK → Prop
abbrev CXT := List Env → Hp → Shared → XK → Value → Shared → Prop
structure Env0 (P : Program) (w : World) (K : PySem.W.Frag) (mg : Str → Option Value) (base : Heap) (A : Around) (outer : List Env) (s : Shared) (H : Hp) : Prop where
  frames : A.frames = some outer
  mod : Mod K mg base
  bs : ∀ b o, base.get? b = some o → s.heap.get? b = some o ∧ H b = none
  bsz : base.objs.size ≤ s.heap.objs.size
  funs : s.heap.FunFrames base outer
  frf : ∀ b ∈ frs outer, H b = none
  hok : HOk P w H s.heap
  bare : AllBare s.gens
def CE (outer : List Env) (P : Program) (w : World) (H : Hp) (s : Shared) (Q : VK) (u : Value) (s' : Shared) : Prop :=
  ∃ v H', s'.os = s.os ∧ AllBare s'.gens ∧ Un (frs outer) [] H H' s.heap s'.heap ∧ HOk P w H' s'.heap ∧ RelV v u ∧ Q v H'
def CR (CX : CXT) (outer : List Env) (P : Program) (w : World) (H : Hp) (s : Shared) (Q : VK) (E : XK) (r : Result) (s' : Shared) : Prop :=
  match r with
  | .ok (.ret u) => CE outer P w H s Q u s'
  | .ok _ => False
  | .error e => CX outer H s E e s'
structure FnOk (P : Program) (w : World) (K : PySem.W.Frag) (mg : Str → Option Value) (base : Heap) (CX : CXT) (k : Nat) (f : Addr) (fd : FuncData) (ps : List Str) (sp : Sp) : Prop where
  len : ∀ vs H Q E, sp vs H Q E → vs.length = ps.length
  run : ∀ (A : Around) (outer : List Env) (s : Shared) (H : Hp) (args : Args) (us : List Value) (vs : List V) (Q : VK) (E : XK), Room k A → Env0 P w K mg base A outer s H → BindsTo s fd args (ps.zip us) → Vals vs us → sp vs H Q E →
    codeAny (model P w) A (.call (.ref f) args) (CR CX outer P w H s Q E) s
theorem FnOk.mono {P : Program} {w : World} {K : PySem.W.Frag} {mg : Str → Option Value} {base : Heap} {CX : CXT} {j k : Nat} {f : Addr} {fd : FuncData} {ps : List Str} {sp : Sp} (F : FnOk P w K mg base CX j f fd ps sp) (h : j ≤ k) :
    FnOk P w K mg base CX k f fd ps sp := ⟨F.len, fun A outer s H args us vs Q E hr => F.run A outer s H args us vs Q E (hr.mono h)⟩
theorem Env0.make {P : Program} {w : World} {K : PySem.W.Frag} {mg : Str → Option Value} {base : Heap} {A : Around} {outer : List Env} {s : Shared} {H : Hp} (e : Env0 P w K mg base A outer s H) (C : Addr) (us : List Value) (kw : List (Str × Value)) :
    Env0 P w K mg base (A.under (.builtin "type.__call__" ⟨.ref C :: us, kw⟩)) outer s H := ⟨by first | exact e.frames | (simpa [Around.under, Code.envs, Code.isFrame, pushEnvs] using e.frames), e.mod, e.bs, e.bsz, e.funs, e.frf, e.hok, e.bare⟩
section
variable {X : Cx} {pins : List (Addr × Obj)} {σ : St} {H : Hp} {s s' : Shared}
theorem Inv.env0 (I : Inv X pins σ H s) : Env0 X.prog X.w X.K X.mg X.base X.A X.stack s H :=
  ⟨I.ok.frames, I.ok.mod, I.bs, Nat.le_trans I.ok.bsz I.sz, I.stack, I.stkFree, I.hok, I.bare⟩
theorem Inv.after {Q : VK} {u : Value} (I : Inv X pins σ H s) (h : CE X.stack X.prog X.w H s Q u s') : EP X pins σ Q u s' := by
  obtain ⟨v, H', os, bare, un, hok, r, q⟩ := h
  obtain ⟨hh, g, d, t, os'⟩ := s'
  obtain rfl : os' = s.os := os
  exact ⟨v, H', I.call (h' := hh) (g' := g) (d' := d) (t' := t) (ch := []) un hok bare (fun b z => absurd z (by simp)), r, q⟩
end
def tCall (sp : Sp) (dvs : List V) (E : XK) (t : TA) : TE := fun σ H Q => t σ H fun vs H1 => sp (vs ++ dvs) H1 Q E
def tMeth (C : Addr) (m : Str) (sp : Sp) (dvs : List V) (E : XK) (ta : TE) (t : TA) : TE := fun σ H Q => ta σ H fun x H1 => ∃ a dx fs, x = .ref a ∧ H1 a = some (.ins C dx fs) ∧ fs.lookup m = none ∧
  t σ H1 fun vs H2 => sp (x :: (vs ++ dvs)) H2 Q E
def tMake (C : Addr) (sp : Sp) (dvs : List V) (E : XK) (t : TA) : TE := fun σ H Q => t σ H fun vs H1 => ∀ x dx, H1 x = none → H1 dx = none → dx ≠ x →
  sp (.ref x :: (vs ++ dvs)) (upd (upd H1 dx (.own x)) x (.ins C dx [])) (fun v H2 => v = .non ∧ Q (.ref x) H2) E
def Binds (K : PySem.W.Frag) (fd : FuncData) (ps : List Str) (ds : List Value) : Prop :=
  ∀ (s : Shared) (us : List Value), K.In s.heap → (us ++ ds).length = ps.length → BindsTo s fd ⟨us, []⟩ (ps.zip (us ++ ds))
theorem Binds.all {K : PySem.W.Frag} {fd : FuncData} {ps : List Str} (h : ∀ us : List Value, us.length = ps.length → bindArgs fd ⟨us, []⟩ = pure (ps.zip us)) : Binds K fd ps [] := fun s us _ hl => by
  rw [List.append_nil] at hl ⊢
  exact .of_eq (h us hl)
def Passes (CX : CXT) (X : Cx) (E : XK) : Prop := ∀ (pins : List (Addr × Obj)) (σ : St) (H : Hp) (s : Shared) (e : Value) (s' : Shared), Inv X pins σ H s → CX X.stack H s E e s' → X.xe e s'
section
variable {X : Cx} {CX : CXT} {k : Nat} {f C : Addr} {fd : FuncData} {ps : List Str} {sp : Sp} {dvs : List V} {ds : List Value} {E : XK} {x m : Str} {p pos apos : Pos} {e o : Expr} {es : List Expr} {ta : TE} {t : TA}
theorem run_fn {pins : List (Addr × Obj)} {σ : St} {H : Hp} {s : Shared} {Q : VK} {us : List Value} {vs : List V} (F : FnOk X.prog X.w X.K X.mg X.base CX k f fd ps sp) (hr : Room k X.A) (hb : Binds X.K fd ps ds) (hd : Vals dvs ds) (hx : Passes CX X E)
    (I : Inv X pins σ H s) (r : Vals vs us) (h : sp (vs ++ dvs) H Q E) : wpAny (model X.prog X.w) X.A (call (.ref f) us) (EP X pins σ Q) X.xe s := by
  have r2 : Vals (vs ++ dvs) (us ++ ds) := r.append hd
  have hl : (us ++ ds).length = ps.length := by rw [← r2.length]; exact F.len _ _ _ _ h
  refine wpAny_call (codeAny_mono (F.run X.A X.stack s H ⟨us, []⟩ (us ++ ds) (vs ++ dvs) Q E hr I.env0 (hb s us I.kIn hl) r2 h) fun r s' hq => ?_)
  cases r with
  | error e => exact hx pins σ H s e s' I hq
  | ok fl =>
    cases fl with
    | ret u => exact I.after hq
    | next => exact False.elim hq
    | brk => exact False.elim hq
    | cont => exact False.elim hq
theorem pe_call (F : FnOk X.prog X.w X.K X.mg X.base CX k f fd ps sp) (hr : Room k X.A) (hg : Gl X x) (hm : X.mg x = some (.ref f)) (hk : PySem.W.keepIn X.K (.ref f) = true) (hb : Binds X.K fd ps ds) (hd : Vals dvs ds) (hx : Passes CX X E)
    (ha : PA X (e :: es) t) (hdb : (x == ("__debug__" : Str)) = false := by decide) (he : starEach (e :: es) X.env = (false, eval e X.env) :: starEach es X.env := by rfl) (hpl : (backTo pos (starEach es X.env)).any (·.1) = false := by rfl) :
    PE X (.Call (.Name x p) (e :: es) [] pos) (tCall sp dvs E t) := by
  intro pins s σ H Q I h
  refine wpAny_Call_Name_kw (ld_glob I hg hm ?_ hdb)
  refine PySem.W.callWith_K (h₀ := X.base) I.ok.mod.kin hk (thn (ha pos pins s σ H _ I h) fun us s1 ⟨vs, H1, I1, r, q⟩ => ⟨I1.kIn, ?_⟩) he hpl
  exact run_fn F hr hb hd hx I1 r q
theorem pe_meth {pl : Sem Bool} (he : PE X o ta) (c : Cls X.K C) (hm : Meth X.K C m f) (F : FnOk X.prog X.w X.K X.mg X.base CX k f fd ps sp) (hr : Room k X.A) (hb : Binds X.K fd ps ds) (hd : Vals dvs ds) (hx : Passes CX X E) (ha : PA X (e :: es) t)
    (hst : starEach (e :: es) X.env = (false, eval e X.env) :: starEach es X.env := by rfl) (hpl : (backTo pos (starEach es X.env)).any (·.1) = false := by rfl)
    (ht : eval (.Call (.Attribute o m apos) (e :: es) [] pos) X.env = (do
      let ov ← eval o X.env
      standAt apos.atName
      let (f, first) ← holding [ov] (getMethod ov m pl)
      callWith pos f first (backTo pos (starEach (e :: es) X.env)) (backToKw pos (keywordEach [] X.env))) := by rfl) :
    PE X (.Call (.Attribute o m apos) (e :: es) [] pos) (tMeth C m sp dvs E ta t) := by
  intro pins s σ H Q I h
  refine PySem.W.methodCall_KW (pl := pl) (thn (he pins s σ H _ I h) fun u s1 ⟨x, H1, I1, rx, a, dx, fs, ex, ea, l, q⟩ => ?_) ht
  subst ex
  obtain rfl : u = Value.ref a := rx
  refine getmeth_ok I1 ea c hm l ?_
  refine PySem.W.callWith_K (first := [.ref a]) (h₀ := X.base) I.ok.mod.kin hm.kp (thn (ha pos pins s1 σ H1 _ I1 q) fun us s2 ⟨vs, H2, I2, r, q2⟩ => ⟨I2.kIn, ?_⟩) hst hpl
  exact run_fn (us := .ref a :: us) (vs := .ref a :: vs) F hr hb hd hx I2 (.cons rfl r) q2
theorem pe_meth0 {pl : Sem Bool} (he : PE X o ta) (c : Cls X.K C) (hm : Meth X.K C m f) (F : FnOk X.prog X.w X.K X.mg X.base CX k f fd ps sp) (hr : Room k X.A) (hb : Binds X.K fd ps ds) (hd : Vals dvs ds) (hx : Passes CX X E)
    (ht : eval (.Call (.Attribute o m apos) [] [] pos) X.env = (do
      let ov ← eval o X.env
      standAt apos.atName
      let (f, first) ← holding [ov] (getMethod ov m pl)
      callWith pos f first (backTo pos (starEach [] X.env)) (backToKw pos (keywordEach [] X.env))) := by rfl) :
    PE X (.Call (.Attribute o m apos) [] [] pos) (tMeth C m sp dvs E ta tNil) := by
  intro pins s σ H Q I h
  refine PySem.W.methodCall_KW (pl := pl) (thn (he pins s σ H _ I h) fun u s1 ⟨x, H1, I1, rx, a, dx, fs, ex, ea, l, q⟩ => ?_) ht
  subst ex
  obtain rfl : u = Value.ref a := rx
  refine getmeth_ok I1 ea c hm l ?_
  exact PySem.W.callWith_K0 (first := [.ref a]) I1.kIn hm.kp (run_fn (us := [.ref a]) (vs := [.ref a]) F hr hb hd hx I1 (.cons rfl .nil) q)
structure Mk (K : PySem.W.Frag) (C f : Addr) : Prop where
  makes : PySem.W.makesIn K C = true
  init : PySem.W.findIn K (.ref C) "__init__" = some (some (.ref f))
  fn : PySem.W.isFn K (.ref f) = true
  kp : PySem.W.keepIn K (.ref C) = true
theorem run_make {pins : List (Addr × Obj)} {σ : St} {H : Hp} {s : Shared} {Q : VK} {us : List Value} {vs : List V} (M : Mk X.K C f) (F : FnOk X.prog X.w X.K X.mg X.base CX k f fd ps sp) (hr : Room (k + 1) X.A) (hb : Binds X.K fd ps ds) (hd : Vals dvs ds)
    (hx : Passes CX X E) (I : Inv X pins σ H s) (r : Vals vs us)
    (h : ∀ x dx, H x = none → H dx = none → dx ≠ x → sp (.ref x :: (vs ++ dvs)) (upd (upd H dx (.own x)) x (.ins C dx [])) (fun v H2 => v = .non ∧ Q (.ref x) H2) E) :
    wpAny (model X.prog X.w) X.A (call (.ref C) us) (EP X pins σ Q) X.xe s := by
  have hq := h (s.heap.objs.size + 1) s.heap.objs.size (I.hok.fresh (Nat.le_succ _)) (I.hok.fresh (Nat.le_refl _)) (Nat.ne_of_lt (Nat.lt_succ_self _))
  have I2 := Inv.made (C := C) I
  have r2 : Vals (V.ref (s.heap.objs.size + 1) :: (vs ++ dvs)) (Value.ref (s.heap.objs.size + 1) :: (us ++ ds)) := .cons rfl (r.append hd)
  have hl : (Value.ref (s.heap.objs.size + 1) :: us ++ ds).length = ps.length := by
    have e := r2.length
    rw [F.len _ _ _ _ hq] at e
    exact e.symm
  refine wpAny_call (make_map (f := f) I.kIn M.makes M.init (beq_iff_eq.mp M.fn) (codeAny_mono (F.run _ X.stack _ _ ⟨Value.ref (s.heap.objs.size + 1) :: us, []⟩ (Value.ref (s.heap.objs.size + 1) :: (us ++ ds)) _ _ E (hr.make C us [])
    (I2.env0.make C us []) (hb _ (Value.ref (s.heap.objs.size + 1) :: us) I2.kIn hl) r2 hq) fun r s' hq' => ?_))
  cases r with
  | error e => exact hx pins σ _ _ e s' I2 hq'
  | ok fl =>
    cases fl with
    | ret u =>
      obtain ⟨v, H', I3, rv, ev, q3⟩ := I2.after hq'
      subst ev
      exact ⟨rv, ⟨V.ref (s.heap.objs.size + 1), H', I3, rfl, q3⟩⟩
    | next => exact False.elim hq'
    | brk => exact False.elim hq'
    | cont => exact False.elim hq'
theorem pe_make (M : Mk X.K C f) (F : FnOk X.prog X.w X.K X.mg X.base CX k f fd ps sp) (hr : Room (k + 1) X.A) (hg : Gl X x) (hm : X.mg x = some (.ref C)) (hb : Binds X.K fd ps ds) (hd : Vals dvs ds) (hx : Passes CX X E)
    (ha : PA X (e :: es) t) (hdb : (x == ("__debug__" : Str)) = false := by decide) (he : starEach (e :: es) X.env = (false, eval e X.env) :: starEach es X.env := by rfl) (hpl : (backTo pos (starEach es X.env)).any (·.1) = false := by rfl) :
    PE X (.Call (.Name x p) (e :: es) [] pos) (tMake C sp dvs E t) := by
  intro pins s σ H Q I h
  refine wpAny_Call_Name_kw (ld_glob I hg hm ?_ hdb)
  refine PySem.W.callWith_K (h₀ := X.base) I.ok.mod.kin M.kp (thn (ha pos pins s σ H _ I h) fun us s1 ⟨vs, H1, I1, r, q⟩ => ⟨I1.kIn, ?_⟩) he hpl
  exact run_make M F hr hb hd hx I1 r q
theorem pe_make0 (M : Mk X.K C f) (F : FnOk X.prog X.w X.K X.mg X.base CX k f fd ps sp) (hr : Room (k + 1) X.A) (hg : Gl X x) (hm : X.mg x = some (.ref C)) (hb : Binds X.K fd ps ds) (hd : Vals dvs ds) (hx : Passes CX X E)
    (hdb : (x == ("__debug__" : Str)) = false := by decide) : PE X (.Call (.Name x p) [] [] pos) (tMake C sp dvs E tNil) := by
  intro pins s σ H Q I h
  refine wpAny_Call_Name_kw (ld_glob I hg hm ?_ hdb)
  exact PySem.W.callWith_K0 I.kIn M.kp (run_make (us := []) M F hr hb hd hx I .nil h)
end
section
variable {X : Cx} {CX : CXT} {k : Nat} {f C : Addr} {fd : FuncData} {ps ks : List Str} {sp : Sp} {E : XK} {x m : Str} {p pos apos kpos : Pos} {e o : Expr} {es : List Expr} {kws : List Keyword} {te ta : TE} {t tk : TA} {nm : Option Str}
variable {g : List Value → List Value → List Value} {gV : List V → List V → List V}
end
structure FnScope (N P : List Str) (sc : Scope) : Prop where
  kind : sc.kind = .function
  co : sc.isCoroutine = false
  gen : sc.isGenerator = false
  nd : N.Nodup
  pre : N.take P.length = P
  par : ∀ x ∈ P, sc.names.lookup x = some .local ∨ sc.names.lookup x = some .cell
  nofree : ∀ y ∈ sc.names, y.2 ≠ .free
theorem bindL_out {kindOf : Str → Option NameKind} {x : Str} : ∀ {binds : List (Str × Value)} {m : Str → Option Value}, (∀ v, (x, v) ∉ binds) → bindL kindOf binds m x = m x
  | [], _, _ => rfl
  | (n, v) :: r, m, h => by
    unfold bindL
    rw [bindL_out fun w hw => h w (List.mem_cons_of_mem _ hw)]
    split
    · have : x ≠ n := by rintro rfl; exact h v List.mem_cons_self
      simp [this]
    · rfl
theorem bindC_out {kindOf : Str → Option NameKind} {x : Str} : ∀ {binds : List (Str × Value)} {m : Str → Option Value}, (∀ v, (x, v) ∉ binds) → bindC kindOf binds m x = m x
  | [], _, _ => rfl
  | (n, v) :: r, m, h => by
    unfold bindC
    rw [bindC_out fun w hw => h w (List.mem_cons_of_mem _ hw)]
    split
    · rfl
    · have : x ≠ n := by rintro rfl; exact h v List.mem_cons_self
      simp [this]
theorem bindL_get {kindOf : Str → Option NameKind} {x : Str} {v : Value} : ∀ {P : List Str} {vs : List Value} {i : Nat} {m : Str → Option Value}, P.Nodup → P[i]? = some x → vs[i]? = some v → kindOf x = some .local →
    bindL kindOf (P.zip vs) m x = some v
  | [], _, _, _, _, h, _, _ => by simp at h
  | _ :: _, [], _, _, _, _, h, _ => by simp at h
  | p :: P, w :: vs, 0, m, nd, h1, h2, hk => by
    simp at h1 h2; subst h1; subst h2
    show bindL kindOf ((p, w) :: P.zip vs) m p = _
    unfold bindL
    rw [bindL_out fun v hv => (List.nodup_cons.mp nd).1 (List.of_mem_zip hv).1, if_pos hk]
    simp
  | p :: P, w :: vs, i + 1, m, nd, h1, h2, hk => by
    show bindL kindOf ((p, w) :: P.zip vs) m x = _
    unfold bindL
    exact bindL_get (i := i) (List.nodup_cons.mp nd).2 (by simpa using h1) (by simpa using h2) hk
theorem bindC_get {kindOf : Str → Option NameKind} {x : Str} {v : Value} : ∀ {P : List Str} {vs : List Value} {i : Nat} {m : Str → Option Value}, P.Nodup → P[i]? = some x → vs[i]? = some v → kindOf x ≠ some .local →
    bindC kindOf (P.zip vs) m x = some v
  | [], _, _, _, _, h, _, _ => by simp at h
  | _ :: _, [], _, _, _, _, h, _ => by simp at h
  | p :: P, w :: vs, 0, m, nd, h1, h2, hk => by
    simp at h1 h2; subst h1; subst h2
    show bindC kindOf ((p, w) :: P.zip vs) m p = _
    unfold bindC
    rw [bindC_out fun v hv => (List.nodup_cons.mp nd).1 (List.of_mem_zip hv).1, if_neg hk]
    simp
  | p :: P, w :: vs, i + 1, m, nd, h1, h2, hk => by
    show bindC kindOf ((p, w) :: P.zip vs) m x = _
    unfold bindC
    exact bindC_get (i := i) (List.nodup_cons.mp nd).2 (by simpa using h1) (by simpa using h2) hk
def start (N : List Str) (vs : List V) : St := vs.map some ++ List.replicate (N.length - vs.length) none
def cxOf (CX : CXT) (P : Program) (w : World) (K : PySem.W.Frag) (mg : Str → Option Value) (base : Heap) (N : List Str) (qual : Str) (scope : Scope) (f : Addr) (cd : Value) (A : Around) (outer : List Env) (s : Shared) (H : Hp) (E : XK) : Cx where
  prog := P
  w := w
  K := K
  mg := mg
  base := base
  A := A.deeper (envOfC qual scope s.heap.objs.size f cd)
  N := N
  s_0 := s
  H_0 := H
  env := envOfC qual scope s.heap.objs.size f cd
  outer := outer
  stack := envOfC qual scope s.heap.objs.size f cd :: outer
  ex := []
  calm := true
  fn := fun _ => true
  pn := []
  xe := fun e s' => wpAny (model P w) (A.deeper (envOfC qual scope s.heap.objs.size f cd)) (leaving (envOfC qual scope s.heap.objs.size f cd) e) (fun _ s'' => CX outer H s E e s'') (fun e' s'' => CX outer H s E e' s'') s'
theorem cell_has {sc : Scope} {n : Nat} {x : Str} (h : sc.names.lookup x = some .cell) : ∃ c, (cellsFrom n sc.names []).lookup x = some c := by
  have q := PySem.W.cellsFrom_some sc.names n [] (.inl h)
  exact Option.isSome_iff_exists.mp q
theorem inv_start {CX : CXT} {P : Program} {w : World} {K : PySem.W.Frag} {mg : Str → Option Value} {base : Heap} {N ps : List Str} {qual : Str} {scope : Scope} {f : Addr} {cd : Value} {A : Around} {outer : List Env} {s s1 : Shared} {H : Hp} {E : XK} {us : List Value} {vs : List V}
    (S : FnScope N ps scope) (hd : A.handled = none) (e0 : Env0 P w K mg base A outer s H) (hl : vs.length = ps.length) (r : Vals vs us)
    (x : InCallC s s.heap.objs.size (bindL (envOfC qual scope s.heap.objs.size f cd).kindOf (ps.zip us) fun _ => none) (cellsFrom (s.heap.objs.size + 1) scope.names []) (bindC (envOfC qual scope s.heap.objs.size f cd).kindOf (ps.zip us) fun _ => none) s1) :
    Inv (cxOf CX P w K mg base N qual scope f cd A outer s H E) [] (start N vs) H s1 := by
  have hpl : ps.length ≤ N.length := by have := congrArg List.length S.pre; rw [List.length_take] at this; omega
  obtain ⟨h1, tk, rfl, hk⟩ := x.done
  have noA : ∀ b : Addr, b ∉ (cxOf CX P w K mg base N qual scope f cd A outer s H E).ex := fun b z => absurd (show b ∈ ([] : List Addr) from z) (by simp)
  refine ⟨⟨e0.mod, S.kind, rfl, rfl, Nat.le_refl _, fun y z c h1 h2 => ?_, fun y hy => ?_, fun y c _ h => ?_, fun _ => hd, Around.frames_deeper e0.frames, .inr ⟨rfl, rfl⟩, fun b z => absurd z (noA b), e0.bs, e0.bsz, fun b _ _ => noA b, fun b z => absurd z (noA b), e0.funs, e0.frf⟩,
    rfl, e0.bare, Un.kept hk, ⟨_, x.toInCall.ns, fun i y v h1 h2 h3 => ?_⟩, fun y c h => ⟨_, x.cell y c h⟩, e0.hok.fresh (Nat.le_refl _), fun y c h => ?_, fun p hp => absurd (show p ∈ ([] : List (Addr × Obj)) from hp) (by simp), e0.hok.kept hk, ?_⟩
  · exact name_of_addr x.apart (PySem.mem_of_lookup h1) (PySem.mem_of_lookup h2)
  · have hy : scope.names.lookup y = some .cell ∨ scope.names.lookup y = some .free := hy
    rcases hy with hy | hy
    · exact cell_has hy
    · exact absurd rfl (S.nofree _ (PySem.mem_of_lookup hy))
  · exact Nat.le_of_lt (x.above y c (PySem.mem_of_lookup h))
  · have hi : i < vs.length := by
      unfold start at h2
      by_cases hi : i < vs.length
      · exact hi
      · rw [List.getElem?_append_right (by simpa using hi)] at h2
        rw [List.getElem?_replicate] at h2
        split at h2 <;> cases h2
    have ha : vs[i]? = some v := by
      unfold start at h2
      rw [List.getElem?_append_left (by simpa using hi), List.getElem?_map] at h2
      cases e : vs[i]? with
      | none => rw [e] at h2; cases h2
      | some a => rw [e] at h2; cases h2; rfl
    obtain ⟨u, hu, rv⟩ := r.get ha
    have hp : ps[i]? = some y := by
      rw [← S.pre, List.getElem?_take_of_lt (by omega)]; exact h1
    have ndP : ps.Nodup := by rw [← S.pre]; exact S.nd.sublist (List.take_sublist _ _)
    refine ⟨u, rv, ?_⟩
    rcases S.par y (List.mem_of_getElem? hp) with k | k
    · exact .inl ⟨k, bindL_get ndP hp hu k⟩
    · obtain ⟨c, e⟩ := cell_has (n := s.heap.objs.size + 1) k
      refine .inr ⟨.inl k, c, e, ?_⟩
      have q := x.cell y c e
      rw [bindC_get ndP hp hu (by show scope.names.lookup y ≠ _; rw [k]; decide)] at q
      exact q
  · exact e0.hok.fresh (Nat.le_of_lt (x.above y c (PySem.mem_of_lookup h)))
  · unfold start
    show _ = N.length
    rw [List.length_append, List.length_map, List.length_replicate]
    omega
theorem fn_of {CX : CXT} {P : Program} {w : World} {K : PySem.W.Frag} {mg : Str → Option Value} {base : Heap} {k : Nat} {f : Addr} {name qual : Str} {params : Arguments} {body : List Stmt} {scope : Scope} {dV kV doc pm cdv ct oc : Value} {an od : Option Addr}
    {osl : Array (Option Value)} {N ps : List Str} {sp : Sp} (lk : K.lookup f = some ⟨oc, od, .func (PySem.W.fnOf name qual params body scope dV kV doc pm an cdv ct), osl⟩) (hcd : PySem.W.codeIn K cdv qual = true) (S : FnScope N ps scope)
    (len : ∀ vs H Q E, sp vs H Q E → vs.length = ps.length)
    (hbody : ∀ (A : Around) (outer : List Env) (s : Shared) (H : Hp) (vs : List V) (Q : VK) (E : XK), Room k (A.deeper (envOfC qual scope s.heap.objs.size f cdv)) → sp vs H Q E →
      ∃ t, PSs (cxOf CX P w K mg base N qual scope f cdv A outer s H E) body t ∧ t { nx := fun _ H' => Q .non H', rt := Q } (start N vs) H) :
    FnOk P w K mg base CX (k + 1) f (PySem.W.fnOf name qual params body scope dV kV doc pm an cdv ct) ps sp := by
  refine ⟨len, fun A outer s H args us vs Q E hr e0 hb r hsp => ?_⟩
  have hl := len _ _ _ _ hsp
  have KX : K.In s.heap := e0.mod.kin.keeps fun b o e => (e0.bs b o e).1
  have lim : s.heap.NoLimit := e0.mod.nolimit.keeps fun b o e => (e0.bs b o e).1
  have hkind : ∀ y ∈ ps.zip us, scope.names.lookup y.1 = some .local ∨ (scope.names.lookup y.1 = some .cell ∧ ((cellsFrom (s.heap.objs.size + 1) scope.names []).lookup y.1).isSome = true) := fun ⟨n, v⟩ hy => by
    rcases S.par n (List.of_mem_zip hy).1 with q | q
    · exact .inl q
    · exact .inr ⟨q, PySem.W.cellsFrom_some _ _ _ (.inl q)⟩
  refine codeAny_call_function hr.depth (KX _ _ lk) rfl S.co S.gen rfl (PySem.W.codeRec_of KX hcd) (hb _ _ _ _ ?_)
  refine wpAny_newFunctionEnv_cells S.kind hkind fun env he s1 x => ?_
  subst he
  refine ⟨lim.keeps x.toInCall.keep, codeAny_func ?_⟩
  obtain ⟨t, ht, hq⟩ := hbody A outer s H vs Q E (hr.deeper _) hsp
  have I : Inv (cxOf CX P w K mg base N qual scope f cdv A outer s H E) [] (start N vs) H s1 := inv_start S hr.hd e0 hl r x
  refine wpAny_mono (ht [] s1 (start N vs) H _ I hq) (fun fl s' hs => ?_) fun e s' hs => hs
  have fin : ∀ {σ' : St} {H' : Hp} {v : V} {u : Value}, Inv (cxOf CX P w K mg base N qual scope f cdv A outer s H E) [] σ' H' s' → RelV v u → Q v H' → CE outer P w H s Q u s' :=
    fun {σ' H' v u} J rv q => ⟨v, H', J.os, J.bare, J.base, J.hok, rv, q⟩
  cases fl with
  | ret u =>
    obtain ⟨v, σ', H', J, rv, q⟩ := hs
    exact fin J rv q
  | next =>
    obtain ⟨σ', H', J, q⟩ := hs
    exact fin (v := V.non) (u := Value.none) J rfl q
  | brk =>
    obtain ⟨_, _, _, q⟩ := hs
    exact False.elim q
  | cont =>
    obtain ⟨_, _, _, q⟩ := hs
    exact False.elim q
end L2
namespace L2
open PySem PySem.Spec PyProof.Rows
section
variable {X : Cx} {x : Str} {p pos : Pos} {e : Expr} {es : List Expr} {t : TA} {id T : String} {r : List V → Hp → VK → Prop}
def tCB (r : List V → Hp → VK → Prop) (t : TA) : TE := fun σ H Q => t σ H fun vs H1 => r vs H1 Q
theorem pe_callB (hc : CallR X (.builtin id) r) (hg : Gl X x) (hm : X.mg x = none) (hv : bootBuiltins x = some (.builtin id)) (ha : PA X (e :: es) t) (hn : x ≠ "__name__" := by decide) (hdb : (x == ("__debug__" : Str)) = false := by decide)
    (he : starEach (e :: es) X.env = (false, eval e X.env) :: starEach es X.env := by rfl) (hpl : (backTo pos (starEach es X.env)).any (·.1) = false := by rfl) : PE X (.Call (.Name x p) (e :: es) [] pos) (tCB r t) := by
  intro pins s σ H Q I h
  refine wpAny_Call_Name_kw (ld_blt I hg hm hv ?_ hn hdb)
  exact PyProof.Rows.callWith_builtin1 (thn (ha pos pins s σ H _ I h) fun us s1 ⟨vs, H1, I1, r1, q1⟩ => hc pins s1 σ H1 vs us Q I1 r1 q1) he hpl
theorem pe_callTy (hc : CallR X (.type T) r) (hg : Gl X x) (hm : X.mg x = none) (hv : bootBuiltins x = some (.type T)) (ha : PA X (e :: es) t) (hn : x ≠ "__name__" := by decide) (hdb : (x == ("__debug__" : Str)) = false := by decide)
    (he : starEach (e :: es) X.env = (false, eval e X.env) :: starEach es X.env := by rfl) (hpl : (backTo pos (starEach es X.env)).any (·.1) = false := by rfl) : PE X (.Call (.Name x p) (e :: es) [] pos) (tCB r t) := by
  intro pins s σ H Q I h
  refine wpAny_Call_Name_kw (ld_blt I hg hm hv ?_ hn hdb)
  exact PyProof.Rows.callWith_type1 (thn (ha pos pins s σ H _ I h) fun us s1 ⟨vs, H1, I1, r1, q1⟩ => hc pins s1 σ H1 vs us Q I1 r1 q1) he hpl
end
end L2
namespace HT
open PySem PyProof.Rows
section
open PySem.SeqAt
open PySem.AutoSeq1 (wpAny_loadPart')
open PySem.MeetsSeq PySem.MeetsSeq2 PySem.MeetsSeq3
end
section
variable {prog : Program} {w : World} {A : Around} {E : Value → Shared → Prop} {s : Shared}
def sIx (n d : Nat) : Option Int → Nat
  | none => d
  | some v => if v < 0 then (v + (n : Int)).toNat else min v.toNat n
theorem sIx_none (n d : Nat) : sIx n d none = d := rfl
theorem sIx_nat (n d k : Nat) : sIx n d (some (k : Int)) = min k n := by
  show (if (k : Int) < 0 then ((k : Int) + (n : Int)).toNat else min (k : Int).toNat n) = min k n
  rw [if_neg (by omega), Int.toNat_natCast]
end
end HT
namespace L2
open PySem PySem.Spec PyProof.Rows
abbrev TO := St → Hp → (Option Int → Hp → Prop) → Prop
def PO (X : Cx) (e : Option Expr) (t : TO) : Prop :=
  ∀ (pins : List (Addr × Obj)) (s : Shared) (σ : St) (H : Hp) (Q : Option Int → Hp → Prop), Inv X pins σ H s → t σ H Q →
    wpAny (model X.prog X.w) X.A (evalPart e X.env) (fun u s' => ∃ o H', Inv X pins σ H' s' ∧ IsPart u o ∧ Q o H') X.xe s
def tNoPart : TO := fun _ H Q => Q none H
def tPart (t : TE) : TO := fun σ H Q => t σ H fun x H1 => ∃ i, x = .int i ∧ Q (some i) H1
section
variable {X : Cx} {e : Expr} {te : TE} {lo hi : Option Expr} {tl th : TO} {pos p2 : Pos}
theorem po_none : PO X none tNoPart := by
  intro pins s σ H Q I h
  rw [evalPart_none]
  exact wpAny_pure ⟨none, H, I, .none, h⟩
theorem po_some (h : PE X e te) : PO X (some e) (tPart te) := by
  intro pins s σ H Q I hw
  rw [evalPart_some]
  refine thn (h pins s σ H _ I hw) fun u s1 ⟨x, H1, I1, r1, q1⟩ => ?_
  obtain ⟨i, rfl, q⟩ := q1
  obtain ⟨t, rfl⟩ := r1
  exact ⟨some i, H1, I1, .int i t, q⟩
def SlR (X : Cx) (r : V → Option Int → Option Int → Hp → VK → Prop) : Prop :=
  ∀ (pins : List (Addr × Obj)) (s : Shared) (σ : St) (H : Hp) (x : V) (v vl vu : Value) (lo hi : Option Int) (sl : Addr) (Q : VK), Inv X pins σ H s → RelV x v → s.heap.IsSliceOf sl vl vu .none → IsPart vl lo → IsPart vu hi → r x lo hi H Q →
    ∃ T id, typeLookup (.type T) "__getitem__" = pure (some (.builtin id)) ∧ s.TypeIs v T ∧ wpAny (model X.prog X.w) X.A (getItem v (.ref sl)) (EP X pins σ Q) X.xe s
def tSl (r : V → Option Int → Option Int → Hp → VK → Prop) (te : TE) (tl th : TO) : TE := fun σ H Q => te σ H fun x H1 => tl σ H1 fun l H2 => th σ H2 fun u H3 => r x l u H3 Q
theorem pe_slice {r : V → Option Int → Option Int → Hp → VK → Prop} (hr : SlR X r) (he : PE X e te) (hl : PO X lo tl) (hu : PO X hi th) : PE X (.Subscript e (.Slice lo hi none p2) pos) (tSl r te tl th) := by
  intro pins s σ H Q I h
  refine Subscript_ (thn (he pins s σ H _ I h) fun v s1 ⟨x, H1, I1, r1, q1⟩ => ?_)
  refine wpAny_Slice (thn (hl pins s1 σ H1 _ I1 q1) fun vl s2 ⟨l, H2, I2, pl, q2⟩ => thn (hu pins s2 σ H2 _ I2 q2) fun vu s3 ⟨u, H3, I3, pu, q3⟩ => ?_)
  rw [evalPart_none]
  refine wpAny_pure ?_
  have I4 : Inv X pins σ H3 { s3 with heap := s3.heap.push { cls := .type "slice", data := .fields #[vl, vu, .none] } } := I3.kept (t' := s3.toks) fun b ob q => Heap.get?_push_of_some _ q
  obtain ⟨T, id, hT, ht, hg⟩ := hr pins { s3 with heap := s3.heap.push { cls := .type "slice", data := .fields #[vl, vu, .none] } } σ H3 x v vl vu l u s3.heap.objs.size Q I4 r1 (Heap.IsSliceOf.new ..) pl pu q3
  show wpAny (model X.prog X.w) X.A (subscriptTail e (.Slice lo hi none p2) v (.ref s3.heap.objs.size)) (EP X pins σ Q) X.xe { s3 with heap := s3.heap.push { cls := .type "slice", data := .fields #[vl, vu, .none] } }
  exact tail_any (ops := [.ref s3.heap.objs.size, v]) ht hT hg (by with_unfolding_all rfl)
def cutV (xs : List V) (lo hi : Option Int) : List V := (xs.drop (HT.sIx xs.length 0 lo)).take (HT.sIx xs.length xs.length hi - HT.sIx xs.length 0 lo)
theorem cutV_length (xs : List V) (lo hi : Option Int) : (cutV xs lo hi).length ≤ xs.length := by
  unfold cutV
  rw [List.length_take, List.length_drop]
  omega
end
end L2
namespace L2
open PySem PySem.Spec PyProof.Rows
def ixN (n : Nat) (i : Int) : Option Nat := if 0 ≤ i then (if i < n then some i.toNat else none) else if -(n : Int) ≤ i then some (i + n).toNat else none
def atI {α : Type} (xs : List α) (i : Int) : Option α := (ixN xs.length i).bind fun j => xs[j]?
theorem ixN_seq {n : Nat} {i : Int} {j : Nat} (h : ixN n i = some j) : seqIndex? i n = some j ∧ j < n ∧ -(n : Int) ≤ i ∧ i < n := by
  unfold ixN at h
  by_cases h0 : 0 ≤ i
  · rw [if_pos h0] at h
    by_cases h1 : i < n
    · rw [if_pos h1] at h
      have e : i.toNat = j := Option.some.inj h
      exact ⟨by rw [seqIndex_of h0 h1, e], by omega, by omega, h1⟩
    · rw [if_neg h1] at h; cases h
  · rw [if_neg h0] at h
    by_cases h1 : -(n : Int) ≤ i
    · rw [if_pos h1] at h
      have e : (i + n).toNat = j := Option.some.inj h
      exact ⟨by rw [seqIndex_neg (by omega) h1, e], by omega, h1, by omega⟩
    · rw [if_neg h1] at h; cases h
theorem atI_get {α : Type} {xs : List α} {i : Int} {v : α} (h : atI xs i = some v) : ∃ j, seqIndex? i xs.length = some j ∧ xs[j]? = some v ∧ j < xs.length ∧ -(xs.length : Int) ≤ i ∧ i < xs.length := by
  unfold atI at h
  cases e : ixN xs.length i with
  | none => rw [e] at h; cases h
  | some j =>
    rw [e] at h
    obtain ⟨h1, h2, h3, h4⟩ := ixN_seq e
    exact ⟨j, h1, h, h2, h3, h4⟩
theorem atI_nat {α : Type} {xs : List α} {j : Nat} {v : α} (h : xs[j]? = some v) : atI xs (j : Int) = some v := by
  have hj : j < xs.length := (List.getElem?_eq_some_iff.mp h).1
  have e : ixN xs.length (j : Int) = some j := by
    unfold ixN
    rw [if_pos (by omega), if_pos (by omega)]; simp
  unfold atI; rw [e]; exact h
def PlainIx (b : Expr) : Prop := ∀ o i, subscripted b false o i = operate [o, i] (getItem o i)
def IxR (X : Cx) (r : R2) : Prop :=
  ∀ (value slice : Expr) (pins : List (Addr × Obj)) (s : Shared) (σ : St) (H : Hp) (x y : V) (v u : Value) (Q : VK), Inv X pins σ H s → RelV x v → RelV y u → r x y H Q →
    subscripted slice false v u = operate [v, u] (getItem v u) → wpAny (model X.prog X.w) X.A (subscriptTail value slice v u) (EP X pins σ Q) X.xe s
def MtR (X : Cx) (id : String) (r : V → List V → Hp → VK → Prop) : Prop :=
  ∀ (pins : List (Addr × Obj)) (s : Shared) (σ : St) (H : Hp) (x : V) (xs : List V) (v : Value) (us : List Value) (Q : VK), Inv X pins σ H s → RelV x v → Vals xs us → r x xs H Q →
    wpAny (model X.prog X.w) X.A (call (.builtin id) (v :: us)) (EP X pins σ Q) X.xe s
section
variable {X : Cx} {a b : Expr} {ta tb : TE} {pos : Pos}
theorem pe_ix {r : R2} (hr : IxR X r) (ha : PE X a ta) (hb : PE X b tb) (hs : PlainIx b) : PE X (.Subscript a b pos) (tOp r ta tb) := by
  intro pins s σ H Q I h
  exact Subscript_ (binT ha hb I h fun v u s2 x y H2 I2 rx ry q => hr a b pins s2 σ H2 x y v u Q I2 rx ry q (hs _ _))
def rIxL (K : PySem.W.Frag) : R2 := fun x y H Q => ∃ p xs i v, x = .ref p ∧ y = .int i ∧ SqL K H p xs ∧ atI xs i = some v ∧ Q v H
def rIxT (K : PySem.W.Frag) : R2 := fun x y H Q => ∃ p xs i v, x = .ref p ∧ y = .int i ∧ SqT K H p xs ∧ atI xs i = some v ∧ Q v H
theorem ix_list : IxR X (rIxL X.K) := by
  intro value slice pins s σ H x y v u Q I rx ry h hs
  obtain ⟨p, xs, i, z, rfl, rfl, hq, he, q⟩ := h
  cases rx
  obtain ⟨t, rfl⟩ := ry
  obtain ⟨its, r, pl, hz⟩ := I.list hq
  obtain ⟨j, h1, h2, h3, h4, h5⟩ := atI_get he
  obtain ⟨w, ew, rw'⟩ := r.get h2
  have hl := r.length
  have hn := line63
  have fin : EP X pins σ Q w s := ⟨z, H, I, rw', q⟩
  by_cases h0 : 0 ≤ i
  · have hj : i.toNat = j := by
      rw [seqIndex_of h0 h5] at h1
      exact Option.some.inj h1
    exact item_listR pl.isList h0 (by omega) (by rw [hj]; simpa using ew) fin hs
  · have hj : (i + (its.toArray.size : Int)).toNat = j := by
      rw [seqIndex_neg (by omega) h4] at h1
      rw [List.size_toArray, ← hl]
      exact Option.some.inj h1
    exact subscriptTail_builtinR (x := w) pl.isList.typeIs slot_list_getitem.lookup
      (wpAny_getItem_list_neg (Q := fun r s' => r = w ∧ EP X pins σ Q r s') pl.isList (by omega) (by rw [List.size_toArray] <;> omega) (by omega) (by rw [hj]; simpa using ew) ⟨rfl, fin⟩) hs
theorem ix_tup : IxR X (rIxT X.K) := by
  intro value slice pins s σ H x y v u Q I rx ry h hs
  obtain ⟨p, xs, i, z, rfl, rfl, hq, he, q⟩ := h
  cases rx
  obtain ⟨t, rfl⟩ := ry
  obtain ⟨its, r, pl, hz⟩ := I.tuple hq
  obtain ⟨j, h1, h2, h3, h4, h5⟩ := atI_get he
  obtain ⟨w, ew, rw'⟩ := r.get h2
  have hl := r.length
  have hn := line63
  have fin : EP X pins σ Q w s := ⟨z, H, I, rw', q⟩
  exact subscriptTail_builtinR (x := w) pl.typeIs slot_tuple_getitem.lookup
    (getItem_tuple (j := j) (Q := fun r s' => r = w ∧ EP X pins σ Q r s') pl (by omega) (by omega) (by rw [List.size_toArray, ← hl]; exact h1) (by simpa using ew) ⟨rfl, fin⟩) hs
theorem slice_bounds (lo hi : Option Int) (n : Nat) : (sliceBounds lo hi none n).1 = ((HT.sIx n 0 lo : Nat) : Int) ∧ (sliceBounds lo hi none n).2.1 = ((HT.sIx n n hi : Nat) : Int) ∧ (sliceBounds lo hi none n).2.2 = 1 := by
  refine ⟨?_, ?_, rfl⟩
  · cases lo with
    | none => simp [sliceBounds, HT.sIx]
    | some i =>
      simp only [sliceBounds, HT.sIx, Option.getD_none, show (1 : Int) > 0 by decide, if_true]
      by_cases h : i < 0
      · simp only [h, if_true] <;> omega
      · simp only [h, if_false] <;> omega
  · cases hi with
    | none => simp [sliceBounds, HT.sIx]
    | some i =>
      simp only [sliceBounds, HT.sIx, Option.getD_none, show (1 : Int) > 0 by decide, if_true]
      by_cases h : i < 0
      · simp only [h, if_true] <;> omega
      · simp only [h, if_false] <;> omega
theorem slicePick_cut (its : List Value) (lo hi : Option Int) : slicePick its.toArray lo hi none = ((its.drop (HT.sIx its.length 0 lo)).take (HT.sIx its.length its.length hi - HT.sIx its.length 0 lo)).toArray := by
  obtain ⟨h1, h2, h3⟩ := slice_bounds lo hi its.toArray.size
  unfold slicePick
  rw [h1, h2, h3]
  simp only [sliceRange_one, pick_run, List.size_toArray] <;> rfl
def rSlL (K : PySem.W.Frag) : V → Option Int → Option Int → Hp → VK → Prop := fun x lo hi H Q => ∃ a xs, x = .ref a ∧ SqL K H a xs ∧ ∀ p, H p = none → Q (.ref p) (upd H p (.lst (cutV xs lo hi)))
theorem sl_list : SlR X (rSlL X.K) := by
  intro pins s σ H x v vl vu lo hi sl Q I rx hs pl pu h
  obtain ⟨a, xs, rfl, hx, q⟩ := h
  cases rx
  obtain ⟨its, r, ht, hz⟩ := I.list hx
  have hlen := r.length
  refine ⟨"list", _, slot_list_getitem.lookup, ht.isList.typeIs, ?_⟩
  refine wpAny_getItem_list_slice ht.isList hs pl pu .none (by simp) ?_ (by rw [List.size_toArray] <;> omega)
  rw [slicePick_cut, ← hlen]
  refine ⟨.ref s.heap.objs.size, _, I.laid (t' := s.toks) (o := .lst (cutV xs lo hi)) (fun b ob q => Heap.get?_push_of_some _ q) (Nat.le_refl _) ?_, rfl, q _ (I.hok.fresh (Nat.le_refl _))⟩
  exact ⟨Nat.le_trans (cutV_length xs lo hi) hz, _, 0, (r.drop (HT.sIx xs.length 0 lo)).take (HT.sIx xs.length xs.length hi - HT.sIx xs.length 0 lo), Heap.get?_push_size _ rfl⟩
theorem call_len_seq : CallR X (.builtin "len") (fun xs H Q => ∃ p ys, xs = [.ref p] ∧ (SqL X.K H p ys ∨ SqT X.K H p ys) ∧ Q (.int ys.length) H) := by
  intro pins s σ H xs us Q I r h
  obtain ⟨p, ys, rfl, hq, q⟩ := h
  obtain ⟨u, rfl, rx⟩ := vals1 r
  cases rx
  have hn := line63
  rcases hq with hq | hq
  · obtain ⟨its, r', pl, hz⟩ := I.list hq
    have hlen := r'.length
    exact Calls.call_len_list pl.isList (by simp only [List.size_toArray] <;> omega) ⟨.int ys.length, H, I.tok _, ⟨s.toks + 1, by rw [List.size_toArray, hlen]⟩, q⟩
  · obtain ⟨its, r', pl, hz⟩ := I.tuple hq
    have hlen := r'.length
    exact len_tuple pl (by simp only [List.size_toArray] <;> omega) ⟨.int ys.length, H, I.tok _, ⟨s.toks + 1, by rw [List.size_toArray, hlen]⟩, q⟩
theorem call_list_of : CallR X (.type "list") (fun xs H Q => ∃ p ys, xs = [.ref p] ∧ (SqL X.K H p ys ∨ SqT X.K H p ys) ∧ ∀ l, H l = none → Q (.ref l) (upd H l (.lst ys))) := by
  intro pins s σ H xs us Q I r h
  obtain ⟨p, ys, rfl, hq, q⟩ := h
  obtain ⟨u, rfl, rx⟩ := vals1 r
  cases rx
  have fin : ∀ (its : List Value), Vals ys its → ys.length ≤ sizeLine → ∀ (h' : Heap) (c' : Nat), (∀ b o', s.heap.get? b = some o' → h'.get? b = some o') →
      h'.get? s.heap.objs.size = some { cls := .type "list", dict := none, data := .seq its.toArray c', slots := #[] } → EP X pins σ Q (.ref s.heap.objs.size) { s with heap := h' } := fun its r' hz h' c' kp e =>
    ⟨.ref s.heap.objs.size, _, I.laid (t' := s.toks) kp (Nat.le_refl _) (show ObjOk X.prog X.w _ h' _ (.lst ys) from ⟨hz, its, c', r', e⟩), rfl, q _ (I.hok.fresh (Nat.le_refl _))⟩
  rcases hq with hq | hq
  · obtain ⟨its, r', pl, hz⟩ := I.list hq
    have hlen := r'.length
    obtain ⟨o, ho, hc, n, hd⟩ := pl.isList
    exact call_list_seq p (.inl rfl) ho hc hd (fun h' c' kp e => fin its r' hz h' c' kp e) (by simp only [List.size_toArray] <;> omega)
  · obtain ⟨its, r', pl, hz⟩ := I.tuple hq
    have hlen := r'.length
    obtain ⟨o, ho, hc, n, hd⟩ := pl
    exact call_list_seq p (.inr rfl) ho hc hd (fun h' c' kp e => fin its r' hz h' c' kp e) (by simp only [List.size_toArray] <;> omega)
def tyV (K : PySem.W.Frag) (T : String) (x : V) (H : Hp) : Prop := match x with
  | .str _ => T = "str"
  | .int _ => T = "int"
  | .ref p => (T = "list" ∧ ∃ xs, SqL K H p xs) ∨ (T = "tuple" ∧ ∃ o, K.lookup p = some o ∧ o.cls = .type "tuple" ∧ o.dict = none) ∨
      (T = "dict" ∧ ((∃ kvs, H p = some (.dK kvs)) ∨ ∃ kvs, H p = some (.dT kvs))) ∨ (T = "set" ∧ ∃ S n, H p = some (.set S n))
  | _ => False
theorem tyV_is {pins : List (Addr × Obj)} {σ : St} {H : Hp} {s : Shared} {T : String} {x : V} {v : Value} (I : Inv X pins σ H s) (r : RelV x v) (ty : tyV X.K T x H) :
    s.TypeIs v T ∧ ∀ a, v = .ref a → ∃ ob, s.heap.get? a = some ob ∧ ob.dict = none := by
  cases x with
  | str z =>
    obtain ⟨t, rfl⟩ := r
    cases (show T = "str" from ty)
    exact ⟨typeIs_str s z t, fun _ e => nomatch e⟩
  | int i =>
    obtain ⟨t, rfl⟩ := r
    cases (show T = "int" from ty)
    exact ⟨typeIs_int s i t, fun _ e => nomatch e⟩
  | ref p =>
    cases r
    rcases ty with ⟨rfl, xs, hq⟩ | ⟨rfl, o, hk, hc, hd⟩ | ⟨rfl, hk⟩ | ⟨rfl, S, n, hk⟩
    · obtain ⟨its, _, pl, _⟩ := I.list hq
      refine ⟨pl.isList.typeIs, fun a e => ?_⟩
      cases e
      obtain ⟨o, n, e, c, hd, _⟩ := pl
      exact ⟨o, e, hd⟩
    · refine ⟨⟨o, I.kIn p o hk, hc⟩, fun a e => ?_⟩
      cases e
      exact ⟨o, I.kIn _ o hk, hd⟩
    · have z : ∃ o, s.heap.get? p = some o ∧ o.ExactDict := by
        rcases hk with ⟨kvs, hk⟩ | ⟨kvs, hk⟩
        · obtain ⟨_, _, _, _, o, _, _, e, ex, _⟩ := I.hok p _ hk
          exact ⟨o, e, ex⟩
        · obtain ⟨_, _, _, _, o, _, _, e, ex, _⟩ := I.hok p _ hk
          exact ⟨o, e, ex⟩
      obtain ⟨o, e, ex⟩ := z
      refine ⟨⟨o, e, ex.1⟩, fun a e2 => ?_⟩
      cases e2
      exact ⟨o, e, ex.2.1⟩
    · obtain ⟨o, _, _, _, e, ex, _⟩ := I.hok p _ hk
      refine ⟨⟨o, e, ex.1⟩, fun a e2 => ?_⟩
      cases e2
      exact ⟨o, e, ex.2.1⟩
  | _ => exact False.elim ty
def tBM0 (K : PySem.W.Frag) (T : String) (r : V → List V → Hp → VK → Prop) (to : TE) : TE := fun σ H Q => to σ H fun x H1 => tyV K T x H1 ∧ r x [] H1 Q
def tBM (K : PySem.W.Frag) (T : String) (r : V → List V → Hp → VK → Prop) (to : TE) (t : TA) : TE := fun σ H Q => to σ H fun x H1 => tyV K T x H1 ∧ t σ H1 fun xs H2 => r x xs H2 Q
variable {o e : Expr} {es : List Expr} {to : TE} {t : TA} {name : Str} {apos cpos : Pos} {T id : String} {r : V → List V → Hp → VK → Prop}
theorem pe_bm0 (pa : PlainAttrs T) (slot : Slot T name id) (hty : typeOf (.builtin id) = pure (.type "method_descriptor")) (hm : MtR X id r) (ho : PE X o to)
    (hbase : attributeBase o name X.env (eval o X.env) = eval o X.env := by rfl) (hline : (apos.endLine == cpos.line) = true := by rfl) : PE X (.Call (.Attribute o name apos) [] [] cpos) (tBM0 X.K T r to) := by
  intro pins s σ H Q I h
  refine wpAny_Call_method0_late hbase hline (thn (ho pins s σ H _ I h) fun v s1 ⟨x, H1, I1, r1, ty, q1⟩ => ?_)
  obtain ⟨h1, h2⟩ := tyV_is I1 r1 ty
  exact ⟨T, id, pa, slot, hty, h1, h2, Calls.callWith_builtin rfl (PySem.evalArgs_none (hm pins s1 σ H1 x [] v [] Q I1 r1 .nil q1))⟩
theorem pe_bm (pa : PlainAttrs T) (slot : Slot T name id) (hty : typeOf (.builtin id) = pure (.type "method_descriptor")) (hm : MtR X id r) (ho : PE X o to) (ha : PA X (e :: es) t)
    (hbase : attributeBase o name X.env (eval o X.env) = eval o X.env := by rfl)
    (hfew : ((backTo cpos (starEach (e :: es) X.env)).all (fun x => !x.1) && (backToKw cpos (keywordEach [] X.env)).all (fun x => x.1.isSome)
      && decide ((e :: es).length + ([] : List Keyword).length + (if ([] : List Keyword).isEmpty then 0 else 1) < 30)) = true := by rfl)
    (hline : (apos.endLine == cpos.line) = true := by rfl) (hs : starEach (e :: es) X.env = (false, eval e X.env) :: starEach es X.env := by rfl) (hplain : (backTo cpos (starEach es X.env)).any (·.1) = false := by rfl) :
    PE X (.Call (.Attribute o name apos) (e :: es) [] cpos) (tBM X.K T r to t) := by
  intro pins s σ H Q I h
  refine wpAny_Call_method_late hbase hfew hline rfl (thn (ho pins s σ H _ I h) fun v s1 ⟨x, H1, I1, r1, ty, q1⟩ => ?_)
  obtain ⟨h1, h2⟩ := tyV_is I1 r1 ty
  refine ⟨T, id, pa, slot, hty, h1, h2, ?_⟩
  have hA := ha cpos pins s1 σ H1 _ I1 q1
  rw [hs] at hA ⊢
  refine Calls.callWith_builtin (by show (false || (backTo cpos (starEach es X.env)).any (·.1)) = false; rw [hplain] <;> rfl) (Calls.evalArgs_plain ?_)
  exact thn hA fun us s2 ⟨vs, H2, I2, r2, q2⟩ => hm pins s2 σ H2 x vs v us Q I2 r1 r2 q2
/- xs.append(e), list.index on a module's tuple .. are MtR facts of 06m -/
end
end L2
namespace L2
open PySem PySem.Spec PyProof.Rows
def MtM (X : Cx) (id : String) (r : V → List V → Hp → VK → Prop) : Prop :=
  ∀ (pins : List (Addr × Obj)) (s : Shared) (σ : St) (H : Hp) (x : V) (xs : List V) (v : Value) (us : List Value) (Q : VK), Inv X pins σ H s → RelV x v → Vals xs us → r x xs H Q →
    wpAny (model X.prog X.w) X.A (call (.builtin id) (v :: us)) (EP X pins σ Q) X.xe s
theorem Vals.one : ∀ {x : V} {us : List Value}, Vals [x] us → ∃ u, us = [u] ∧ RelV x u
  | _, _, .cons r .nil => ⟨_, rfl, r⟩
theorem Vals.two : ∀ {x y : V} {us : List Value}, Vals [x, y] us → ∃ u v, us = [u, v] ∧ RelV x u ∧ RelV y v
  | _, _, _, .cons r (.cons q .nil) => ⟨_, _, rfl, r, q⟩
theorem Vals.zero : ∀ {us : List Value}, Vals [] us → us = []
  | _, .nil => rfl
theorem Vals.dropLast {xs : List V} {us : List Value} (h : Vals xs us) : Vals xs.dropLast us.dropLast := by
  induction h with
  | nil => exact .nil
  | cons r t ih =>
    cases t with
    | nil => exact .nil
    | cons q t' => exact .cons r ih
theorem Vals.eraseIdx : ∀ {xs : List V} {us : List Value} (i : Nat), Vals xs us → Vals (xs.eraseIdx i) (us.eraseIdx i)
  | _, _, _, .nil => .nil
  | _, _, 0, .cons _ t => t
  | _, _, i + 1, .cons r t => .cons r (Vals.eraseIdx i t)
theorem Vals.reverse {xs : List V} {us : List Value} (h : Vals xs us) : Vals xs.reverse us.reverse := by
  induction h with
  | nil => exact .nil
  | cons r t ih => rw [List.reverse_cons, List.reverse_cons]; exact Vals.append ih (.cons r .nil)
theorem erase_last {α : Type} (l : List α) : l.eraseIdx (l.length - 1) = l.dropLast := by
  induction l with
  | nil => rfl
  | cons a r ih =>
    cases r with
    | nil => rfl
    | cons b r =>
      have e : (a :: b :: r).length - 1 = ((b :: r).length - 1) + 1 := by
        have h1 : (a :: b :: r).length = r.length + 2 := rfl
        have h2 : (b :: r).length = r.length + 1 := rfl
        omega
      rw [e, List.eraseIdx_cons_succ, ih]
      all_goals rfl
theorem len_erase {α : Type} : ∀ (l : List α) (i : Nat), (l.eraseIdx i).length ≤ l.length
  | [], _ => Nat.le_refl _
  | _ :: _, 0 => Nat.le_succ _
  | _ :: r, i + 1 => Nat.succ_le_succ (len_erase r i)
section
variable {X : Cx} {pins : List (Addr × Obj)} {σ : St} {H : Hp} {s : Shared} {l b : Addr} {xs ys zs : List V}
theorem Inv.lset {its its' : List Value} {n : Nat} {f : Array Value → Array Value} {t' : Nat} (I : Inv X pins σ H s) (hH : H l = some (.lst xs))
    (e : s.heap.get? l = some { cls := .type "list", data := .seq its.toArray n }) (hf : f its.toArray = its'.toArray) (hv : Vals ys its') (hz : ys.length ≤ sizeLine) :
    Inv X pins σ (upd H l (.lst ys)) { s with heap := s.heap.update l (Obj.mapSeq f), toks := t' } := by
  have q := PySem.IsL.update e f
  rw [hf] at q
  refine I.write (x := l) (e := l) (by rw [hH]; exact trivial) (.inl rfl) (fun b' u hb hu => (Heap.get?_update_other s.heap (Obj.mapSeq f) (Ne.symm hb)).trans hu) ⟨_, q⟩ ?_
  exact ⟨hz, its', _, hv, q⟩
theorem Inv.lnew {its : List Value} {t' : Nat} (I : Inv X pins σ H s) (hv : Vals ys its) (hz : ys.length ≤ sizeLine) :
    Inv X pins σ (upd H s.heap.objs.size (.lst ys)) { s with heap := s.heap.push { cls := .type "list", data := .seq its.toArray }, toks := t' } :=
  I.laid (fun _ _ q => Heap.get?_push_of_some _ q) (Nat.le_refl _) ⟨hz, its, 0, hv, Heap.get?_push_size _ rfl⟩
theorem Inv.fresh (I : Inv X pins σ H s) : H s.heap.objs.size = none := I.hok.fresh (Nat.le_refl _)
theorem Inv.lstM (I : Inv X pins σ H s) (hH : H l = some (.lst xs)) : xs.length ≤ sizeLine ∧ ∃ (its : List Value) (n : Nat), Vals xs its ∧ xs.length = its.length ∧ s.heap.get? l = some { cls := .type "list", data := .seq its.toArray n } := by
  obtain ⟨z, its, n, r, e⟩ := I.hok l _ hH
  exact ⟨z, its, n, r, r.length, e⟩
theorem notLongL {n : Nat} (h : n ≤ sizeLine) : Builtin.List.listTooLong n = false := by
  unfold Builtin.List.listTooLong
  exact decide_eq_false (by omega)
end
section
variable {X : Cx}
def rAppend : V → List V → Hp → VK → Prop := fun x vs H Q => ∃ l xs y, x = .ref l ∧ vs = [y] ∧ H l = some (.lst xs) ∧ xs.length < sizeLine ∧ Q .non (upd H l (.lst (xs ++ [y])))
theorem mt_append : MtM X "list.append" rAppend := by
  intro pins s σ H x vs v us Q I rx rv h
  obtain ⟨l, xs, y, rfl, rfl, hH, hz, q⟩ := h
  cases rx
  obtain ⟨u, rfl, ru⟩ := rv.one
  obtain ⟨z, its, n, r, hl, e⟩ := I.lstM hH
  refine call_meets F.slot_list_append ⟨_, e, rfl⟩ F.entry_list_append (F.args_list_append_2 _ _) (PySem.list_append l its.toArray n u (by rw [List.size_toArray]; omega)) ⟨e, ?_⟩
  refine ⟨.non, _, I.lset (its' := its ++ [u]) hH e (by simp) (r.append (.cons ru .nil)) ?_, rfl, q⟩
  rw [List.length_append, List.length_singleton]
  omega
def rExtend : V → List V → Hp → VK → Prop := fun x vs H Q => ∃ l b xs zs, x = .ref l ∧ vs = [.ref b] ∧ H l = some (.lst xs) ∧ H b = some (.lst zs) ∧ xs.length + zs.length ≤ sizeLine ∧ Q .non (upd H l (.lst (xs ++ zs)))
theorem mt_extend : MtM X "list.extend" rExtend := by
  intro pins s σ H x vs v us Q I rx rv h
  obtain ⟨l, b, xs, zs, rfl, rfl, hH, hB, hz, q⟩ := h
  cases rx
  obtain ⟨u, rfl, ru⟩ := rv.one
  cases ru
  obtain ⟨z, its, n, r, hl, e⟩ := I.lstM hH
  obtain ⟨z2, its2, n2, r2, hl2, e2⟩ := I.lstM hB
  have hsz : its.toArray.size + its2.toArray.size ≤ sizeLine := by rw [List.size_toArray, List.size_toArray]; omega
  have hlong : ¬ (!its.toArray.isEmpty && Builtin.List.listTooLong (its.toArray.size + its2.toArray.size)) = true := by
    rw [notLongL hsz, Bool.and_false]
    exact Bool.false_ne_true
  refine call_meets F.slot_list_extend ⟨_, e, rfl⟩ F.entry_list_extend (F.args_list_extend_2 _ _)
    (AutoSeq1.list_extend_list_list_0 l its.toArray n b its2.toArray n2 hlong (by rw [List.size_toArray]; omega) (by omega)) ⟨e, e2, ?_⟩
  refine ⟨.non, _, I.lset (its' := its ++ its2) hH e (by simp) (r.append r2) ?_, rfl, q⟩
  rw [List.length_append]
  omega
def rPop : V → List V → Hp → VK → Prop := fun x vs H Q => ∃ l xs y, x = .ref l ∧ vs = [] ∧ H l = some (.lst xs) ∧ xs[xs.length - 1]? = some y ∧ Q y (upd H l (.lst xs.dropLast))
theorem mt_pop : MtM X "list.pop" rPop := by
  intro pins s σ H x vs v us Q I rx rv h
  obtain ⟨l, xs, y, rfl, rfl, hH, hy, q⟩ := h
  cases rx
  have hus := rv.zero
  subst hus
  obtain ⟨z, its, n, r, hl, e⟩ := I.lstM hH
  obtain ⟨u, hu, ru⟩ := r.get hy
  have hy' : its.toArray[its.toArray.size - 1]? = some u := by
    show its.toArray[its.length - 1]? = some u
    rw [← Array.getElem?_toList, ← hl]
    exact hu
  refine call_meets F.slot_list_pop ⟨_, e, rfl⟩ F.entry_list_pop (F.args_list_pop_1 _) (MeetsSeq.list_pop_last l its.toArray n u hy' (by rw [List.size_toArray]; omega)) ⟨e, ?_⟩
  refine ⟨y, _, I.lset (its' := its.dropLast) hH e ?_ r.dropLast ?_, ru, q⟩
  · show its.toArray.eraseIdxIfInBounds (its.toArray.size - 1) = its.dropLast.toArray
    rw [List.size_toArray, List.eraseIdxIfInBounds_toArray, erase_last]
  · rw [List.length_dropLast]
    omega
def rPopAt : V → List V → Hp → VK → Prop := fun x vs H Q => ∃ l xs i k y, x = .ref l ∧ vs = [.int i] ∧ H l = some (.lst xs) ∧ -(2 ^ 63) ≤ i ∧ i < 2 ^ 63 ∧ seqIndex? i xs.length = some k ∧ xs[k]? = some y ∧ Q y (upd H l (.lst (xs.eraseIdx k)))
theorem mt_popAt : MtM X "list.pop" rPopAt := by
  intro pins s σ H x vs v us Q I rx rv h
  obtain ⟨l, xs, i, k, y, rfl, rfl, hH, h1, h2, hk, hy, q⟩ := h
  cases rx
  obtain ⟨u, rfl, ru⟩ := rv.one
  obtain ⟨t, rfl⟩ := ru
  obtain ⟨z, its, n, r, hl, e⟩ := I.lstM hH
  obtain ⟨w, hw, rw'⟩ := r.get hy
  refine call_meets F.slot_list_pop ⟨_, e, rfl⟩ F.entry_list_pop (F.args_list_pop_2 _ _)
    (MeetsSeq.list_pop_at l its.toArray n i t k w (fitsIndex_both h1 h2) (by rw [List.size_toArray, ← hl]; exact hk) (by rw [← Array.getElem?_toList]; exact hw) (by rw [List.size_toArray]; omega)) ⟨e, ?_⟩
  refine ⟨y, _, I.lset (its' := its.eraseIdx k) hH e ?_ (r.eraseIdx k) ?_, rw', q⟩
  · show its.toArray.eraseIdxIfInBounds k = (its.eraseIdx k).toArray
    rw [List.eraseIdxIfInBounds_toArray]
  · have := len_erase xs k
    omega
def rCat : R2 := fun x y H Q => ∃ l b xs zs, x = .ref l ∧ y = .ref b ∧ H l = some (.lst xs) ∧ H b = some (.lst zs) ∧ xs.length + zs.length ≤ sizeLine ∧ ∀ p, H p = none → Q (.ref p) (upd H p (.lst (xs ++ zs)))
theorem op_cat : OpR X (binaryOp .Add) rCat := by
  intro pins s σ H x y v u Q I rx ry h
  obtain ⟨l, b, xs, zs, rfl, rfl, hH, hB, hz, q⟩ := h
  cases rx
  cases ry
  obtain ⟨z, its, n, r, hl, e⟩ := I.lstM hH
  obtain ⟨z2, its2, n2, r2, hl2, e2⟩ := I.lstM hB
  refine PySem.P.add_list e e2 ?_ (by rw [List.size_toArray, List.size_toArray]; omega)
  have ea : its.toArray ++ its2.toArray = (its ++ its2).toArray := by simp
  rw [ea]
  exact ⟨.ref _, _, I.lnew (t' := s.toks) (r.append r2) (by rw [List.length_append]; omega), rfl, q _ I.fresh⟩
end
section
variable {prog : Program} {w : World} {A : Around} {E : Value → Shared → Prop} {s : Shared}
set_option maxRecDepth 100000 in
end
section
variable {X : Cx}
end
end L2
namespace L2
open PySem PySem.Spec PyProof.Rows
theorem Vals.ints : ∀ {ns : List Int} {us : List Value}, Vals (ns.map V.int) us → IntsAre us ns
  | [], us, h => by
    rw [List.map_nil] at h
    cases h
    exact IntsAre.nil
  | n :: ns, us, h => by
    rw [List.map_cons] at h
    cases h with
    | cons r t =>
      obtain ⟨k, rfl⟩ := r
      exact IntsAre.cons n k (Vals.ints t)
theorem vals_of_ints : ∀ {us : List Value} {ns : List Int}, IntsAre us ns → Vals (ns.map V.int) us
  | _, _, .nil => by rw [List.map_nil]; exact Paired.nil
  | _, _, .cons n t h => by rw [List.map_cons]; exact Paired.cons (show RelV (V.int n) (Value.int n t) from ⟨t, rfl⟩) (vals_of_ints h)
theorem Vals.ref1 {a : Addr} {us : List Value} (r : Vals [V.ref a] us) : us = [Value.ref a] := by
  cases r with
  | cons r t =>
    cases t
    cases r
    rfl
section
variable {prog : Program} {w : World} {A : Around} {E : Value → Shared → Prop} {s : Shared} {l : Addr} {its : List Value} {ns : List Int} {Q : Value → Shared → Prop}
theorem sum_raw (hh : A.handled = none) (hl : s.heap.IsList l its.toArray) (hi : IntsAre its ns)
    (h : ∀ h' tk t', (∀ b o, s.heap.get? b = some o → h'.get? b = some o) → Q (.int ns.sum t') { s with heap := h', toks := tk }) : wpAny (model prog w) A (call (.builtin "sum") [.ref l]) Q E s := by
  obtain ⟨xs, e⟩ := hi.allInts.items
  have hn : numsOf (intItems xs).toList = ns := by rw [← e]; exact hi.numsOf
  rw [nums_intItems] at hn
  rw [e] at hl
  refine PySem.sum_intListG hh hl fun h' tk t' hk => ?_
  have := h h' tk t' hk
  rw [preSum_eq, List.take_of_length_le (by simp), hn]; exact this
end
section
variable {X : Cx}
def rSum (K : PySem.W.Frag) : List V → Hp → VK → Prop := fun vs H Q => ∃ (a : Addr) (ns : List Int), vs = [V.ref a] ∧ SqL K H a (ns.map V.int) ∧ Q (.int ns.sum) H
theorem cr_sum (hc : X.calm = true) : CallR X (.builtin "sum") (rSum X.K) := by
  intro pins s σ H vs us Q I r h
  obtain ⟨a, ns, rfl, hs, q⟩ := h
  obtain ⟨its, rv, hl, _⟩ := I.list hs
  rw [Vals.ref1 r]
  exact sum_raw (I.ok.hd hc) hl.isList rv.ints fun h' tk t' hk => ⟨.int _, H, I.kept hk, ⟨_, rfl⟩, q⟩
end
section
variable {X : Cx}
end
section
variable {X : Cx}
end
section
variable {X : Cx}
end
mutual
inductive Dp (K : PySem.W.Frag) (H : Hp) : V → PyData → Prop
  | non : Dp K H .non .none
  | bl (b : Bool) : Dp K H (.bl b) (.bool b)
  | int (i : Int) : Dp K H (.int i) (.int i)
  | str (x : Str) : Dp K H (.str x) (.str x)
  | lst {a : Addr} {xs : List V} {ds : List PyData} : SqL K H a xs → DpAll K H xs ds → Dp K H (.ref a) (.list ds)
  | tup {a : Addr} {xs : List V} {ds : List PyData} : SqT K H a xs → DpAll K H xs ds → Dp K H (.ref a) (.tuple ds)
inductive DpAll (K : PySem.W.Frag) (H : Hp) : List V → List PyData → Prop
  | nil : DpAll K H [] []
  | cons {v : V} {vs : List V} {d : PyData} {ds : List PyData} : Dp K H v d → DpAll K H vs ds → DpAll K H (v :: vs) (d :: ds)
end
section
variable {X : Cx} {pins : List (Addr × Obj)} {σ : St} {H : Hp} {s : Shared}
mutual
theorem Dp.reads (I : Inv X pins σ H s) : ∀ (d : PyData) (v : V) (u : Value), Dp X.K H v d → RelV v u → ∃ as, Reads s.heap u d as
  | .none, _, _, h, r => by
    cases h
    cases r
    exact ⟨_, Reads.none⟩
  | .bool b, _, _, h, r => by
    cases h
    cases r
    exact ⟨_, Reads.bool b⟩
  | .int i, _, _, h, r => by
    cases h
    obtain ⟨t, rfl⟩ := r
    exact ⟨_, Reads.int i t⟩
  | .str x, _, _, h, r => by
    cases h
    obtain ⟨t, rfl⟩ := r
    exact ⟨_, Reads.str x t⟩
  | .list ds, _, _, h, r => by
    cases h with
    | lst hs ha =>
      cases r
      obtain ⟨its, rv, ⟨o, n, ho, hc, _, hd⟩, _⟩ := I.list hs
      obtain ⟨as, hr⟩ := Dp.readsAll I ds _ its ha rv
      exact ⟨_, Reads.list ho hc hd hr⟩
  | .tuple ds, _, _, h, r => by
    cases h with
    | tup hs ha =>
      cases r
      obtain ⟨its, rv, ⟨o, ho, hc, n, hd⟩, _⟩ := I.tuple hs
      obtain ⟨as, hr⟩ := Dp.readsAll I ds _ its ha rv
      exact ⟨_, Reads.tuple ho hc hd hr⟩
  | .dict _, _, _, h, _ => by cases h
theorem Dp.readsAll (I : Inv X pins σ H s) : ∀ (ds : List PyData) (vs : List V) (us : List Value), DpAll X.K H vs ds → Vals vs us → ∃ as, ReadsAll s.heap us ds as
  | [], _, _, h, r => by
    cases h
    cases r
    exact ⟨_, ReadsAll.nil⟩
  | d :: ds, _, _, h, r => by
    cases h with
    | cons h1 h2 =>
      cases r with
      | cons r1 r2 =>
        obtain ⟨as, q1⟩ := Dp.reads I d _ _ h1 r1
        obtain ⟨bs, q2⟩ := Dp.readsAll I ds _ _ h2 r2
        exact ⟨_, ReadsAll.cons q1 q2⟩
end
end
section
variable {X : Cx}
def rEqD (K : PySem.W.Frag) : R2 := fun x y H Q => ∃ d e, Dp K H x d ∧ Dp K H y e ∧ SeqAt.shaped d = true ∧ SeqAt.shaped e = true ∧ Q (.bl (PyData.eqv d e)) H
theorem op_eqD (hu : X.A.units + 64 < cLine) : OpR X (compareOp .Eq) (rEqD X.K) := by
  intro pins s σ H x y v u Q I rx ry h
  obtain ⟨d, e, hd, he, sd, se, q⟩ := h
  obtain ⟨as, r1⟩ := Dp.reads I d x v hd rx
  obtain ⟨bs, r2⟩ := Dp.reads I e y u he ry
  exact SeqAt.compareEq_shaped r1 r2 sd se hu ⟨.bl _, H, I, rfl, q⟩
end
end L2
namespace L2
open PySem PySem.Spec PyProof.Rows
abbrev CellAt (h : Heap) (c : Addr) (v : Option Value) : Prop := h.IsCell c v
def relS (scope sc : Scope) : Scope :=
  { scope with names := scope.names.map fun (n, k) => if (k == .free && sc.kind == .function && sc.names.lookup n == some .cell) then (n, .cell) else (n, k) }
def cloFrom (cells : List (Str × Addr)) : List (Str × NameKind) → List (Str × Addr) → List (Str × Addr)
  | [], acc => acc
  | (n, k) :: r, acc => if k == .free then cloFrom cells r ((n, (cells.lookup n).getD 0) :: acc) else cloFrom cells r acc
theorem closure_loop (env : Env) (f : Str × NameKind → List (Str × Addr) → Sem (ForInStep (List (Str × Addr))))
    (hf : ∀ n k c, f (n, k) c = if k == .free then (do let a ← cellOf env n; pure (.yield ((n, a) :: c))) else pure (.yield c)) :
    ∀ (names : List (Str × NameKind)) (acc : List (Str × Addr)), (∀ y ∈ names, y.2 = .free → ∃ c, env.cells.lookup y.1 = some c) → forIn names acc f = pure (cloFrom env.cells names acc)
  | [], acc, _ => by rw [List.forIn_nil]; rfl
  | (n, k) :: r, acc, h => by
    rw [List.forIn_cons, hf]
    have ih := fun acc => closure_loop env f hf r acc fun y hy => h y (List.mem_cons_of_mem _ hy)
    unfold cloFrom
    by_cases hk : (k == NameKind.free) = true
    · rw [if_pos hk, if_pos hk]
      obtain ⟨c, hc⟩ := h (n, k) List.mem_cons_self (by simpa using hk)
      have e : cellOf env n = pure c := by unfold cellOf; rw [hc]
      rw [e]
      have e2 : (env.cells.lookup n).getD 0 = c := by rw [hc]; rfl
      rw [e2]
      exact ih _
    · rw [if_neg hk, if_neg hk]
      exact ih _
theorem closure_ok {scope : Scope} {env : Env} (h : ∀ y ∈ scope.names, y.2 = .free → ∃ c, env.cells.lookup y.1 = some c) : closureFor scope env = pure (cloFrom env.cells scope.names []) := by
  simp only [closureFor]
  rw [closure_loop env _ (fun n k c => rfl) scope.names [] h]
  rfl
theorem mem_lookup {α : Type} : ∀ {l : List (Str × α)} {n : Str} {c : α}, (n, c) ∈ l → ∃ c', l.lookup n = some c'
  | (k, v) :: r, n, c, h => by
    rw [List.lookup_cons]
    cases hb : n == k with
    | true => exact ⟨_, rfl⟩
    | false =>
      rcases List.mem_cons.mp h with e | h
      · cases e; simp at hb
      · exact mem_lookup h
theorem cloFrom_mem {cells : List (Str × Addr)} : ∀ {names : List (Str × NameKind)} {acc : List (Str × Addr)} {n : Str} {c : Addr}, (n, c) ∈ cloFrom cells names acc → (n, c) ∈ acc ∨ ((n, .free) ∈ names ∧ c = (cells.lookup n).getD 0)
  | [], _, _, _, h => .inl h
  | (m, k) :: r, acc, n, c, h => by
    unfold cloFrom at h
    split at h
    · rename_i hk
      have hk : k = .free := by simpa using hk
      rcases cloFrom_mem h with h | ⟨h1, h2⟩
      · rcases List.mem_cons.mp h with e | h
        · cases e; exact .inr ⟨hk ▸ List.mem_cons_self, rfl⟩
        · exact .inl h
      · exact .inr ⟨List.mem_cons_of_mem _ h1, h2⟩
    · rcases cloFrom_mem h with h | ⟨h1, h2⟩
      · exact .inl h
      · exact .inr ⟨List.mem_cons_of_mem _ h1, h2⟩
theorem cloFrom_acc {cells : List (Str × Addr)} : ∀ {names : List (Str × NameKind)} {acc : List (Str × Addr)} {p : Str × Addr}, p ∈ acc → p ∈ cloFrom cells names acc
  | [], _, _, h => h
  | (m, k) :: r, acc, p, h => by
    unfold cloFrom
    split
    · exact cloFrom_acc (List.mem_cons_of_mem _ h)
    · exact cloFrom_acc h
theorem cloFrom_has {cells : List (Str × Addr)} : ∀ {names : List (Str × NameKind)} {acc : List (Str × Addr)} {n : Str}, (n, .free) ∈ names → (n, (cells.lookup n).getD 0) ∈ cloFrom cells names acc
  | (m, k) :: r, acc, n, h => by
    unfold cloFrom
    rcases List.mem_cons.mp h with e | h
    · cases e
      exact cloFrom_acc List.mem_cons_self
    · split
      · exact cloFrom_has h
      · exact cloFrom_has h
theorem cells_mem : ∀ {names : List (Str × NameKind)} {h : Heap} {acc : List (Str × Addr)} {x : Str} {c : Addr}, (x, c) ∈ cellsFrom h.objs.size names acc →
    (x, c) ∈ acc ∨ ((x, .cell) ∈ names ∧ h.objs.size ≤ c ∧ CellAt (pushCells h names) c none)
  | [], _, _, _, _, h => .inl h
  | (n, k) :: r, h, acc, x, c, hm => by
    unfold cellsFrom at hm
    unfold pushCells
    split at hm
    · rename_i hk
      rw [if_pos hk]
      have hk : k = .cell := by simpa using hk
      rw [← Heap.size_push h { cls := .type "cell", data := .cell none }] at hm
      rcases cells_mem hm with hm | ⟨h1, h2, h3⟩
      · rcases List.mem_cons.mp hm with e | hm
        · cases e
          exact .inr ⟨hk ▸ List.mem_cons_self, Nat.le_refl _, _, pushCells_keeps r _ _ _ (Heap.get?_push_size _ rfl), rfl⟩
        · exact .inl hm
      · rw [Heap.size_push] at h2
        exact .inr ⟨List.mem_cons_of_mem _ h1, Nat.le_of_succ_le h2, h3⟩
    · rename_i hk
      rw [if_neg hk]
      rcases cells_mem hm with hm | ⟨h1, h2, h3⟩
      · exact .inl hm
      · exact .inr ⟨List.mem_cons_of_mem _ h1, h2, h3⟩
theorem cells_acc : ∀ {names : List (Str × NameKind)} {n : Nat} {acc : List (Str × Addr)} {p : Str × Addr}, p ∈ acc → p ∈ cellsFrom n names acc
  | [], _, _, _, h => h
  | (m, k) :: r, n, acc, p, h => by
    unfold cellsFrom
    split
    · exact cells_acc (List.mem_cons_of_mem _ h)
    · exact cells_acc h
theorem cells_has : ∀ {names : List (Str × NameKind)} {n : Nat} {acc : List (Str × Addr)} {x : Str}, (x, .cell) ∈ names → ∃ c, (x, c) ∈ cellsFrom n names acc
  | (m, k) :: r, n, acc, x, h => by
    unfold cellsFrom
    rcases List.mem_cons.mp h with e | h
    · cases e
      exact ⟨n, cells_acc List.mem_cons_self⟩
    · split
      · exact cells_has h
      · exact cells_has h
theorem cells_inj : ∀ {names : List (Str × NameKind)} {h : Heap} {acc : List (Str × Addr)} {x y : Str} {c : Addr}, (∀ p ∈ acc, p.2 < h.objs.size) → (∀ x y c, (x, c) ∈ acc → (y, c) ∈ acc → x = y) →
    (x, c) ∈ cellsFrom h.objs.size names acc → (y, c) ∈ cellsFrom h.objs.size names acc → x = y
  | [], _, _, _, _, _, _, hi, h1, h2 => hi _ _ _ h1 h2
  | (n, k) :: r, h, acc, x, y, c, hl, hi, h1, h2 => by
    unfold cellsFrom at h1 h2
    split at h1
    · rename_i hk
      rw [if_pos hk] at h2
      rw [← Heap.size_push h { cls := .type "cell", data := .cell none }] at h1 h2
      refine cells_inj (h := h.push _) (fun p hp => ?_) (fun x y c a b => ?_) h1 h2
      · rw [Heap.size_push]
        rcases List.mem_cons.mp hp with rfl | hp
        · exact Nat.lt_succ_self _
        · exact Nat.lt_succ_of_lt (hl p hp)
      · rcases List.mem_cons.mp a with e | a <;> rcases List.mem_cons.mp b with e' | b
        · cases e; cases e'; rfl
        · cases e; exact absurd (hl _ b) (Nat.lt_irrefl _)
        · cases e'; exact absurd (hl _ a) (Nat.lt_irrefl _)
        · exact hi _ _ _ a b
    · rename_i hk
      rw [if_neg hk] at h2
      exact cells_inj hl hi h1 h2
theorem newEnv_comp {M : Model} {A : Around} {E : Value → Shared → Prop} {s : Shared} {scope : Scope} {globals : Addr} {closure : List (Str × Addr)} {qual : Str} {func : Option Addr} {code : Value} {around : Env} {builtins : Addr} {Q : Env → Shared → Prop}
    (h : Q (newEnv scope s.heap.objs.size globals (cellsFrom (s.heap.objs.size + 1) scope.names closure) qual func code (some around) builtins)
      { s with heap := pushCells (s.heap.push { cls := .type "dict", data := .dict #[] }) scope.names }) :
    wpAny M A (newFunctionEnv scope globals closure [] qual func code (some around) builtins) Q E s := by
  simp only [newFunctionEnv, Option.isSome_some, if_true]
  refine wpAny_bind (wpAny_alloc ?_)
  refine wpAny_bind (wpAny_layCells _ (fun n k c => rfl) scope.names closure _ _ ?_)
  rw [show ({ s with heap := s.heap.push { cls := .type "dict", data := .dict #[] } } : Shared).heap.objs.size = s.heap.objs.size + 1 from Heap.size_push ..]
  rw [List.forIn_nil]
  exact wpAny_bind (wpAny_pure (wpAny_pure h))
theorem lookup_relS {sc : Scope} : ∀ {names : List (Str × NameKind)} {x : Str} {k : NameKind},
    (names.map fun (n, k) => if (k == NameKind.free && sc.kind == .function && sc.names.lookup n == some .cell) then (n, NameKind.cell) else (n, k)).lookup x = some k →
    ∃ k', names.lookup x = some k' ∧ (k = k' ∨ (k' = .free ∧ k = .cell))
  | [], _, _, h => by simp at h
  | (n, k₀) :: r, x, k, h => by
    have ih := @lookup_relS sc r x k
    have h' : List.lookup x ((if (k₀ == NameKind.free && sc.kind == .function && sc.names.lookup n == some .cell) = true then (n, NameKind.cell) else (n, k₀)) :: (r.map _)) = some k := h
    cases hx : x == n with
    | true =>
      simp only [List.lookup_cons, hx]
      by_cases hc : (k₀ == NameKind.free && sc.kind == .function && sc.names.lookup n == some .cell) = true
      · rw [if_pos hc] at h'
        simp only [List.lookup_cons, hx] at h'
        cases h'
        simp only [Bool.and_eq_true, beq_iff_eq] at hc
        exact ⟨k₀, rfl, .inr ⟨hc.1.1, rfl⟩⟩
      · rw [if_neg hc] at h'
        simp only [List.lookup_cons, hx] at h'
        cases h'
        exact ⟨_, rfl, .inl rfl⟩
    | false =>
      simp only [List.lookup_cons, hx]
      by_cases hc : (k₀ == NameKind.free && sc.kind == .function && sc.names.lookup n == some .cell) = true
      · rw [if_pos hc] at h'
        simp only [List.lookup_cons, hx] at h'
        exact ih h'
      · rw [if_neg hc] at h'
        simp only [List.lookup_cons, hx] at h'
        exact ih h'
structure BlkOk (N : List Str) (sc scope : Scope) (own : List (Str × Nat)) : Prop where
  kind : scope.kind = .function
  uniq : ∀ y ∈ scope.names, scope.names.lookup y.1 = some y.2
  ix : ∀ p ∈ own, N[p.2]? = some p.1
  free : ∀ y ∈ scope.names, y.2 = .free → sc.names.lookup y.1 = some .cell ∨ sc.names.lookup y.1 = some .free
  own : ∀ y ∈ scope.names, y.2 = .local ∨ y.2 = .cell → y.1 ∈ own.map (·.1) ∨ y.1 ∉ N
def wipe (σ : St) : List Nat → St
  | [] => σ
  | v :: vs => (wipe σ vs).set v none
theorem wipe_length (σ : St) : ∀ vs : List Nat, (wipe σ vs).length = σ.length
  | [] => rfl
  | v :: vs => by unfold wipe; rw [List.length_set, wipe_length σ vs]
theorem wipe_some {σ : St} {i : Nat} {x : V} : ∀ {vs : List Nat}, (wipe σ vs)[i]? = some (some x) → σ[i]? = some (some x) ∧ i ∉ vs
  | [], h => ⟨h, by simp⟩
  | v :: vs, h => by
    unfold wipe at h
    by_cases hi : v = i
    · subst hi
      by_cases hv : v < (wipe σ vs).length
      · rw [List.getElem?_set_self hv] at h; cases h
      · rw [List.getElem?_eq_none (by simpa using hv)] at h; cases h
    · rw [List.getElem?_set_ne hi] at h
      obtain ⟨h1, h2⟩ := wipe_some h
      exact ⟨h1, by simp only [List.mem_cons, not_or]; exact ⟨fun e => hi e.symm, h2⟩⟩
abbrev Cx.blk (X : Cx) (s : Shared) (H : Hp) (scope : Scope) (cenv : Env) (fp : List Addr) : Cx := { X with s_0 := s, H_0 := H, env := cenv, outer := X.stack, ex := fp, fn := fun x => scope.names.lookup x == some .cell, pn := [], xe := fun _ _ => False }
section
variable {X : Cx} {pins : List (Addr × Obj)} {σ : St} {H : Hp} {s : Shared}
theorem block_start {scope : Scope} {own : List (Str × Nat)} {fp : List Addr} (I : Inv X pins σ H s) (ok : BlkOk X.N X.env.scope scope own) (hN : X.N.Nodup) (hfp : ∀ b ∈ fp, FpOk X pins H b ∧ b < s.heap.objs.size) :
    Inv (X.blk s H scope (compEnvC scope (cellsFrom (s.heap.objs.size + 1) scope.names (cloFrom X.env.cells scope.names [])) s.heap.objs.size X.env) fp) [] (wipe σ (own.map (·.2))) H { s with heap := pushCells (s.heap.push { cls := .type "dict", data := .dict #[] }) scope.names } := by
  have hfree : ∀ y ∈ scope.names, y.2 = .free → ∃ c, X.env.cells.lookup y.1 = some c := fun y hy e => by
    rcases ok.free y hy e with k | k
    · exact I.ok.has _ (.inl k)
    · exact I.ok.has _ (.inr k)
  generalize hcenv : compEnvC scope (cellsFrom (s.heap.objs.size + 1) scope.names (cloFrom X.env.cells scope.names [])) s.heap.objs.size X.env = cenv
  have kp : ∀ b o, s.heap.get? b = some o → (pushCells (s.heap.push { cls := .type "dict", data := .dict #[] }) scope.names).get? b = some o := fun b o e => pushCells_keeps _ _ _ _ (Heap.get?_push_of_some _ e)
  have hL : cenv.locals = s.heap.objs.size := by rw [← hcenv]; rfl
  have hcl : cenv.cells = cellsFrom (s.heap.objs.size + 1) scope.names (cloFrom X.env.cells scope.names []) := by rw [← hcenv]; rfl
  have hsc : cenv.scope = relS scope X.env.scope := by rw [← hcenv]; rfl
  rw [← Heap.size_push s.heap { cls := .type "dict", data := .dict #[] }] at hcl
  have cm : ∀ {y c}, (y, c) ∈ cloFrom X.env.cells scope.names [] → X.env.cells.lookup y = some c ∧ c < s.heap.objs.size := fun {y c} hm => by
    rcases cloFrom_mem hm with hm | ⟨h1, rfl⟩
    · cases hm
    · obtain ⟨c, hc⟩ := hfree _ h1 rfl
      rw [hc]
      obtain ⟨w, z⟩ := I.cell _ _ hc
      exact ⟨rfl, z.lt⟩
  have mem : ∀ {y c}, cenv.cells.lookup y = some c → (X.env.cells.lookup y = some c ∧ c < s.heap.objs.size) ∨ (s.heap.objs.size + 1 ≤ c ∧ CellAt (pushCells (s.heap.push { cls := .type "dict", data := .dict #[] }) scope.names) c none) := fun {y c} e => by
    rw [hcl] at e
    rcases cells_mem (PySem.mem_of_lookup e) with hm | ⟨_, h2, h3⟩
    · exact .inl (cm hm)
    · rw [Heap.size_push] at h2; exact .inr ⟨h2, h3⟩
  have look : ∀ {y}, scope.names.lookup y = some .free → ∃ c, cenv.cells.lookup y = some c ∧ X.env.cells.lookup y = some c := fun {y} hl => by
    have hy : (y, NameKind.free) ∈ scope.names := PySem.mem_of_lookup hl
    obtain ⟨c', e'⟩ := mem_lookup (cells_acc (names := scope.names) (n := (s.heap.push { cls := .type "dict", data := .dict #[] }).objs.size) (cloFrom_has (cells := X.env.cells) (acc := []) hy))
    rw [← hcl] at e'
    refine ⟨c', e', ?_⟩
    rw [hcl] at e'
    rcases cells_mem (PySem.mem_of_lookup e') with hm | ⟨h1, _, _⟩
    · exact (cm hm).1
    · have := ok.uniq _ h1
      rw [hl] at this; cases this
  have okB : (X.blk s H scope cenv fp).Ok := by
    refine ⟨I.ok.mod, by show cenv.scope.kind = _; rw [hsc]; exact ok.kind, by show cenv.globals = _; rw [← hcenv]; exact I.ok.glob, by show cenv.builtins = _; rw [← hcenv]; exact I.ok.blt, by show s.heap.objs.size ≤ cenv.locals; rw [hL]; exact Nat.le_refl _,
      fun y z c e1 e2 => ?_, fun y hy => ?_, fun y c z e => ?_, I.ok.hd, I.ok.frames, .inl rfl, fun b hb => ⟨?_, fun y c e z => ?_⟩, I.bs, Nat.le_trans I.ok.bsz I.sz, fun b o e hb => ?_, fun b hb z => ?_, I.stack, I.stkFree⟩
    · have e1 : cenv.cells.lookup y = some c := e1
      have e2 : cenv.cells.lookup z = some c := e2
      rw [hcl] at e1 e2
      refine cells_inj (fun p hp => ?_) (fun y z c a b => I.ok.inj y z c (cm a).1 (cm b).1) (PySem.mem_of_lookup e1) (PySem.mem_of_lookup e2)
      rw [Heap.size_push]
      exact Nat.lt_succ_of_lt (cm (y := p.1) (c := p.2) hp).2
    · show ∃ c, cenv.cells.lookup y = some c
      have key : ∀ k, cenv.kindOf y = some k → (k = .cell ∨ k = .free) → ∃ c, cenv.cells.lookup y = some c := fun k hk hk' => by
        unfold Env.kindOf at hk
        rw [hsc] at hk
        obtain ⟨k', e, r⟩ := lookup_relS hk
        have : k' = .cell ∨ k' = .free := by
          rcases r with rfl | ⟨rfl, _⟩
          · exact hk'
          · exact .inr rfl
        rcases this with rfl | rfl
        · obtain ⟨c, hm⟩ := cells_has (n := (s.heap.push { cls := .type "dict", data := .dict #[] }).objs.size) (acc := cloFrom X.env.cells scope.names []) (PySem.mem_of_lookup e)
          obtain ⟨c', e'⟩ := mem_lookup hm
          exact ⟨c', by rw [hcl]; exact e'⟩
        · obtain ⟨c, h1, _⟩ := look e
          exact ⟨c, h1⟩
      rcases hy with hy | hy
      · exact key _ hy (.inl rfl)
      · exact key _ hy (.inr rfl)
    · have z : (scope.names.lookup y == some NameKind.cell) = true := z
      have z : scope.names.lookup y = some .cell := by simpa using z
      have e : cenv.cells.lookup y = some c := e
      rw [hcl] at e
      rcases cells_mem (PySem.mem_of_lookup e) with hm | ⟨_, h2, _⟩
      · rcases cloFrom_mem hm with hm | ⟨h1, _⟩
        · cases hm
        · have q := ok.uniq _ h1
          rw [z] at q; cases q
      · rw [Heap.size_push] at h2
        exact Nat.le_of_succ_le h2
    · show b ≠ cenv.locals
      rw [hL]; exact Nat.ne_of_lt (hfp b hb).2
    · have e : cenv.cells.lookup y = some c := e
      rcases mem e with ⟨h1, _⟩ | ⟨h1, _⟩
      · exact (hfp b hb).1.2.2.2.2.1 y c h1 z
      · have h2 : s.heap.objs.size + 1 ≤ b := by rw [← z]; exact h1
        exact absurd (Nat.lt_of_lt_of_le (hfp b hb).2 (Nat.le_of_succ_le h2)) (Nat.lt_irrefl _)
    · rcases (hfp b hb).1.2.2.2.1 with z | z
      · exact I.ok.noex b o e z
      · exact absurd (Nat.lt_of_lt_of_le (Heap.lt_size e) (Nat.le_trans I.ok.bsz z)) (Nat.lt_irrefl _)
    · rcases List.mem_cons.mp (I.stkSub b z) with z | z
      · exact (hfp b hb).1.2.1 z
      · exact (hfp b hb).1.2.2.1 z
  refine ⟨okB, rfl, I.bare, Un.kept kp, ⟨fun _ => none, ?_, fun i y av e1 e2 e3 => ?_⟩, fun y c e => ?_, ?_, fun y c e => ?_, fun p hp => ?_, I.hok.kept kp, by rw [wipe_length]; exact I.len⟩
  · show Heap.Ns _ cenv.locals _
    rw [hL]
    exact Heap.Ns.keeps (Heap.Ns.new ..) fun b o e => pushCells_keeps _ _ _ _ e
  · obtain ⟨e2, hne⟩ := wipe_some e2
    have hfr : scope.names.lookup y = some .free ∧ (cenv.kindOf y = some .cell ∨ cenv.kindOf y = some .free) := by
      have key : ∀ k, cenv.scope.names.lookup y = some k → k = .local ∨ k = .cell ∨ k = .free → scope.names.lookup y = some .free ∧ (cenv.kindOf y = some .cell ∨ cenv.kindOf y = some .free) := fun k hk hk' => by
        have hk0 := hk
        rw [hsc] at hk
        obtain ⟨k', e, r⟩ := lookup_relS hk
        have no : ¬ (k' = .local ∨ k' = .cell) := fun hh => by
          rcases ok.own _ (PySem.mem_of_lookup e) hh with e' | e'
          · obtain ⟨p, hp, hpy⟩ := List.mem_map.mp e'
            have e3 := ok.ix p hp
            have : p.1 = y := hpy
            rw [this] at e3
            exact hne (List.mem_map.mpr ⟨p, hp, nodup_ix hN e3 e1⟩)
          · exact e' (List.mem_of_getElem? e1)
        rcases r with rfl | ⟨rfl, rfl⟩
        · rcases hk' with rfl | rfl | rfl
          · exact absurd (.inl rfl) no
          · exact absurd (.inr rfl) no
          · exact ⟨e, .inr hk0⟩
        · exact ⟨e, .inl hk0⟩
      have e3 : Vis cenv.scope y := e3
      rcases e3 with e3 | e3 | e3
      · exact key _ e3 (.inl rfl)
      · exact key _ e3 (.inr (.inl rfl))
      · exact key _ e3 (.inr (.inr rfl))
    obtain ⟨m, hn, hl⟩ := I.loc
    have hvis : Vis X.env.scope y := (ok.free _ (PySem.mem_of_lookup hfr.1) rfl).elim (fun k => .inr (.inl k)) (fun k => .inr (.inr k))
    obtain ⟨w, r, q⟩ := hl i y av e1 e2 hvis
    refine ⟨w, r, .inr ⟨hfr.2, ?_⟩⟩
    obtain ⟨c, h1, h2⟩ := look hfr.1
    rcases q with ⟨k, _⟩ | ⟨_, c', e', z⟩
    · have k : X.env.scope.names.lookup y = some .local := k
      rcases ok.free _ (PySem.mem_of_lookup hfr.1) rfl with k' | k' <;> rw [show X.env.scope.names.lookup y = _ from k'] at k <;> cases k
    · rw [h2] at e'; cases e'
      exact ⟨c, h1, z.keeps kp⟩
  · have e : cenv.cells.lookup y = some c := e
    rcases mem e with ⟨h1, _⟩ | ⟨_, z⟩
    · obtain ⟨w, z⟩ := I.cell y c h1
      exact ⟨w, z.keeps kp⟩
    · exact ⟨_, z⟩
  · show H cenv.locals = none
    rw [hL]; exact I.hok.fresh (Nat.le_refl _)
  · have e : cenv.cells.lookup y = some c := e
    rcases mem e with ⟨h1, _⟩ | ⟨h1, _⟩
    · exact I.freeC y c h1
    · exact I.hok.fresh (Nat.le_of_succ_le h1)
  · exact absurd (show p ∈ ([] : List (Addr × Obj)) ++ [] from hp) (by simp)
theorem app_ok {E : Value → Shared → Prop} {D : Addr} {xs : List V} {y : V} {v : Value} {Q : Value → Shared → Prop} (I : Inv X pins σ H s) (hD : H D = some (.lst xs)) (hz : xs.length < sizeLine) (r : RelV y v)
    (h : ∀ s', Inv X pins σ (upd H D (.lst (xs ++ [y]))) s' → Q .none s') : wpAny (model X.prog X.w) X.A (call (.builtin "list.append") [.ref D, v]) Q E s := by
  obtain ⟨hz', its, n, ri, e⟩ := I.hok D _ hD
  have hl := ri.length
  refine append_at (hsz := by rw [List.size_toArray]; omega) e fun h' sb ho' => ?_
  refine h { s with heap := h' } (I.write (t' := s.toks) (by rw [hD]; trivial) (.inl rfl) (fun b u hb q => (sb.2 b hb).trans q) ⟨_, ho'⟩ ⟨by rw [List.length_append]; exact hz, its ++ [v], n + 1, ri.append (.cons r .nil), ?_⟩)
  rw [ho']
  simp
def PTs (X : Cx) (ifs : List Expr) (t : TT) : Prop :=
  ∀ (pins : List (Addr × Obj)) (s : Shared) (σ : St) (H : Hp) (Q : Bool → Hp → Prop), Inv X pins σ H s → t σ H Q →
    wpAny (model X.prog X.w) X.A (forIn ifs true fun c r => if r = true then do let ok ← isTrue c X.env (eval c X.env); pure (ForInStep.yield ok) else pure (ForInStep.yield r)) (TP X pins σ Q) X.xe s
def tYes : TT := fun _ H Q => Q true H
theorem pts_nil : PTs X [] tYes := fun _ _ _ H _ I h => wpAny_tests_nil ⟨H, I, h⟩
theorem pts_one {c : Expr} {t : TT} (h : PT X c t) : PTs X [c] t := fun pins s σ H Q I hw => wpAny_tests_one (h pins s σ H Q I hw)
end
theorem thnF {α : Type} {t : Sem α} {Q Q' : α → Shared → Prop} {M : Model} {A : Around} {E : Value → Shared → Prop} {s : Shared} (h : wpAny M A t Q (fun _ _ => False) s) (hQ : ∀ a s, Q a s → Q' a s) : wpAny M A t Q' E s := wpAny_mono h hQ fun _ _ z => False.elim z
theorem compLoop_any {prog : Program} {w : World} {A : Around} {R : Result → Shared → Prop} {s : Shared} {elt target iter : Expr} {ifs : List Expr} {scope : Scope} {pos : Pos} {it acc : Value} {env : Env} (I : Nat → Shared → Prop)
    (turn : ∀ n s, I n s → wpAny (model prog w) A (pyNext it) (fun r s₁ => match r with
      | none => R (.ok .next) s₁
      | some v => wpAny (model prog w) A (letOwnedTupleGo target it v) (fun _ s₁' => wpAny (model prog w) A (assign target env v) (fun _ s₂ =>
          wpAny (model prog w) A (forIn ifs true fun c r => if r = true then do let ok ← isTrue c env (eval c env); pure (ForInStep.yield ok) else pure (ForInStep.yield r)) (fun ok s₃ =>
            if ok = true then wpAny (model prog w) A (eval elt env) (fun x s₄ =>
              wpAny (model prog w) A (call (.builtin "list.append") [acc, x]) (fun _ s₅ => ∃ m, m < n ∧ I m s₅) (notedBy (model prog w) A env fun e s' => R (.error e) s') s₄) (notedBy (model prog w) A env fun e s' => R (.error e) s') s₃
            else ∃ m, m < n ∧ I m s₃) (notedBy (model prog w) A env fun e s' => R (.error e) s') s₂) (notedBy (model prog w) A env fun e s' => R (.error e) s') s₁') (notedBy (model prog w) A env fun e s' => R (.error e) s') s₁) (notedBy (model prog w) A env fun e s' => R (.error e) s') s)
    (n : Nat) (h : I n s) :
    codeAny (model prog w) A (.compLoop (.ListComp elt [⟨target, iter, ifs, 0⟩] scope pos) 0 it acc env) R s := by
  refine codeAny_loop rfl I (fun n s hI => ?_) n h
  show wpAny _ A ((compTurn (.ListComp elt [⟨target, iter, ifs, 0⟩] scope pos) 0 it acc env).onRaise (fun x => do noteFrame x env; theTreesLotGoes x)) _ _ s
  refine wpAny_noted ?_
  rw [compTurn_list]
  refine wpAny_bind (wpAny_standAt (wpAny_bind (wpAny_mono (turn n s hI) (fun r s₁ h₁ => ?_) fun _ _ h' => h')))
  cases r with
  | none => exact wpAny_pure h₁
  | some v =>
    refine wpAny_bind (wpAny_mono h₁ (fun _ s₁' h₁' => ?_) fun _ _ h' => h')
    refine wpAny_bind (wpAny_mono h₁' (fun _ s₂ h₂ => wpAny_bind (wpAny_mono h₂ (fun ok s₃ h₃ => ?_) fun _ _ h' => h')) fun _ _ h' => h')
    cases ok with
    | false => exact wpAny_pure ⟨rfl, h₃⟩
    | true =>
      exact wpAny_bind (wpAny_bind (wpAny_mono h₃ (fun x s₄ h₄ => wpAny_bind (wpAny_mono h₄ (fun _ s₅ h₅ => wpAny_pure (wpAny_pure ⟨rfl, h₅⟩)) fun _ _ h' => h')) fun _ _ h' => h'))
section
variable {X : Cx}
def tLc (wi : TI) (g : TG) (tt : TT) (te : TE) (vs : List Nat) : TE := fun σ H Q => wi σ H fun J H1 => ∀ D, H1 D = none → ∃ W : Nat → Nat → Hp → Prop, (∃ m, W 0 m (upd H1 D (.lst []))) ∧ ∀ i m H, W i m H →
  (J.stop i H ∧ Q (.ref D) H) ∨ (J.go i H ∧ ∃ Nx : Hp → Prop, (∀ H', Nx H' → ∃ m', m' < m ∧ W (i + 1) m' H') ∧ ∀ x H', J.yld i H x H' → g x (wipe σ vs) H' fun σ2 H2 => wipe σ2 vs = wipe σ vs ∧ tt σ2 H2 fun b H3 =>
    if b = true then te σ2 H3 fun y H4 => ∃ acc, H4 D = some (.lst acc) ∧ acc.length < sizeLine ∧ Nx (upd H4 D (.lst (acc ++ [y]))) else Nx H3)
theorem lc_core {pins : List (Addr × Obj)} {s : Shared} {σ : St} {H : Hp} {Q : VK} {elt tg iter : Expr} {ifs : List Expr} {scope : Scope} {own : List (Str × Nat)} {pos pos' : Pos} {wi : TI} {g : TG} {tt : TT} {te : TE} {use : Option (Value → Sem Unit)} {Qf : Value → Shared → Prop}
    (hc : X.calm = true) (hN : X.N.Nodup) (I : Inv X pins σ H s) (hi : PI X tg iter wi) (ok : BlkOk X.N X.env.scope scope own)
    (hg : ∀ (s : Shared) (H : Hp) (C : Addr) (cl : List (Str × Addr)) (fp : List Addr), PG (X.blk s H scope (compEnvC scope cl C X.env) fp) tg g) (ht : ∀ (s : Shared) (H : Hp) (C : Addr) (cl : List (Str × Addr)) (fp : List Addr), PTs (X.blk s H scope (compEnvC scope cl C X.env) fp) ifs tt)
    (he : ∀ (s : Shared) (H : Hp) (C : Addr) (cl : List (Str × Addr)) (fp : List Addr), PE (X.blk s H scope (compEnvC scope cl C X.env) fp) elt te) (hs : ∀ x, foldedSetIterable iter X.env x = pure x)
    (h : tLc wi g tt te (own.map (·.2)) σ H Q)
    (hRR : ∀ D C s' m H', Inv X pins σ H' s' → Q (.ref D) H' → s'.heap.Ns C m → FpOk X pins H' C → compPost (model X.prog X.w) X.A X.xe use Qf (.ref D) C (.ok .next) s') :
    wpAny (model X.prog X.w) X.A (comprehension (.ListComp elt [⟨tg, iter, ifs, 0⟩] scope pos) scope X.env pos' (newList []) false (eval iter X.env) use) Qf X.xe s := by
  have hfree : ∀ y ∈ scope.names, y.2 = .free → ∃ c, X.env.cells.lookup y.1 = some c := fun y hy e => by
    rcases ok.free y hy e with k | k
    · exact I.ok.has _ (.inl k)
    · exact I.ok.has _ (.inr k)
  refine wpAny_comprehension_free (use := use) rfl hs (closure_ok hfree) ok.kind (fun y hy e => by rw [ok.uniq y hy, e])
    (thn (hi pins s σ H _ I h) fun xv s1 hx => thn hx fun itv s2 h2 => ?_)
  obtain ⟨it, fp, tn, J, H2, e, I2, T, st2, f2, q⟩ := h2
  subst e
  refine wpAny_newObj_type (newEnv_comp ?_) (by show 0 ≤ sizeLine; decide)
  generalize hD : s2.heap.objs.size = D
  have hDn : H2 D = none := I2.hok.fresh (Nat.le_of_eq hD)
  obtain ⟨W, ⟨m0, w0⟩, turn⟩ := q D hDn
  -- the new list
  generalize hs3 : ({ s2 with heap := s2.heap.push { cls := .type "list", data := .seq ([] : List Value).toArray } } : Shared) = s3
  have I3 : Inv X pins σ (upd H2 D (.lst [])) s3 := by
    rw [← hs3]
    refine I2.laid (t' := s2.toks) (fun b o e => Heap.get?_push_of_some _ e) (Nat.le_of_eq hD) ⟨Nat.zero_le _, [], 0, .nil, ?_⟩
    rw [← hD]
    exact Heap.get?_push_size _ rfl
  have h3 : s3.heap = s2.heap.push { cls := .type "list", data := .seq ([] : List Value).toArray } := by rw [← hs3]
  have sz : ∀ b ∈ fp, b < s2.heap.objs.size := fun b hb => by
    obtain ⟨o, e, _⟩ := T.obj _ _ st2 b hb
    exact Heap.lt_size e
  have f3 : ∀ b ∈ fp, FpOk X pins (upd H2 D (.lst [])) b ∧ b < s3.heap.objs.size := fun b hb => by
    have hlt := sz b hb
    refine ⟨⟨?_, (f2 b hb).2⟩, by rw [h3, Heap.size_push]; exact Nat.lt_succ_of_lt hlt⟩
    rw [upd_ne (by rw [← hD]; exact Nat.ne_of_lt hlt)]
    exact (f2 b hb).1
  have st3 : tn 0 s3.heap := T.keep _ _ _ st2 fun b _ o e => by rw [h3]; exact Heap.get?_push_of_some _ e
  have I4 := block_start I3 ok hN f3
  have pg := hg s3 (upd H2 D (.lst [])) s3.heap.objs.size (cellsFrom (s3.heap.objs.size + 1) scope.names (cloFrom X.env.cells scope.names [])) fp
  have pt := ht s3 (upd H2 D (.lst [])) s3.heap.objs.size (cellsFrom (s3.heap.objs.size + 1) scope.names (cloFrom X.env.cells scope.names [])) fp
  have pe := he s3 (upd H2 D (.lst [])) s3.heap.objs.size (cellsFrom (s3.heap.objs.size + 1) scope.names (cloFrom X.env.cells scope.names [])) fp
  show codeAny _ _ (.compStart (.ListComp elt [⟨tg, iter, ifs, 0⟩] scope pos) 0 (.ref it) (.ref D) (compEnvC scope (cellsFrom (s3.heap.objs.size + 1) scope.names (cloFrom X.env.cells scope.names [])) s3.heap.objs.size X.env)) (compPost (model X.prog X.w) X.A X.xe use Qf (.ref D) s3.heap.objs.size) { s3 with heap := pushCells (s3.heap.push { cls := .type "dict", data := .dict #[] }) scope.names }
  have nfp : ∀ b ∈ fp, (upd H2 D (.lst [])) b = none := fun b hb => (f3 b hb).1.1
  generalize hce : compEnvC scope (cellsFrom (s3.heap.objs.size + 1) scope.names (cloFrom X.env.cells scope.names [])) s3.heap.objs.size X.env = ce at I4 pg pt pe ⊢
  have cL : ce.locals = s3.heap.objs.size := by subst hce; rfl
  generalize hH3 : upd H2 D (.lst []) = H3 at I3 I4 pg pt pe w0 nfp f3
  generalize hs4 : ({ s3 with heap := pushCells (s3.heap.push { cls := .type "dict", data := .dict #[] }) scope.names } : Shared) = s4 at I4 ⊢
  have st4 : tn 0 s4.heap := T.keep _ _ _ st3 fun b _ o e => by rw [← hs4]; exact pushCells_keeps _ _ _ _ (Heap.get?_push_of_some _ e)
  have stat : ∀ {σ' : St} {H' : Hp} {s' : Shared}, Inv (X.blk s3 H3 scope ce fp) [] σ' H' s' → (∀ b ∈ fp, H' b = none) → ∀ b ∈ fp, FpOk (X.blk s3 H3 scope ce fp) [] H' b := fun {σ' H' s'} I' hn b hb =>
    ⟨hn b hb, (I'.ok.exf b hb).1, I'.ok.exfs b hb, .inl hb, fun x c e => (I'.ok.exf b hb).2 x c e, fun p hp => absurd (show p ∈ ([] : List (Addr × Obj)) ++ [] from hp) (by simp)⟩
  have loop : codeAny (model X.prog X.w) X.A (.compLoop (.ListComp elt [⟨tg, iter, ifs, 0⟩] scope pos) 0 (.ref it) (.ref D) ce) (compPost (model X.prog X.w) X.A X.xe use Qf (.ref D) s3.heap.objs.size) s4 := by
    refine compLoop_any (fun n s' => ∃ i H', Inv (X.blk s3 H3 scope ce fp) [] (wipe σ (own.map (·.2))) H' s' ∧ tn i s'.heap ∧ (∀ b ∈ fp, H' b = none) ∧ W i n H') ?_ m0 ⟨0, H3, I4, st4, nfp, w0⟩
    rintro n s5 ⟨i, H5, I5, st5, n5, w5⟩
    rcases turn i n H5 w5 with ⟨stop, qq⟩ | ⟨go, Nx, hNx, step⟩
    · have td := T.done (X.blk s3 H3 scope ce fp) rfl rfl rfl hc i [] s5 _ H5 (fun _ _ => False) I5 (stat I5 n5) st5 stop
      refine thnF td fun r s6 ⟨hr, I6⟩ => ?_
      subst hr
      -- back in the def's context
      have I7 : Inv X pins σ H5 s6 := I3.call' (ch := fp) I6.os I6.base I6.hok I6.bare fun b hb => ⟨(f3 b hb).1.2.2.2.1, (f3 b hb).1.2.1, (f3 b hb).1.2.2.2.2.1, (f3 b hb).1.2.2.2.2.2⟩
      have nC : H5 s3.heap.objs.size = none := by
        have z : H5 ce.locals = none := I6.free
        rw [cL] at z
        exact z
      obtain ⟨m, hn, _⟩ := I6.loc
      have hn : s6.heap.Ns ce.locals m := hn
      rw [cL] at hn
      exact hRR D s3.heap.objs.size s6 m H5 I7 qq hn (I3.fpOk (Nat.le_refl _) nC)
    · have ti := T.item (X.blk s3 H3 scope ce fp) rfl rfl rfl hc i [] s5 _ H5 (fun _ _ => False) I5 (stat I5 n5) st5 go
      refine thnF ti fun r s6 ⟨u, hr, h6⟩ => ?_
      subst hr
      refine thnF h6 fun _ s7 ⟨x, H7, I7, r7, y7, st7, n7⟩ => ?_
      have I7' := I7.pinned (stat I7 n7) (T.obj _ _ st7)
      refine thnF (pg _ s7 _ H7 x u _ I7' r7 (step x H7 y7)) fun _ s8 ⟨σ8, H8, I8, hw8, q8⟩ => ?_
      refine thnF (pt _ s8 σ8 H8 _ I8 q8) fun b s9 ⟨H9, I9, q9⟩ => ?_
      -- the turn's end
      have fin : ∀ {s' : Shared} {H' : Hp}, Inv (X.blk s3 H3 scope ce fp) ([] ++ pinsAt fp s7.heap) σ8 H' s' → Nx H' → ∃ m, m < n ∧ ∃ i H', Inv (X.blk s3 H3 scope ce fp) [] (wipe σ (own.map (·.2))) H' s' ∧ tn i s'.heap ∧ (∀ b ∈ fp, H' b = none) ∧ W i m H' := fun {s' H'} I' nx => by
        obtain ⟨m', hm, w'⟩ := hNx H' nx
        have pin' : ∀ b ∈ fp, ∀ o, s7.heap.get? b = some o → s'.heap.get? b = some o ∧ H' b = none := fun b hb o e =>
          let z := I'.pin (b, o) (List.mem_append_right _ (List.mem_append_right _ (mem_pinsAt hb e)))
          ⟨z.1, z.2.1⟩
        have hl : (wipe σ (own.map (·.2))).length = σ8.length := by rw [← hw8, wipe_length]
        refine ⟨m', hm, i + 1, H', (I'.unpinned (pins := [])).weak hl (fun j v e => ?_), T.keep _ _ _ st7 fun b hb o e => (pin' b hb o e).1, fun b hb => ?_, w'⟩
        · rw [← hw8] at e
          exact (wipe_some e).1
        · obtain ⟨o, e, _⟩ := T.obj _ _ st7 b hb
          exact (pin' b hb o e).2
      cases b with
      | false =>
        simp only [Bool.false_eq_true, if_false] at q9 ⊢
        exact fin I9 q9
      | true =>
        simp only [if_true] at q9 ⊢
        refine thnF (pe _ s9 σ8 H9 _ I9 q9) fun z s10 ⟨yv, H10, I10, r10, acc, hD10, hz10, nx⟩ => ?_
        exact app_ok (X := X.blk s3 H3 scope ce fp) I10 hD10 hz10 r10 fun s11 I11 => fin I11 nx
  exact codeAny_compStart_list loop (T.self X.A 0 _ _ _ st4 loop)
theorem pe_lc {elt tg iter : Expr} {ifs : List Expr} {scope : Scope} {own : List (Str × Nat)} {pos : Pos} {wi : TI} {g : TG} {tt : TT} {te : TE} (hc : X.calm = true) (hN : X.N.Nodup) (hi : PI X tg iter wi) (ok : BlkOk X.N X.env.scope scope own)
    (hg : ∀ (s : Shared) (H : Hp) (C : Addr) (cl : List (Str × Addr)) (fp : List Addr), PG (X.blk s H scope (compEnvC scope cl C X.env) fp) tg g) (ht : ∀ (s : Shared) (H : Hp) (C : Addr) (cl : List (Str × Addr)) (fp : List Addr), PTs (X.blk s H scope (compEnvC scope cl C X.env) fp) ifs tt)
    (he : ∀ (s : Shared) (H : Hp) (C : Addr) (cl : List (Str × Addr)) (fp : List Addr), PE (X.blk s H scope (compEnvC scope cl C X.env) fp) elt te) (hs : ∀ x, foldedSetIterable iter X.env x = pure x := by intro _; rfl) :
    PE X (.ListComp elt [⟨tg, iter, ifs, 0⟩] scope pos) (tLc wi g tt te (own.map (·.2))) := by
  intro pins s σ H Q I h
  rw [eval_ListComp]
  refine lc_core hc hN I hi ok hg ht he hs h fun D C s' m H' I' q hn f => ⟨m, hn, fun h'' sb => ?_⟩
  obtain ⟨f0, f1, f2, f3, f4, f5⟩ := f
  exact ⟨.ref D, H', I'.turned (t' := s'.toks) (fun b o hb e => (sb.2 b hb).trans e) f0 f1 f3 f4 f5, rfl, q⟩
theorem ps_setLc {i : Nat} {y : Str} {py : Pos} {elt tg iter : Expr} {ifs : List Expr} {scope : Scope} {own : List (Str × Nat)} {pos spos : Pos} {wi : TI} {g : TG} {tt : TT} {te : TE} (hc : X.calm = true) (hN : X.N.Nodup) (hy : X.N[i]? = some y) (hyl : X.env.scope.names.lookup y = some .local)
    (hsw : swapsWith (.ListComp elt [⟨tg, iter, ifs, 0⟩] scope pos) (some (.Name y py)) spos.line X.env = pure true) (hi : PI X tg iter wi) (ok : BlkOk X.N X.env.scope scope own)
    (hg : ∀ (s : Shared) (H : Hp) (C : Addr) (cl : List (Str × Addr)) (fp : List Addr), PG (X.blk s H scope (compEnvC scope cl C X.env) fp) tg g) (ht : ∀ (s : Shared) (H : Hp) (C : Addr) (cl : List (Str × Addr)) (fp : List Addr), PTs (X.blk s H scope (compEnvC scope cl C X.env) fp) ifs tt)
    (he : ∀ (s : Shared) (H : Hp) (C : Addr) (cl : List (Str × Addr)) (fp : List Addr), PE (X.blk s H scope (compEnvC scope cl C X.env) fp) elt te) (hs : ∀ x, foldedSetIterable iter X.env x = pure x := by intro _; rfl) :
    PS X (.Assign [.Name y py] (.ListComp elt [⟨tg, iter, ifs, 0⟩] scope pos) spos) (tAsg (tLc wi g tt te (own.map (·.2))) (gName i)) := by
  intro pins s σ H D I h
  rw [exec_Assign_Name_used _ _ _ _ hsw]
  refine wpAny_bind (wpAny_standAt (wpAny_bind ?_))
  show wpAny _ X.A (do let _ ← comprehension (.ListComp elt [⟨tg, iter, ifs, 0⟩] scope pos) scope X.env (firstIterPos [⟨tg, iter, ifs, 0⟩] pos) (newList []) false (eval iter X.env) (some (assign (.Name y py) X.env))) _ _ s
  have h : tLc wi g tt te (own.map (·.2)) σ H (fun x H1 => gName i x σ H1 D.nx) := h
  refine wpAny_bind (thn (lc_core (Qf := fun _ s' => SP X pins D .next s') hc hN I hi ok hg ht he hs h fun L C s' m H' I' q hn f => ?_) fun _ s' hq => wpAny_pure (wpAny_pure hq))
  show wpAny _ _ (assign (.Name y py) X.env (.ref L)) _ _ _
  refine wpAny_assign_Name (store_ok2 (v := V.ref L) I' hN hy (.inl hyl) rfl (fun s2 I2 ⟨a, sb, ha⟩ => ?_) (.inr hyl))
  obtain ⟨f0, f1, f2, f3, f4, f5⟩ := f
  have haC : C ≠ a := by
    rcases ha with z | z
    · rw [z]; exact f1
    · exact fun e => f4 y a z e.symm
  refine ⟨m, hn.sameBut sb haC, fun h3 sb3 => ?_⟩
  exact ⟨_, H', I2.turned (t' := s2.toks) (fun b o hb e => (sb3.2 b hb).trans e) f0 f1 f3 f4 f5, q⟩
theorem sw_true {elt : Expr} {gs : List Comprehension} {scope : Scope} {pos py : Pos} {y : Str} {l : Nat} {env : Env} (hk : env.scope.kind = .function) (hy : env.scope.names.lookup y = some .local) (hl : (py.line == pos.line) = true)
    (ha : (scope.names.any fun (n, k) => n == y && (k == .local || k == .cell)) = false) : swapsWith (.ListComp elt gs scope pos) (some (.Name y py)) l env = pure true := by
  have ky : env.kindOf y = some .local := hy
  have hb : env.blockKind = .function := by unfold Env.blockKind; rw [hk]; rfl
  unfold swapsWith
  simp only [hb, ky, ha, Expr.pos, hl]
  rfl
end
theorem lc_list {K : PySem.W.Frag} {a : Addr} {xs : List V} {g : TG} {tt : TT} {te : TE} {vs : List Nat} {σ : St} {H1 : Hp} {D : Addr} {Qd : Hp → Prop} (Pv : Nat → Hp → Prop) (h0 : Pv 0 (upd H1 D (.lst []))) (hl : ∀ i H, i ≤ xs.length → Pv i H → SqL K H a xs)
    (hs : ∀ i x H, xs[i]? = some x → Pv i H → g x (wipe σ vs) H fun σ2 H2 => wipe σ2 vs = wipe σ vs ∧ tt σ2 H2 fun b H3 =>
      if b = true then te σ2 H3 fun y H4 => ∃ acc, H4 D = some (.lst acc) ∧ acc.length < sizeLine ∧ Pv (i + 1) (upd H4 D (.lst (acc ++ [y]))) else Pv (i + 1) H3) (hd : ∀ H, Pv xs.length H → Qd H) :
    ∃ W : Nat → Nat → Hp → Prop, (∃ m, W 0 m (upd H1 D (.lst []))) ∧ ∀ i m H, W i m H →
      ((Itl K a).stop i H ∧ Qd H) ∨ ((Itl K a).go i H ∧ ∃ Nx : Hp → Prop, (∀ H', Nx H' → ∃ m', m' < m ∧ W (i + 1) m' H') ∧ ∀ x H', (Itl K a).yld i H x H' → g x (wipe σ vs) H' fun σ2 H2 => wipe σ2 vs = wipe σ vs ∧ tt σ2 H2 fun b H3 =>
        if b = true then te σ2 H3 fun y H4 => ∃ acc, H4 D = some (.lst acc) ∧ acc.length < sizeLine ∧ Nx (upd H4 D (.lst (acc ++ [y]))) else Nx H3) := by
  refine ⟨fun i m H => m = xs.length - i ∧ i ≤ xs.length ∧ Pv i H, ⟨xs.length, by simp, Nat.zero_le _, h0⟩, ?_⟩
  rintro i m H ⟨rfl, hi, p⟩
  have q := hl i H hi p
  by_cases hlt : i < xs.length
  · refine .inr ⟨⟨xs, xs[i], q, by simp [hlt]⟩, Pv (i + 1), fun H' p' => ⟨xs.length - (i + 1), by omega, rfl, hlt, p'⟩, fun x H' y => ?_⟩
    obtain ⟨e, y⟩ := y
    subst e
    exact hs i x _ (y xs q) p
  · have e : i = xs.length := by omega
    subst e
    exact .inl ⟨⟨xs, q, Nat.le_refl _⟩, hd H p⟩
def blkC (N : List Str) (sc scope : Scope) (own : List (Str × Nat)) : Bool :=
  (match scope.kind with | .function => true | _ => false) && (scope.names.all fun y => decide (scope.names.lookup y.1 = some y.2)) && (own.all fun p => decide (N[p.2]? = some p.1)) &&
    (scope.names.all fun y => match y.2 with
      | .free => (match sc.names.lookup y.1 with | some .cell => true | some .free => true | _ => false)
      | .local => decide (y.1 ∈ own.map (·.1)) || decide (y.1 ∉ N)
      | .cell => decide (y.1 ∈ own.map (·.1)) || decide (y.1 ∉ N)
      | _ => true)
theorem blkOk_by {N : List Str} {sc scope : Scope} {own : List (Str × Nat)} (h : blkC N sc scope own = true) : BlkOk N sc scope own := by
  unfold blkC at h
  simp only [Bool.and_eq_true, List.all_eq_true, decide_eq_true_eq] at h
  obtain ⟨⟨⟨h1, h2⟩, h3⟩, h4⟩ := h
  refine ⟨?_, h2, h3, fun y hy e => ?_, fun y hy e => ?_⟩
  · split at h1
    · assumption
    · cases h1
  · have q := h4 y hy
    simp only [e] at q
    split at q <;> first | exact .inl (by assumption) | exact .inr (by assumption) | cases q
  · have q := h4 y hy
    rcases e with e | e <;> (simp only [e, Bool.or_eq_true, decide_eq_true_eq] at q; exact q)
end L2
namespace L2
open PySem PySem.Spec PyProof.Rows
section
variable {prog : Program} {w : World} {A : Around} {R : Result → Shared → Prop} {s : Shared} {elt t0 i0 t1 i1 : Expr} {ifs0 ifs1 : List Expr} {scope : Scope} {pos : Pos} {it acc : Value} {env : Env}
end
section
variable {X : Cx}
end
end L2
namespace L2
open PySem PySem.Spec PyProof.Rows
section
variable {κ : Type} [DecidableEq κ]
end
section
variable {P : Program} {w : World} {H : Hp} {h : Heap} {a : Addr}
end
section
variable {X : Cx} {pins : List (Addr × Obj)} {σ : St} {H : Hp} {s : Shared} {a : Addr} {y v : V} {u r : Value} {o : Option V} {A : Around} {E : Value → Shared → Prop}
end
section
variable {X : Cx} {pins : List (Addr × Obj)} {σ : St} {H : Hp} {s : Shared} {a : Addr} {kvs : List (Key × V)} {k : Key} {u : Value} {A : Around} {E : Value → Shared → Prop}
end
def NoSl (i : Expr) : Prop := ∀ ov iv, subscripted i false ov iv = operate [ov, iv] (getItem ov iv)
theorem subD_of {prog : Program} {w : World} {A : Around} {E : Value → Shared → Prop} {s : Shared} {env : Env} {value slice : Expr} {pos : Pos} {T id : String} {Q : Value → Shared → Prop}
    (hl : typeLookup (.type T) "__getitem__" = pure (some (.builtin id))) (hs : NoSl slice)
    (h : wpAny (model prog w) A (eval value env) (fun o s₁ => wpAny (model prog w) A (eval slice env) (fun i s₂ => s₂.TypeIs o T ∧ wpAny (model prog w) A (getItem o i) Q E s₂) E s₁) E s) :
    wpAny (model prog w) A (eval (.Subscript value slice pos) env) Q E s := by
  refine Subscript_ (wpAny_mono h (fun o s₁ h₁ => wpAny_mono h₁ (fun i s₂ h₂ => ?_) fun _ _ x => x) fun _ _ x => x)
  obtain ⟨hT, h₂⟩ := h₂
  unfold subscriptTail
  refine wpAny_bind ?_
  rw [getitemInPython_of_ne hT.not_modules]
  refine wpAny_bind (wpAny_specialOf hT hl ?_)
  have fin : wpAny (model prog w) A (subscripted slice false o i) (fun r s₃ => wpAny (model prog w) A (letTemporaryGo value o r >>= fun _ => pure r) Q E s₃) E s₂ := by
    rw [hs o i]
    exact wpAny_operating (wpAny_mono h₂ (fun r s₃ h₃ => wpAny_bind (wpAny_letTemporaryGo (wpAny_pure h₃))) fun _ _ x => x)
  first
    | exact wpAny_pure (wpAny_bind fin)
    | exact wpAny_bind (wpAny_pure (wpAny_bind fin))
    | exact wpAny_bind fin
section
variable {X : Cx} {o i e value : Expr} {pos pos' tpos : Pos} {td ty tv : TE}
end
section
variable {X : Cx} {pos : Pos}
end
section
variable {X : Cx} {pins : List (Addr × Obj)} {σ : St} {H : Hp} {s : Shared} {a : Addr} {y d : V} {u r : Value} {o : Option V} {A : Around} {E : Value → Shared → Prop}
end
section
variable {X : Cx} {o e f : Expr} {apos cpos : Pos} {td ty tx : TE}
end
section
variable {X : Cx} {pins : List (Addr × Obj)} {σ : St} {H : Hp} {s : Shared} {a : Addr} {kvs : List (Key × V)} {A : Around} {E : Value → Shared → Prop}
end
section
variable {X : Cx} {pins : List (Addr × Obj)} {σ : St} {H : Hp} {s : Shared} {a : Addr} {y : V} {u : Value} {A : Around} {E : Value → Shared → Prop}
end
end L2
namespace L2
open PySem PySem.Spec PyProof.Rows
section
variable {prog : Program} {w : World} {A : Around} {E : Value → Shared → Prop}
end
section
variable {X : Cx}
end
end L2
namespace L2
open PySem PySem.Spec PyProof.Rows
theorem boot_reversed5 : bootBuiltins "reversed" = some (.type "reversed") := by decide +kernel
section
variable {X : Cx} {pins : List (Addr × Obj)} {σ : St} {H : Hp} {s : Shared} {h' : Heap}
theorem Inv.turnedNew {t' : Nat} {ch : List Addr} {T : Addr} {ob : HO} (I : Inv X pins σ H s) (k : ∀ b o, b ∉ ch → s.heap.get? b = some o → h'.get? b = some o) (hf : ∀ b ∈ ch, FpOk X pins H b) (hT : s.heap.objs.size ≤ T)
    (new : ObjOk X.prog X.w (upd H T ob) h' T ob) : Inv X pins σ (upd H T ob) { s with heap := h', toks := t' } := by
  have hn : H T = none := I.hok.fresh hT
  have nit : ∀ b u, H b = some u → b ∉ ch := fun b u e z => by
    have q := (hf b z).1
    rw [q] at e; cases e
  refine I.step (g' := s.gens) (d' := s.drawn) (ch := ch) (fun b hb => ⟨(hf b hb).2.2.2.1, (hf b hb).2.1, (hf b hb).2.2.2.2.1, (hf b hb).2.2.2.2.2⟩) (fun b o _ _ hc e _ => k b o hc e) (fun b o _ _ hc e _ => ⟨o.slots, k b o hc e⟩)
    (fun b o _ e n => ?_) (fun b o hc e => ⟨o, k b o hc e⟩) (fun b xs e => ?_) (fun b o u e => ?_) (fun b ps e => ⟨#[], ?_⟩) (fun m hm => ?_) (fun b u e => ?_) I.bare
  · rw [upd_ne (Nat.ne_of_lt (Nat.lt_of_lt_of_le (Heap.lt_size e) hT))]; exact n
  · rw [upd_ne (ne_of_none e hn)]; exact e
  · rw [upd_ne (ne_of_none e hn)]; exact e
  · rw [upd_ne (ne_of_none e hn), e]; simp
  · obtain ⟨o, es, ep, ho, r⟩ := hm
    exact ⟨o, es, ep, k _ o (fun z => (hf _ z).2.1 rfl) ho, r⟩
  · by_cases hb : b = T
    · subst hb
      rw [upd_same] at e
      cases e
      exact new
    · rw [upd_ne hb] at e
      refine (I.hok b u e).stay (fun c v hc q => k c v ?_ q) (fun c q => by rw [upd_ne (ne_of_none q hn)]; exact q) fun c xs q => by rw [upd_ne (ne_of_none q hn)]; exact q
      rcases hc with z | z
      · rw [z]; exact nit b u e
      · exact nit c _ z
end
section
variable {X : Cx}
theorem pi_one {tg : Expr} {pins : List (Addr × Obj)} {σ : St} {H : Hp} {s : Shared} {R : It → Hp → Prop} {J : It} {tn : Nat → Heap → Prop} {tk : Nat} (I : Inv X pins σ H s) (o : Obj)
    (T : Turn X.prog X.w X.K tg J [s.heap.objs.size] s.heap.objs.size tn) (st : tn 0 (s.heap.push o)) (q : R J H) : PIE X pins σ tg R (.ref s.heap.objs.size) { s with heap := s.heap.push o, toks := tk } := by
  refine ⟨s.heap.objs.size, [s.heap.objs.size], tn, J, H, rfl, I.kept fun b ob e => Heap.get?_push_of_some _ e, T, st, fun b hb => ?_, q⟩
  have e : b = s.heap.objs.size := by simpa using hb
  subst e
  exact I.fpOk (Nat.le_refl _) (I.hok.fresh (Nat.le_refl _))
end
section
variable {X : Cx} {tg : Expr}
end
def Itv (K : PySem.W.Frag) (a : Addr) (n : Nat) : It :=
  ⟨fun i H => i < n ∧ ∃ (xs : List V) (x : V), SqL K H a xs ∧ xs[n - 1 - i]? = some x, fun i H x H' => H' = H ∧ ∀ xs, SqL K H a xs → xs[n - 1 - i]? = some x, fun i _ => n ≤ i⟩
theorem turn_rev {P : Program} {w : World} {K : PySem.W.Frag} {tg : Expr} (a it : Addr) (n : Nat) : Turn P w K tg (Itv K a n) [it] it (fun i h => i ≤ n ∧ h.IsRevIter it a ((n : Int) - 1 - (i : Nat))) where
  mem := by simp
  obj := fun i h st b hb => by
    have e : b = it := by simpa using hb
    subst e
    obtain ⟨_, o, e, c, d⟩ := st
    exact ⟨o, e, fun v z => by rw [d] at z; cases z⟩
  keep := fun i h h' st k => ⟨st.1, st.2.at fun o e => k it (by simp) o e⟩
  item := by
    intro X hP hw hK hc i pins s σ H E I hf st hg
    subst hP hw hK
    obtain ⟨hin, xs, x, hq, hx⟩ := hg
    obtain ⟨its, rv, p, hz⟩ := I.list hq
    obtain ⟨u, hu, ru⟩ := rv.get hx
    obtain ⟨f0, f1, f2, f3, f4, f5⟩ := hf it (by simp)
    obtain ⟨_, hit⟩ := st
    have e1 : (n : Int) - 1 - ((i : Nat) : Int) = ((n - 1 - i : Nat) : Int) := by omega
    rw [e1] at hit
    refine wpAny_pyNext_rev_item hit p.isList (x := u) (by simpa using hu) fun h' st' sb => ?_
    have e2 : ((n - 1 - i : Nat) : Int) - 1 = (n : Int) - 1 - ((i + 1 : Nat) : Int) := by omega
    rw [e2] at st'
    have I1 : Inv X pins σ H { s with heap := h' } := I.turned (t' := s.toks) (fun b o hb e => (sb.2 b hb).trans e) f0 f1 f3 f4 f5
    obtain ⟨o, e, c, d⟩ := id st'
    exact ⟨u, rfl, go_of (s := { s with heap := h' }) e c d (by decide) ⟨x, H, I1, ru, ⟨rfl, fun ys hy => by rw [I.list_inj hy hq]; exact hx⟩, ⟨hin, st'⟩, fun b hb => (hf b hb).1⟩⟩
  done := by
    intro X hP hw hK hc i pins s σ H E I hf st hg
    subst hP hw hK
    obtain ⟨f0, f1, f2, f3, f4, f5⟩ := hf it (by simp)
    obtain ⟨hin, hit⟩ := st
    have hge : n ≤ i := hg
    have e1 : (n : Int) - 1 - ((i : Nat) : Int) = -1 := by omega
    rw [e1] at hit
    exact wpAny_pyNext_rev_end (I.ok.hd hc) hit fun h' eb => ⟨rfl, I.turned (t' := s.toks) (fun b o hb e => eb b o hb e) f0 f1 f3 f4 f5⟩
  self := fun A i s Q E st h => wpAny_pyIter_revIter st.2 h
def iRev (K : PySem.W.Frag) (ta : TA) : TI := fun σ H R => ta σ H fun vs H1 => ∃ (a : Addr) (xs : List V), vs = [.ref a] ∧ SqL K H1 a xs ∧ R (Itv K a xs.length) H1
section
variable {X : Cx} {tg : Expr}
theorem pi_reversed {e : Expr} {ta : TA} {p pos : Pos} (hg : Gl X "reversed") (hm : X.mg "reversed" = none) (ha : PA X [e] ta) (hs : starEach [e] X.env = [(false, eval e X.env)] := by rfl) : PI X tg (.Call (.Name "reversed" p) [e] [] pos) (iRev X.K ta) := by
  intro pins s σ H R I h
  refine Call_ (ld_blt I hg hm boot_reversed5 (PyProof.Rows.callWith_type1 (thn (ha pos pins s σ H _ I h) fun us s1 ⟨vs, H1, I1, r1, q1⟩ => ?_) hs rfl))
  obtain ⟨a, xs, e, hq, q⟩ := q1
  subst e
  cases r1 with
  | cons r rr =>
    cases rr
    cases r
    obtain ⟨its, rv, p', hz⟩ := I1.list hq
    have hl := rv.length
    have e1 : ((its.toArray.size : Nat) : Int) - 1 = (xs.length : Int) - 1 - ((0 : Nat) : Int) := by simp only [List.size_toArray]; omega
    refine call_reversed_list p'.isList (wpAny_pyIter_revIter (l := a) (i := ((its.toArray.size : Nat) : Int) - 1) ⟨_, Heap.get?_push_size _ rfl, rfl, rfl⟩ ?_)
    refine pi_one (tk := s1.toks) I1 _ (turn_rev a _ xs.length) ⟨Nat.zero_le _, ?_⟩ q
    rw [← e1]
    exact ⟨_, Heap.get?_push_size _ rfl, rfl, rfl⟩
end
section
variable {prog : Program} {w : World} {A : Around} {E : Value → Shared → Prop} {s : Shared}
end
section
variable {X : Cx} {pins : List (Addr × Obj)} {σ : St} {H : Hp} {s : Shared} {d : Addr} {o : Obj}
end
section
variable {P : Program} {w : World} {K : PySem.W.Frag} {tg : Expr} {d : Addr} {o : Obj} {es : Array DictEntry} {ep : Nat}
end
section
variable {X : Cx} {tg e : Expr} {td : TE} {apos cpos : Pos}
end
def Ite (K : PySem.W.Frag) (a : Addr) : It :=
  ⟨fun i H => ∃ (xs : List V) (x : V), SqL K H a xs ∧ xs[i]? = some x, fun i H v H' => ∃ T x, v = .ref T ∧ H T = none ∧ H' = upd H T (.tup [.int (i : Nat), x]) ∧ ∀ xs, SqL K H a xs → xs[i]? = some x, fun i H => ∃ xs : List V, SqL K H a xs ∧ xs.length ≤ i⟩
theorem turn_enum {P : Program} {w : World} {K : PySem.W.Frag} {elts : List Expr} {kk : Nat} {tpos : Pos} (a e it : Addr) :
    Turn P w K (.Tuple elts kk tpos) (Ite K a) [e, it] e (fun i h => (∃ old, IsEnum h e it ((i : Nat) : Int) old) ∧ h.IsListIter it a i ∧ e ≠ it) where
  mem := by simp
  obj := fun i h st b hb => by
    obtain ⟨⟨old, he⟩, ⟨o, ho, hc, hd⟩, _⟩ := st
    have e' : b = e ∨ b = it := by simpa using hb
    rcases e' with z | z
    · rw [z]; exact ⟨_, he, fun v q => nomatch q⟩
    · rw [z]; exact ⟨o, ho, fun v q => by rw [hd] at q; cases q⟩
  keep := fun i h h' st k => let ⟨⟨old, he⟩, hi, hne⟩ := st; ⟨⟨old, k e (by simp) _ he⟩, hi.at fun o q => k it (by simp) o q, hne⟩
  item := by
    intro X hP hw hK hc i pins s σ H E I hf st hg
    subst hP hw hK
    obtain ⟨⟨old, he⟩, hit, hne⟩ := st
    obtain ⟨xs, x, hq, hx⟩ := hg
    obtain ⟨its, rv, p, hz⟩ := I.list hq
    obtain ⟨u, hu, ru⟩ := rv.get hx
    have hel : e < s.heap.objs.size := Heap.lt_size he
    have hil : it < s.heap.objs.size := by obtain ⟨_, q, _⟩ := hit; exact Heap.lt_size q
    refine wpAny_pyNext_enum_item he hit p.isList (x := u) (by simpa using hu) hne fun h' ho hit' hT hsz hk => ?_
    refine ⟨_, rfl, wpAny_letOwnedTupleGo_enum (s := { s with heap := h', toks := s.toks + 1 }) ho fun h'' he' sb => ?_⟩
    have hT2 : h''.get? s.heap.objs.size = some { cls := .type "tuple", data := .seq #[.int i s.toks, u] } := (sb.2 _ (Nat.ne_of_gt hel)).trans hT
    have new : ObjOk X.prog X.w (upd H s.heap.objs.size (.tup [.int (i : Nat), x])) h'' s.heap.objs.size (.tup [.int (i : Nat), x]) :=
      ⟨by show 2 ≤ sizeLine; decide, [.int i s.toks, u], .cons ⟨_, rfl⟩ (.cons ru .nil), ⟨_, hT2, rfl, _, rfl⟩⟩
    have I1 : Inv X pins σ (upd H s.heap.objs.size (.tup [.int (i : Nat), x])) { s with heap := h'', toks := s.toks + 1 } :=
      I.turnedNew (ch := [e, it]) (fun b ob hb q => (sb.2 b (fun z => hb (by simp [z]))).trans (hk b ob (fun z => hb (by simp [z])) (fun z => hb (by simp [z])) q)) hf (Nat.le_refl _) new
    refine ⟨.ref s.heap.objs.size, _, I1, rfl, ⟨_, x, rfl, I.hok.fresh (Nat.le_refl _), rfl, fun ys hy => by rw [I.list_inj hy hq]; exact hx⟩, ⟨⟨u, ?_⟩, hit'.at fun o q => (sb.2 it (Ne.symm hne)).trans q, hne⟩, fun b hb => ?_⟩
    · have e1 : ((i + 1 : Nat) : Int) = (i : Int) + 1 := by omega
      rw [e1]; exact he'
    · have hb' : b < s.heap.objs.size := by
        have e' : b = e ∨ b = it := by simpa using hb
        rcases e' with z | z
        · rw [z]; exact hel
        · rw [z]; exact hil
      rw [upd_ne (Nat.ne_of_lt hb')]
      exact (hf b hb).1
  done := by
    intro X hP hw hK hc i pins s σ H E I hf st hg
    subst hP hw hK
    obtain ⟨⟨old, he⟩, hit, hne⟩ := st
    obtain ⟨xs, hq, hx⟩ := hg
    obtain ⟨its, rv, p, hz⟩ := I.list hq
    obtain ⟨f0, f1, f2, f3, f4, f5⟩ := hf it (by simp)
    have hl := rv.length
    exact wpAny_pyNext_enum_end (I.ok.hd hc) he hit p.isList (by simp; omega) fun h' eb => ⟨rfl, I.turned (t' := s.toks) (fun b o hb q => eb b o hb q) f0 f1 f3 f4 f5⟩
  self := fun A i s Q E st h => let ⟨⟨_, he⟩, _⟩ := st; wpAny_pyIter_enum he h
def iEnum (K : PySem.W.Frag) (ta : TA) : TI := fun σ H R => ta σ H fun vs H1 => ∃ a xs, vs = [.ref a] ∧ SqL K H1 a xs ∧ R (Ite K a) H1
theorem pi_enum {X : Cx} {e : Expr} {ta : TA} {p pos tpos : Pos} {elts : List Expr} {kk : Nat} (hg : Gl X "enumerate") (hm : X.mg "enumerate" = none) (ha : PA X [e] ta) (hs : starEach [e] X.env = [(false, eval e X.env)] := by rfl) :
    PI X (.Tuple elts kk tpos) (.Call (.Name "enumerate" p) [e] [] pos) (iEnum X.K ta) := by
  intro pins s σ H R I h
  refine Call_ (ld_blt I hg hm boot_enumerate (PyProof.Rows.callWith_type1 (thn (ha pos pins s σ H _ I h) fun us s1 ⟨vs, H1, I1, r1, q1⟩ => ?_) hs rfl))
  obtain ⟨a, xs, ex, hq, q⟩ := q1
  subst ex
  cases r1 with
  | cons r rr =>
    cases rr
    cases r
    obtain ⟨its, rv, p', hz⟩ := I1.list hq
    refine call_enumerate_list p'.isList fun h' he hit hsz hk => wpAny_pyIter_enum he ?_
    have I2 : Inv X pins σ H1 { s1 with heap := h' } := I1.kept (t' := s1.toks) hk
    refine ⟨s1.heap.objs.size + 1, [s1.heap.objs.size + 1, s1.heap.objs.size], _, _, H1, rfl, I2, turn_enum a (s1.heap.objs.size + 1) s1.heap.objs.size, ⟨⟨.none, he⟩, hit, Nat.succ_ne_self _⟩, fun b hb => ?_, q⟩
    have e' : b = s1.heap.objs.size + 1 ∨ b = s1.heap.objs.size := by simpa using hb
    have hle : s1.heap.objs.size ≤ b := by
      rcases e' with z | z
      · rw [z]; exact Nat.le_add_right _ _
      · rw [z]; exact Nat.le_refl _
    exact I1.fpOk hle (I1.hok.fresh hle)
end L2
section 
namespace Bits
open PySem PyProof.Rows
end Bits
end 
section 
namespace TL
open PySem PySem.Builtin PySem.Builtin.Str PySem.StrLaws
end TL
end 
namespace L2
open PySem PySem.Spec PyProof.Rows
section
variable {X : Cx} {pins : List (Addr × Obj)} {σ : St} {H : Hp} {s : Shared} {Q : VK}
end
section
variable {X : Cx}
end
section
variable {X : Cx} {o e : Expr} {to te : TE}
end
end L2
namespace L2
open PySem PySem.Spec PyProof.Rows
section
variable {X : Cx}
end
end L2
namespace Att
open PySem PySem.W PySem.Calls PyProof.Rows
section
variable {prog : Program} {w : World} {A : Around} {E : Value → Shared → Prop} {s : Shared} {K : Frag}
end
end Att
namespace L2
open PySem PySem.Spec PyProof.Rows
end L2
namespace L2
open PySem PySem.Spec PyProof.Rows
end L2
namespace L2
open PySem PySem.Spec PyProof.Rows
def inClass (s : Stmt) (j : Nat) : Stmt := match s with
  | .ClassDef _ _ _ body _ _ _ _ _ _ _ => body.getD j (.Pass ⟨0, 0, 0, 0⟩)
  | _ => .Pass ⟨0, 0, 0, 0⟩
def defArgs (s : Stmt) : Arguments := match s with
  | .FunctionDef _ a _ _ _ _ _ _ _ _ => a
  | _ => { posonlyargs := [], args := [], vararg := none, kwonlyargs := [], kw_defaults := [], kwarg := none, defaults := [] }
def defBody (s : Stmt) : List Stmt := match s with
  | .FunctionDef _ _ b _ _ _ _ _ _ _ => b
  | _ => []
def defScope (s : Stmt) : Scope := match s with
  | .FunctionDef _ _ _ _ _ _ sc _ _ _ => sc
  | _ => { kind := .function, names := [], isGenerator := false, isCoroutine := false }
abbrev CX0 : CXT := fun _ _ _ _ _ _ => False
abbrev E0 : XK := fun _ _ _ => False
theorem pass0 {X : Cx} : Passes CX0 X E0 := fun _ _ _ _ _ _ _ h => h.elim
structure Fun (K : PySem.W.Frag) (x qual : Str) (st : Stmt) (f : Addr) (fd : FuncData) : Prop where
  ex : ∃ (oc : Value) (od : Option Addr) (kV doc pm : Value) (an : Option Addr) (cdv ct : Value) (osl : Array (Option Value)),
    fd = PySem.W.fnOf x qual (defArgs st) (defBody st) (defScope st) .none kV doc pm an cdv ct ∧ K.lookup f = some ⟨oc, od, .func fd, osl⟩ ∧ PySem.W.codeIn K cdv qual = true
  kp : PySem.W.keepIn K (.ref f) = true
section
variable {P : Program} {w : World} {K : PySem.W.Frag} {mg : Str → Option Value} {base : Heap}
theorem Fun.ok {x qual : Str} {st : Stmt} {f : Addr} {fd : FuncData} {N ps : List Str} {k : Nat} {sp : Sp} (F : Fun K x qual st f fd) (S : FnScope N ps (defScope st)) (len : ∀ vs H Q E, sp vs H Q E → vs.length = ps.length)
    (hbody : ∀ (cdv : Value) (A : Around) (outer : List Env) (s : Shared) (H : Hp) (vs : List V) (Q : VK) (E : XK), Room k (A.deeper (envOfC qual (defScope st) s.heap.objs.size f cdv)) → sp vs H Q E →
      ∃ t, PSs (cxOf CX0 P w K mg base N qual (defScope st) f cdv A outer s H E).nox (defBody st) t ∧ t { nx := fun _ H' => Q .non H', rt := Q } (start N vs) H) : FnOk P w K mg base CX0 (k + 1) f fd ps sp := by
  obtain ⟨oc, od, kV, doc, pm, an, cdv, ct, osl, rfl, lk, hcd⟩ := F.ex
  refine fn_of lk hcd S len fun A outer s H vs Q E hr hsp => ?_
  obtain ⟨t, h, q⟩ := hbody cdv A outer s H vs Q E hr hsp
  exact ⟨t, h.nox, q⟩
theorem Fun.binds {x qual : Str} {st : Stmt} {f : Addr} {fd : FuncData} {ps : List Str} (F : Fun K x qual st f fd)
    (h : ∀ (kV doc pm : Value) (an : Option Addr) (cdv ct : Value) (us : List Value), us.length = ps.length → bindArgs (PySem.W.fnOf x qual (defArgs st) (defBody st) (defScope st) .none kV doc pm an cdv ct) ⟨us, []⟩ = pure (ps.zip us)) : Binds K fd ps [] := by
  obtain ⟨oc, od, kV, doc, pm, an, cdv, ct, osl, rfl, lk, hcd⟩ := F.ex
  exact .all (h kV doc pm an cdv ct)
theorem fun_mk {x qual : Str} {st : Stmt} {f : Addr} {oc : Value} {od an : Option Addr} {osl : Array (Option Value)} {kV doc pm cdv ct : Value} (l : K.lookup f = some ⟨oc, od, .func (PySem.W.fnOf x qual (defArgs st) (defBody st) (defScope st) .none kV doc pm an cdv ct), osl⟩)
    (c : PySem.W.codeIn K cdv qual = true) (k : PySem.W.keepIn K (.ref f) = true) : Fun K x qual st f (PySem.W.fnOf x qual (defArgs st) (defBody st) (defScope st) .none kV doc pm an cdv ct) := ⟨⟨oc, od, kV, doc, pm, an, cdv, ct, osl, rfl, l, c⟩, k⟩
end
section
variable {X : Cx}
theorem pv (i : Nat) {x : Str} {pos : Pos} (hN : X.N[i]? = some x := by rfl) (hv : Vis X.env.scope x := by first | exact Or.inl rfl | exact Or.inr (Or.inl rfl) | exact Or.inr (Or.inr rfl)) (hd : (x == ("__debug__" : Str)) = false := by decide)
    (hcd : (x == ("__classdict__" : Str)) = false := by decide) : PE X (.Name x pos) (tVar i) := pe_var hN hv hd hcd
end
theorem iteF {A B : Prop} (h : B) : if false = true then A else B := by
  rw [if_neg Bool.false_ne_true]
  exact h
theorem iteT {A B : Prop} (h : A) : if true = true then A else B := by
  rw [if_pos rfl]
  exact h
theorem ite2 {c A B : Prop} [Decidable c] (h1 : c → A) (h2 : ¬ c → B) : if c then A else B := by
  by_cases h : c
  · rw [if_pos h]
    exact h1 h
  · rw [if_neg h]
    exact h2 h
def Same (H H' : Hp) : Prop := ∀ b o, H b = some o → H' b = some o
theorem Same.trans {H H1 H2 : Hp} (a : Same H H1) (b : Same H1 H2) : Same H H2 := fun c o h => b c o (a c o h)
theorem Same.free {H H' : Hp} (e : Same H H') {l : Addr} (h : H' l = Option.none) : H l = Option.none := by
  cases q : H l with
  | none => rfl
  | some o =>
    rw [e l o q] at h
    cases h
theorem Same.seq {K : PySem.W.Frag} {H H' : Hp} {a : Addr} {xs : List V} (e : Same H H') (h : SqL K H a xs) : SqL K H' a xs := by
  rcases h with (h | ⟨o, h⟩) | h
  · exact .inl (.inl (e _ _ h))
  · exact .inl (.inr ⟨o, e _ _ h⟩)
  · exact .inr h
section
variable {κ : Type} [DecidableEq κ]
end
theorem nd_ix {α : Type} {l : List α} (hN : l.Nodup) {i j : Nat} {x : α} (a : l[i]? = some x) (b : l[j]? = some x) : i = j := by
  obtain ⟨h1, e1⟩ := List.getElem?_eq_some_iff.mp a
  obtain ⟨h2, e2⟩ := List.getElem?_eq_some_iff.mp b
  exact (List.getElem_inj hN).mp (e1.trans e2.symm)
theorem Same.made {H H1 : Hp} {x dx C : Addr} (nx : H x = Option.none) (nd : H dx = Option.none) (k : ∀ b o, (upd (upd H dx (.own x)) x (.ins C dx [])) b = some o → b ≠ x → H1 b = some o) : Same H H1 := fun b o e =>
  k b o (by rw [upd_ne (ne_of_none e nx), upd_ne (ne_of_none e nd)]; exact e) (ne_of_none e nx)
end L2
section
set_option Elab.async false
set_option linter.all false
set_option maxRecDepth 100000
set_option maxHeartbeats 2000000
namespace L2
open PySem PySem.Spec PyProof.Rows
open PySem.W (WData Codec OpenSpec Well WellAll ReadsW ReadsAllW)
mutual
/-- x stands for the datum d, lists and tuples all the way -/
inductive Dw (K : PySem.W.Frag) (H : Hp) : V → WData → Prop
  | non : Dw K H .non .none
  | bl (b : Bool) : Dw K H (.bl b) (.bool b)
  | int (i : Int) : Dw K H (.int i) (.int i)
  | str (x : Str) : Dw K H (.str x) (.str x)
  | byt (b : Array UInt8) : Dw K H (.byt b) (.bytes b.toList)
  | lst {a : Addr} {xs : List V} {ds : List WData} : SqL K H a xs → DwAll K H xs ds → Dw K H (.ref a) (.list ds)
  | tup {a : Addr} {xs : List V} {ds : List WData} : SqT K H a xs → DwAll K H xs ds → Dw K H (.ref a) (.tuple ds)
inductive DwAll (K : PySem.W.Frag) (H : Hp) : List V → List WData → Prop
  | nil : DwAll K H [] []
  | cons {v : V} {vs : List V} {d : WData} {ds : List WData} : Dw K H v d → DwAll K H vs ds → DwAll K H (v :: vs) (d :: ds)
end
theorem dw_ints {K : PySem.W.Frag} {H : Hp} : ∀ ns : List Int, DwAll K H (ns.map V.int) (ns.map WData.int)
  | [] => .nil
  | n :: r => .cons (.int n) (dw_ints r)
theorem ints_dw {K : PySem.W.Frag} {H : Hp} : ∀ (ns : List Int) (xs : List V), DwAll K H xs (ns.map WData.int) → xs = ns.map V.int
  | [], xs, h => by
    cases h
    rfl
  | n :: r, xs, h => by
    cases h with
    | cons h1 h2 =>
      cases h1
      rw [ints_dw r _ h2] <;> rfl
section
variable {P : Program} {w : World} {K : PySem.W.Frag} {H : Hp} {h : Heap} {R : PySem.W.WRecords} {cl : Str → Option Addr}
theorem sqL_at {a : Addr} {xs : List V} (hok : HOk P w H h) (KX : K.In h) (q : SqL K H a xs) : ∃ (its : List Value) (o : Obj) (n : Nat), Vals xs its ∧ h.get? a = some o ∧ o.cls = .type "list" ∧ o.data = .seq its.toArray n := by
  rcases q with q | ⟨o, its, n, e, hc, _, hd, _, hv⟩
  · obtain ⟨_, its, n, hv, e⟩ := (show ObjOk P w H h a (.lst xs) from q.ok hok)
    exact ⟨its, _, n, hv, e, rfl, rfl⟩
  · exact ⟨its.toList, o, n, hv, KX _ _ e, hc, by simp [hd]⟩
theorem sqT_at {a : Addr} {xs : List V} (hok : HOk P w H h) (KX : K.In h) (q : SqT K H a xs) : ∃ (its : List Value) (o : Obj) (n : Nat), Vals xs its ∧ h.get? a = some o ∧ o.cls = .type "tuple" ∧ o.data = .seq its.toArray n := by
  rcases q with q | ⟨o, its, n, e, hc, hd, _, hv⟩
  · obtain ⟨_, its, hv, o, e, hc, n, hd⟩ := (show ObjOk P w H h a (.tup xs) from q.ok hok)
    exact ⟨its, o, n, hv, e, hc, hd⟩
  · exact ⟨its.toList, o, n, hv, KX _ _ e, hc, by simp [hd]⟩
mutual
theorem Dw.reads (hok : HOk P w H h) (KX : K.In h) : ∀ (d : WData) (v : V) (u : Value), Dw K H v d → RelV v u → ∃ as, ReadsW R cl h u d as
  | .none, _, _, x, r => by
    cases x
    cases r
    exact ⟨_, ReadsW.none⟩
  | .bool b, _, _, x, r => by
    cases x
    cases r
    exact ⟨_, ReadsW.bool b⟩
  | .int i, _, _, x, r => by
    cases x
    obtain ⟨t, rfl⟩ := r
    exact ⟨_, ReadsW.int i t⟩
  | .str s, _, _, x, r => by
    cases x
    obtain ⟨t, rfl⟩ := r
    exact ⟨_, ReadsW.str s t⟩
  | .bytes b, _, _, x, r => by
    cases x
    obtain ⟨t, rfl⟩ := r
    exact ⟨_, ReadsW.bytes _ t⟩
  | .list ds, _, _, x, r => by
    cases x with
    | lst hs ha =>
      cases r
      obtain ⟨its, o, n, rv, ho, hc, hd⟩ := sqL_at hok KX hs
      obtain ⟨as, hr⟩ := Dw.readsAll hok KX ds _ its ha rv
      exact ⟨_, ReadsW.list ho hc hd hr⟩
  | .tuple ds, _, _, x, r => by
    cases x with
    | tup hs ha =>
      cases r
      obtain ⟨its, o, n, rv, ho, hc, hd⟩ := sqT_at hok KX hs
      obtain ⟨as, hr⟩ := Dw.readsAll hok KX ds _ its ha rv
      exact ⟨_, ReadsW.tuple ho hc hd hr⟩
  | .float _, _, _, x, _ => by cases x
  | .dict _, _, _, x, _ => by cases x
  | .bytearray _, _, _, x, _ => by cases x
  | .set _, _, _, x, _ => by cases x
  | .frozenset _, _, _, x, _ => by cases x
  | .obj _ _, _, _, x, _ => by cases x
theorem Dw.readsAll (hok : HOk P w H h) (KX : K.In h) : ∀ (ds : List WData) (vs : List V) (us : List Value), DwAll K H vs ds → Vals vs us → ∃ as, ReadsAllW R cl h us ds as
  | [], _, _, x, r => by
    cases x
    cases r
    exact ⟨_, ReadsAllW.nil⟩
  | d :: ds, _, _, x, r => by
    cases x with
    | cons h1 h2 =>
      cases r with
      | cons r1 r2 =>
        obtain ⟨as, q1⟩ := Dw.reads hok KX d _ _ h1 r1
        obtain ⟨bs, q2⟩ := Dw.readsAll hok KX ds _ _ h2 r2
        exact ⟨_, ReadsAllW.cons q1 q2⟩
end
end
mutual
/-- data that a codec tells -/
def plW : WData → Bool
  | .none => true
  | .bool _ => true
  | .int _ => true
  | .str _ => true
  | .bytes _ => true
  | .list xs => plWs xs
  | .tuple xs => plWs xs
  | _ => false
def plWs : List WData → Bool
  | [] => true
  | x :: r => plW x && plWs r
end
theorem plWs_map {α : Type} {f : α → WData} (h : ∀ a, plW (f a) = true) : ∀ l : List α, plWs (l.map f) = true
  | [] => rfl
  | x :: r => by
    show (plW (f x) && plWs (r.map f)) = true
    rw [h x, plWs_map h r] <;> rfl
theorem pl_enc : ∀ (c : Codec) (a : c.denote), plW (c.enc a) = true
  | .unit, _ => rfl
  | .bool, _ => rfl
  | .int _ _, _ => rfl
  | .nat _ _, _ => rfl
  | .u8, _ => rfl
  | .bytes _ _, _ => rfl
  | .text _ _ _ _, _ => rfl
  | .list _ _ c, a => plWs_map (fun x => pl_enc c x) a
  | .pair c d, a => by
    show (plW (c.enc a.1) && (plW (d.enc a.2) && true)) = true
    rw [pl_enc c a.1, pl_enc d a.2] <;> rfl
  | .triple c d e, a => by
    show (plW (c.enc a.1) && (plW (d.enc a.2.1) && (plW (e.enc a.2.2) && true))) = true
    rw [pl_enc c a.1, pl_enc d a.2.1, pl_enc e a.2.2] <;> rfl
  | .option c, none => rfl
  | .option c, some x => pl_enc c x
theorem pl_encAll : ∀ (cs : List Codec) (a : Codec.denoteAll cs), plWs (Codec.encAll cs a) = true
  | [], _ => rfl
  | c :: cs, a => by
    show (plW (c.enc a.1) && plWs (Codec.encAll cs a.2)) = true
    rw [pl_enc c a.1, pl_encAll cs a.2] <;> rfl
theorem weight_mem : ∀ {xs : List WData} {d : WData}, d ∈ xs → d.weight ≤ WData.weightAll xs
  | [], d, h => absurd h (by simp)
  | x :: r, d, h => by
    show d.weight ≤ x.weight + 1 + WData.weightAll r
    rcases List.mem_cons.mp h with e | m
    · rw [e]
      omega
    · have z := weight_mem m
      omega
def toV : Value → V
  | .none => .non
  | .bool b => .bl b
  | .int i _ => .int i
  | .str x _ => .str x
  | .bytes b _ => .byt b
  | .ref a => .ref a
  | _ => .non
def OkU (A : List Addr) : Value → Prop
  | .none => True
  | .bool _ => True
  | .int _ _ => True
  | .str _ _ => True
  | .bytes _ _ => True
  | .ref a => a ∈ A
  | _ => False
theorem OkU.mono {A B : List Addr} (h : ∀ a ∈ A, a ∈ B) : ∀ {u : Value}, OkU A u → OkU B u := fun {u} x => by
  cases u with
  | ref a => exact h a x
  | none => trivial
  | bool b => trivial
  | int i t => trivial
  | str s t => trivial
  | bytes b t => trivial
  | _ => exact False.elim x
theorem relV_toV {A : List Addr} {u : Value} (x : OkU A u) : RelV (toV u) u := by
  cases u with
  | ref a => rfl
  | none => rfl
  | bool b => rfl
  | int i t => exact ⟨t, rfl⟩
  | str s t => exact ⟨t, rfl⟩
  | bytes b t => exact ⟨t, rfl⟩
  | _ => exact False.elim x
theorem vals_toV {A : List Addr} : ∀ {vs : List Value}, (∀ u ∈ vs, OkU A u) → Vals (vs.map toV) vs
  | [], _ => .nil
  | u :: r, h => .cons (relV_toV (h u (List.mem_cons_self ..))) (vals_toV fun x hx => h x (List.mem_cons_of_mem _ hx))
def ArgOb (h : Heap) (A : List Addr) (a : Addr) : Prop := ∃ vs : List Value, vs.length ≤ sizeLine ∧ (∀ u ∈ vs, OkU A u) ∧
  (h.get? a = some { cls := .type "list", data := .seq vs.toArray } ∨ h.get? a = some { cls := .type "tuple", data := .seq vs.toArray })
theorem ArgOb.mono {h : Heap} {A B : List Addr} {a : Addr} (k : ∀ a ∈ A, a ∈ B) (x : ArgOb h A a) : ArgOb h B a := by
  obtain ⟨vs, h1, h2, h3⟩ := x
  exact ⟨vs, h1, fun u hu => (h2 u hu).mono k, h3⟩
theorem wellAll_len {P : Params} {h : Heap} : ∀ {vs : List Value} {ds : List WData}, WellAll P h vs ds → vs.length = ds.length
  | _, _, .nil => rfl
  | _, _, .cons _ b => by
    show _ + 1 = _ + 1
    rw [wellAll_len b]
theorem well_list {P : Params} {h : Heap} {v : Value} {ds : List WData} (x : Well P h v (.list ds)) : ∃ (a : Addr) (vs : List Value), v = .ref a ∧ h.get? a = some { cls := .type "list", data := .seq vs.toArray } ∧ WellAll P h vs ds := by
  cases x with
  | list ho hall => exact ⟨_, _, rfl, ho, hall⟩
theorem well_tuple {P : Params} {h : Heap} {v : Value} {ds : List WData} (x : Well P h v (.tuple ds)) : ∃ (a : Addr) (vs : List Value), v = .ref a ∧ h.get? a = some { cls := .type "tuple", data := .seq vs.toArray } ∧ WellAll P h vs ds := by
  cases x with
  | tuple ho hall => exact ⟨_, _, rfl, ho, hall⟩
theorem well_cons {P : Params} {h : Heap} {us : List Value} {d : WData} {ds : List WData} (x : WellAll P h us (d :: ds)) : ∃ (v : Value) (vs : List Value), us = v :: vs ∧ Well P h v d ∧ WellAll P h vs ds := by
  cases x with
  | cons a b => exact ⟨_, _, rfl, a, b⟩
theorem line_of {n : Nat} (h : n ≤ 1048576) : n ≤ sizeLine := Nat.le_trans h (by decide)
section
variable {P : Params} {h : Heap}
mutual
theorem area_one : ∀ (d : WData) (v : Value), Well P h v d → plW d = true → d.weight ≤ 1048576 → ∃ A : List Addr, OkU A v ∧ ∀ a ∈ A, ArgOb h A a
  | .none, _, x, _, _ => by
    cases x
    exact ⟨[], trivial, fun a m => absurd m (by simp)⟩
  | .bool b, _, x, _, _ => by
    cases x
    exact ⟨[], trivial, fun a m => absurd m (by simp)⟩
  | .int i, _, x, _, _ => by
    cases x
    exact ⟨[], trivial, fun a m => absurd m (by simp)⟩
  | .str s, _, x, _, _ => by
    cases x
    exact ⟨[], trivial, fun a m => absurd m (by simp)⟩
  | .bytes b, _, x, _, _ => by
    cases x
    exact ⟨[], trivial, fun a m => absurd m (by simp)⟩
  | .list ds, _, x, p, z => by
    obtain ⟨a, vs, rfl, ho, hall⟩ := well_list x
    have z2 : WData.weightAll ds ≤ 1048576 := z
    obtain ⟨A, h1, h2⟩ := area_all ds _ hall p fun d hd => Nat.le_trans (weight_mem hd) z2
    have k : ∀ b ∈ A, b ∈ a :: A := fun b hb => List.mem_cons_of_mem _ hb
    refine ⟨a :: A, List.mem_cons_self .., fun b hb => ?_⟩
    rcases List.mem_cons.mp hb with e | m
    · rw [e]
      exact ⟨vs, line_of (by rw [wellAll_len hall]; exact Nat.le_trans (PySem.W.length_le_weightAllW ds) z2), fun u hu => (h1 u hu).mono k, .inl ho⟩
    · exact (h2 b m).mono k
  | .tuple ds, _, x, p, z => by
    obtain ⟨a, vs, rfl, ho, hall⟩ := well_tuple x
    have z2 : WData.weightAll ds ≤ 1048576 := z
    obtain ⟨A, h1, h2⟩ := area_all ds _ hall p fun d hd => Nat.le_trans (weight_mem hd) z2
    have k : ∀ b ∈ A, b ∈ a :: A := fun b hb => List.mem_cons_of_mem _ hb
    refine ⟨a :: A, List.mem_cons_self .., fun b hb => ?_⟩
    rcases List.mem_cons.mp hb with e | m
    · rw [e]
      exact ⟨vs, line_of (by rw [wellAll_len hall]; exact Nat.le_trans (PySem.W.length_le_weightAllW ds) z2), fun u hu => (h1 u hu).mono k, .inr ho⟩
    · exact (h2 b m).mono k
  | .float _, _, _, p, _ => Bool.noConfusion (show false = true from p)
  | .dict _, _, _, p, _ => Bool.noConfusion (show false = true from p)
  | .bytearray _, _, _, p, _ => Bool.noConfusion (show false = true from p)
  | .set _, _, _, p, _ => Bool.noConfusion (show false = true from p)
  | .frozenset _, _, _, p, _ => Bool.noConfusion (show false = true from p)
  | .obj _ _, _, _, p, _ => Bool.noConfusion (show false = true from p)
theorem area_all : ∀ (ds : List WData) (vs : List Value), WellAll P h vs ds → plWs ds = true → (∀ d ∈ ds, d.weight ≤ 1048576) → ∃ A : List Addr, (∀ u ∈ vs, OkU A u) ∧ ∀ a ∈ A, ArgOb h A a
  | [], _, x, _, _ => by
    cases x
    exact ⟨[], fun u m => absurd m (by simp), fun a m => absurd m (by simp)⟩
  | d :: ds, _, x, p, z => by
    obtain ⟨v, vs, rfl, x1, x2⟩ := well_cons x
    have q : plW d = true ∧ plWs ds = true := Bool.and_eq_true_iff.mp p
    obtain ⟨A, a1, a2⟩ := area_one d v x1 q.1 (z d (List.mem_cons_self ..))
    obtain ⟨B, b1, b2⟩ := area_all ds vs x2 q.2 fun e he => z e (List.mem_cons_of_mem _ he)
    have kA : ∀ b ∈ A, b ∈ A ++ B := fun b hb => List.mem_append.mpr (.inl hb)
    have kB : ∀ b ∈ B, b ∈ A ++ B := fun b hb => List.mem_append.mpr (.inr hb)
    refine ⟨A ++ B, fun u hu => ?_, fun b hb => ?_⟩
    · rcases List.mem_cons.mp hu with e | m
      · rw [e]
        exact a1.mono kA
      · exact (b1 u m).mono kB
    · rcases List.mem_append.mp hb with m | m
      · exact (a2 b m).mono kA
      · exact (b2 b m).mono kB
end
end
def hoOf (o : Obj) : Option HO := match o.data with
  | .seq vs _ => if (o.cls == Value.type "list") = true then some (.frz o (.lst (vs.toList.map toV))) else some (.frz o (.tup (vs.toList.map toV)))
  | _ => none
def argH (K : PySem.W.Frag) (h : Heap) (A : List Addr) : Hp := fun b => if b ∈ A then (if (K.lookup b).isNone = true then (h.get? b).bind hoOf else none) else none
def OnlyF (H : Hp) : Prop := ∀ b, H b = none ∨ ∃ o u, H b = some (.frz o u)
theorem hoOf_lst (vs : List Value) : hoOf { cls := .type "list", data := .seq vs.toArray } = some (.frz { cls := .type "list", data := .seq vs.toArray } (.lst (vs.map toV))) := by
  show (if (Value.type "list" == Value.type "list") = true then some (HO.frz { cls := .type "list", data := .seq vs.toArray } (.lst (vs.toArray.toList.map toV))) else some (HO.frz { cls := .type "list", data := .seq vs.toArray } (.tup (vs.toArray.toList.map toV)))) = _
  rw [if_pos (beq_self_eq_true _)]
theorem hoOf_tup (vs : List Value) : hoOf { cls := .type "tuple", data := .seq vs.toArray } = some (.frz { cls := .type "tuple", data := .seq vs.toArray } (.tup (vs.map toV))) := by
  show (if (Value.type "tuple" == Value.type "list") = true then some (HO.frz { cls := .type "tuple", data := .seq vs.toArray } (.lst (vs.toArray.toList.map toV))) else some (HO.frz { cls := .type "tuple", data := .seq vs.toArray } (.tup (vs.toArray.toList.map toV)))) = _
  rw [if_neg (by decide)]
section
variable {P : Program} {w : World} {K : PySem.W.Frag} {h : Heap} {A : List Addr}
theorem argH_at {b : Addr} {o : Obj} (hb : b ∈ A) (hk : K.lookup b = none) (e : h.get? b = some o) : argH K h A b = hoOf o := by
  unfold argH
  rw [if_pos hb, hk, if_pos (show (none : Option Obj).isNone = true from rfl), e] <;> rfl
theorem of_argH {b : Addr} {u : HO} (q : argH K h A b = some u) : b ∈ A ∧ K.lookup b = none := by
  unfold argH at q
  by_cases hb : b ∈ A
  · rw [if_pos hb] at q
    cases hk : K.lookup b with
    | none => exact ⟨hb, rfl⟩
    | some o =>
      rw [hk, if_neg (by simp)] at q
      cases q
  · rw [if_neg hb] at q
    cases q
theorem argH_is (ar : ∀ a ∈ A, ArgOb h A a) {b : Addr} {u : HO} (q : argH K h A b = some u) : K.lookup b = none ∧ ∃ vs : List Value, vs.length ≤ sizeLine ∧ (∀ u ∈ vs, OkU A u) ∧
    ((h.get? b = some { cls := .type "list", data := .seq vs.toArray } ∧ u = .frz { cls := .type "list", data := .seq vs.toArray } (.lst (vs.map toV))) ∨
     (h.get? b = some { cls := .type "tuple", data := .seq vs.toArray } ∧ u = .frz { cls := .type "tuple", data := .seq vs.toArray } (.tup (vs.map toV)))) := by
  obtain ⟨hb, hk⟩ := of_argH q
  obtain ⟨vs, h1, h2, h3⟩ := ar b hb
  refine ⟨hk, vs, h1, h2, ?_⟩
  rcases h3 with e | e
  · rw [argH_at hb hk e, hoOf_lst] at q
    exact .inl ⟨e, (Option.some.inj q).symm⟩
  · rw [argH_at hb hk e, hoOf_tup] at q
    exact .inr ⟨e, (Option.some.inj q).symm⟩
theorem argH_only (ar : ∀ a ∈ A, ArgOb h A a) : OnlyF (argH K h A) := fun b => by
  cases q : argH K h A b with
  | none => exact .inl rfl
  | some u =>
    obtain ⟨_, vs, _, _, ⟨_, e⟩ | ⟨_, e⟩⟩ := argH_is ar q
    · exact .inr ⟨_, _, by rw [e]⟩
    · exact .inr ⟨_, _, by rw [e]⟩
theorem argH_ok (ar : ∀ a ∈ A, ArgOb h A a) : HOk P w (argH K h A) h := fun b u q => by
  obtain ⟨_, vs, h1, h2, ⟨e, rfl⟩ | ⟨e, rfl⟩⟩ := argH_is ar q
  · exact ⟨e, by rw [List.length_map]; exact h1, vs, _, vals_toV h2, e⟩
  · exact ⟨e, by rw [List.length_map]; exact h1, vs, vals_toV h2, _, e, rfl, _, rfl⟩
theorem seq_inj {c c' : Value} {vs us : List Value} (e : (some { cls := c, data := .seq vs.toArray } : Option Obj) = some { cls := c', data := .seq us.toArray }) : c = c' ∧ vs = us := by
  have e1 := Option.some.inj e
  have e2 : c = c' := congrArg Obj.cls e1
  have e3 : Data.seq vs.toArray = Data.seq us.toArray := congrArg Obj.data e1
  injection e3 with e4
  refine ⟨e2, ?_⟩
  have e5 := congrArg Array.toList e4
  simpa using e5
theorem argL (KX : K.In h) (ar : ∀ a ∈ A, ArgOb h A a) {a : Addr} {vs : List Value} (ha : a ∈ A) (e : h.get? a = some { cls := .type "list", data := .seq vs.toArray }) : (∀ u ∈ vs, OkU A u) ∧ SqL K (argH K h A) a (vs.map toV) := by
  obtain ⟨us, h1, h2, h3⟩ := ar a ha
  have hu : us = vs := by
    rcases h3 with q | q
    · rw [e] at q
      exact (seq_inj q).2.symm
    · rw [e] at q
      exact absurd (Value.type.inj (seq_inj q).1) (by decide)
  subst hu
  refine ⟨h2, ?_⟩
  cases hk : K.lookup a with
  | none => exact .inl (.inr ⟨_, by rw [argH_at ha hk e, hoOf_lst]⟩)
  | some o =>
    have e2 := KX a o hk
    rw [e] at e2
    obtain rfl := Option.some.inj e2
    exact .inr ⟨_, us.toArray, _, hk, rfl, rfl, rfl, by rw [List.size_toArray]; exact h1, by simpa using vals_toV h2⟩
theorem argT (KX : K.In h) (ar : ∀ a ∈ A, ArgOb h A a) {a : Addr} {vs : List Value} (ha : a ∈ A) (e : h.get? a = some { cls := .type "tuple", data := .seq vs.toArray }) : (∀ u ∈ vs, OkU A u) ∧ SqT K (argH K h A) a (vs.map toV) := by
  obtain ⟨us, h1, h2, h3⟩ := ar a ha
  have hu : us = vs := by
    rcases h3 with q | q
    · rw [e] at q
      exact absurd (Value.type.inj (seq_inj q).1) (by decide)
    · rw [e] at q
      exact (seq_inj q).2.symm
  subst hu
  refine ⟨h2, ?_⟩
  cases hk : K.lookup a with
  | none => exact .inl (.inr ⟨_, by rw [argH_at ha hk e, hoOf_tup]⟩)
  | some o =>
    have e2 := KX a o hk
    rw [e] at e2
    obtain rfl := Option.some.inj e2
    exact .inr ⟨_, us.toArray, _, hk, rfl, rfl, by rw [List.size_toArray]; exact h1, by simpa using vals_toV h2⟩
mutual
theorem dw_one {Pm : Params} (KX : K.In h) (ar : ∀ a ∈ A, ArgOb h A a) : ∀ (d : WData) (v : Value), Well Pm h v d → plW d = true → OkU A v → Dw K (argH K h A) (toV v) d
  | .none, _, x, _, _ => by
    cases x
    exact .non
  | .bool b, _, x, _, _ => by
    cases x
    exact .bl b
  | .int i, _, x, _, _ => by
    cases x
    exact .int i
  | .str s, _, x, _, _ => by
    cases x
    exact .str s
  | .bytes b, _, x, _, _ => by
    cases x
    have z := Dw.byt (K := K) (H := argH K h A) b.toArray
    exact z
  | .list ds, _, x, p, hu => by
    obtain ⟨a, vs, rfl, ho, hall⟩ := well_list x
    obtain ⟨h2, hs⟩ := argL KX ar hu ho
    exact .lst hs (dw_all KX ar ds _ hall p h2)
  | .tuple ds, _, x, p, hu => by
    obtain ⟨a, vs, rfl, ho, hall⟩ := well_tuple x
    obtain ⟨h2, hs⟩ := argT KX ar hu ho
    exact .tup hs (dw_all KX ar ds _ hall p h2)
  | .float _, _, _, p, _ => Bool.noConfusion (show false = true from p)
  | .dict _, _, _, p, _ => Bool.noConfusion (show false = true from p)
  | .bytearray _, _, _, p, _ => Bool.noConfusion (show false = true from p)
  | .set _, _, _, p, _ => Bool.noConfusion (show false = true from p)
  | .frozenset _, _, _, p, _ => Bool.noConfusion (show false = true from p)
  | .obj _ _, _, _, p, _ => Bool.noConfusion (show false = true from p)
theorem dw_all {Pm : Params} (KX : K.In h) (ar : ∀ a ∈ A, ArgOb h A a) : ∀ (ds : List WData) (vs : List Value), WellAll Pm h vs ds → plWs ds = true → (∀ u ∈ vs, OkU A u) → DwAll K (argH K h A) (vs.map toV) ds
  | [], _, x, _, _ => by
    cases x
    exact .nil
  | d :: ds, _, x, p, hu => by
    obtain ⟨v, vs, rfl, x1, x2⟩ := well_cons x
    have q : plW d = true ∧ plWs ds = true := Bool.and_eq_true_iff.mp p
    exact .cons (dw_one KX ar d v x1 q.1 (hu _ (List.mem_cons_self ..))) (dw_all KX ar ds vs x2 q.2 fun u m => hu u (List.mem_cons_of_mem _ m))
end
end
theorem spec_call {P : Program} {w : World} {K : PySem.W.Frag} {mg mb : Str → Option Value} {CX : CXT} {k : Nat} {fa : Addr} {fd : FuncData} {ps : List Str} {sp : Sp} {s₁ : Shared} {vals : List Value} {ds : List WData} {R : PySem.W.WRecords} {cl : Str → Option Addr} {d0 : WData}
    (KX : K.In s₁.heap) (hns : s₁.heap.Ns mainGlobals mg) (hb : s₁.heap.Ns builtinsNs mb) (hbb : ∀ x : Str, x ≠ "__name__" → mb x = bootBuiltins x) (hlim : s₁.heap.NoLimit) (hg : s₁.gens = #[])
    (hwl : WellAll w.params s₁.heap vals ds) (hpl : plWs ds = true) (hwt : ∀ d ∈ ds, d.weight ≤ 1048576) (hr : Room k callerA)
    (F : ∀ base : Heap, K.In base → base.Ns mainGlobals mg → FnOk P w K mg base CX k fa fd ps sp) (hbind : ∀ (s : Shared) (us : List Value), us.length = ps.length → BindsTo s fd ⟨us, []⟩ (ps.zip us)) (hlen : ds.length = ps.length)
    (hsp : ∀ (H : Hp) (xs : List V), OnlyF H → DwAll K H xs ds → sp xs H (fun v H' => Dw K H' v d0) fun _ _ _ => False)
    (hCX : ∀ H e s', CX [] H s₁ (fun _ _ _ => False) e s' → False) :
    codeAny (model P w) callerA (.call (.ref fa) ⟨vals, []⟩) (fun r s' => ∃ u as, r = .ok (.ret u) ∧ ReadsW R cl s'.heap u d0 as ∧ OldK s₁.heap s'.heap ∧ s'.os = s₁.os ∧ AllBare s'.gens) s₁ := by
  obtain ⟨A, ho, ar⟩ := area_all ds vals hwl hpl hwt
  have hO : OnlyF (argH K s₁.heap A) := argH_only ar
  have hok : HOk P w (argH K s₁.heap A) s₁.heap := argH_ok ar
  have hS := dw_all KX ar ds vals hwl hpl ho
  have hV := vals_toV ho
  have hK : ∀ b u, argH K s₁.heap A b = some u → K.lookup b = none := fun b u q => (argH_is ar q).1
  have noA : ∀ {b : Addr} {o : Obj} {es : Array DictEntry} {ep : Nat}, s₁.heap.get? b = some o → o.data = .dict es ep → argH K s₁.heap A b = none := fun {b o es ep} e d => by
    cases q : argH K s₁.heap A b with
    | none => rfl
    | some u =>
      obtain ⟨_, vs, _, _, ⟨e2, _⟩ | ⟨e2, _⟩⟩ := argH_is ar q
      · rw [e2] at e
        cases e
        have d' : Data.seq vs.toArray _ = Data.dict es ep := d
        cases d'
      · rw [e2] at e
        cases e
        have d' : Data.seq vs.toArray _ = Data.dict es ep := d
        cases d'
  generalize argH K s₁.heap A = H at hO hok hS hK noA
  have base_of : ∀ {b : Addr} {o : Obj}, s₁.heap.get? b = some o → H b = none → (hidT s₁.heap H).get? b = some o := fun e n => hidT_get e n
  have nsK : ∀ {b : Addr} {m : Str → Option Value}, s₁.heap.Ns b m → (hidT s₁.heap H).Ns b m := fun {b m} ⟨o, es, ep, e, d, r⟩ => ⟨o, es, ep, base_of e (noA e d), d, r⟩
  have nK : ∀ b o, K.lookup b = some o → H b = none := fun b o e => by
    cases q : H b with
    | none => rfl
    | some u =>
      rw [hK b u q] at e
      cases e
  have hKb : K.In (hidT s₁.heap H) := fun b o e => base_of (KX b o e) (nK b o e)
  have hM : Mod K mg (hidT s₁.heap H) := ⟨hKb, nsK hns, ⟨mb, nsK hb, hbb⟩, let ⟨mc, h1, h2⟩ := hlim; ⟨mc, nsK h1, h2⟩⟩
  have e0 : Env0 P w K mg (hidT s₁.heap H) callerA [] s₁ H := ⟨rfl, hM, fun b o e => of_hidT e, Nat.le_of_eq (hidT_size _ _), trivial, fun b hb => absurd (show b ∈ ([] : List Addr) from hb) (by simp), hok, .of_eq hg⟩
  have hl : vals.length = ps.length := by rw [wellAll_len hwl]; exact hlen
  refine codeAny_mono ((F _ hKb (nsK hns)).run callerA [] s₁ H ⟨vals, []⟩ vals (vals.map toV) _ _ hr e0 (hbind s₁ vals hl) hV (hsp H _ hO hS)) fun r s' x => ?_
  cases r with
  | error e => exact (hCX H e s' x).elim
  | ok fl =>
    cases fl with
    | next => exact False.elim x
    | brk => exact False.elim x
    | cont => exact False.elim x
    | ret u =>
      obtain ⟨v, H', os, bare, un, hok', r', q⟩ := x
      have kept : ∀ b o, s₁.heap.get? b = some o → s'.heap.get? b = some o := fun b o e => by
        cases q2 : H b with
        | none => exact un.keep b o e q2 (by intro z; exact absurd (show b ∈ ([] : List Addr) from z) (by simp)) (by simp)
        | some u2 =>
          rcases hO b with z | ⟨ob, u3, z⟩
          · rw [q2] at z
            cases z
          · have z2 := un.frzs b ob _ z
            obtain ⟨e1, _⟩ := hok b _ z
            obtain ⟨e2, _⟩ := hok' b _ z2
            rw [e] at e1
            cases e1
            exact e2
      have KX' : K.In s'.heap := fun b o e => kept b o (KX b o e)
      obtain ⟨as, hrd⟩ := Dw.reads (R := R) (cl := cl) hok' KX' d0 v u q r'
      exact ⟨u, as, rfl, hrd, OldK.of_keep kept, os, bare⟩
theorem layable_weight {ds : List WData} (h : WData.layableAll ds = true) : ∀ d ∈ ds, d.weight ≤ 1048576 := fun d hd =>
  (PySem.W.layableW_iff.mp (List.all_eq_true.mp h d hd)).2.2
theorem encAll_len : ∀ (cs : List Codec) (a : Codec.denoteAll cs), (Codec.encAll cs a).length = cs.length
  | [], _ => rfl
  | c :: cs, a => by
    show (Codec.encAll cs a.2).length + 1 = cs.length + 1
    rw [encAll_len cs a.2]
theorem walk_spec {r : OpenSpec} {k : Nat} {q : Program} {loose : List Str} {XP : (Str → Option Value) → Heap → Prop} {YP : World → Heap → Prop} {d : DefRec} {K : Params → PySem.W.Frag} {CX : World → CXT} {ps : List Str} {sp : World → Sp}
    (hwell : r.wellSaid = true) (hdf : d.params.defaults = []) (hlen : r.args.length = ps.length) (hr : Room k callerA)
    (hY : ∀ (w : World) (h : Heap), YP w h → (K w.params).In h)
    (F : ∀ (w : World) (mg : Str → Option Value) (fa : Addr) (h : Heap), YP w h → (K w.params).In h → h.Ns mainGlobals mg → mg d.name = some (.ref fa) →
      ∃ fd : FuncData, (∀ (s : Shared) (us : List Value), us.length = ps.length → BindsTo s fd ⟨us, []⟩ (ps.zip us)) ∧
        ∀ base : Heap, (K w.params).In base → base.Ns mainGlobals mg → FnOk r.prog w (K w.params) mg base (CX w) k fa fd ps (sp w))
    (hsp : ∀ (w : World) (H : Hp) (xs : List V) (a : Codec.denoteAll r.args), OnlyF H → Codec.withinAll r.args a = true → Codec.app r.args r.asked a = true → DwAll (K w.params) H xs (Codec.encAll r.args a) →
      sp w xs H (fun v H' => Dw (K w.params) H' v (r.ret.enc (Codec.app r.args r.f a))) fun _ _ _ => False)
    (hCX : ∀ (w : World) (H : Hp) (s : Shared) (e : Value) (s' : Shared), CX w [] H s (fun _ _ _ => False) e s' → False) :
    PySem.W.WalkOS q loose XP YP r d [] (fun f vs => PySem.call f vs) := by
  intro w s_0 s₁ mg mb G Y fa o pm cd doc dV kV ho hd hcd hD hmg hg args vals as hpre hlay hrd hwl hlo
  obtain ⟨a, e1, e2⟩ := PySem.W.os_pre_some hpre
  obtain ⟨e3, hwi⟩ := Codec.encAll_of_decAll r.args args a e1
  subst e3
  have KX := hY w _ Y
  obtain ⟨fd, hb, hF⟩ := F w mg fa _ Y KX G.T.g hmg
  refine PySem.W.enter_call (codeAny_mono (spec_call (R := []) (cl := classAt s_0.heap) (d0 := r.ret.enc (Codec.app r.args r.f a)) KX G.T.g G.T.b G.T.builtins G.T.nolimit hg hwl (pl_encAll _ _) (layable_weight hlay) hr hF hb (by rw [encAll_len]; exact hlen)
    (fun H xs hO hS => hsp w H xs a hO hwi e2 hS) fun H e s' => hCX w H s₁ e s') fun r' s' hq => ?_)
  obtain ⟨u, as', rfl, h1, h2, h3, h4⟩ := hq
  exact ⟨.inl ⟨u, _, as', rfl, fun _ => rfl, h1, (OpenSpec.post_iff hwell hwi _ _).mpr rfl, fun z => Bool.noConfusion (show false = true from z)⟩, h2, h3, h4⟩
theorem walk_specK {r : OpenSpec} {k : Nat} {q : Program} {loose : List Str} {XP : (Str → Option Value) → Heap → Prop} {YP : World → Heap → Prop} {d : DefRec} {K : Params → PySem.W.Frag} {CX : CXT} {ps : List Str} {sp : PySem.W.Frag → Sp}
    (hwell : r.wellSaid = true) (hdf : d.params.defaults = []) (hlen : r.args.length = ps.length) (hr : Room k callerA)
    (hY : ∀ (w : World) (h : Heap), YP w h → (K w.params).In h)
    (F : ∀ (w : World) (mg : Str → Option Value) (fa : Addr) (h : Heap), YP w h → (K w.params).In h → h.Ns mainGlobals mg → mg d.name = some (.ref fa) →
      ∃ fd : FuncData, (∀ (s : Shared) (us : List Value), us.length = ps.length → BindsTo s fd ⟨us, []⟩ (ps.zip us)) ∧
        ∀ base : Heap, (K w.params).In base → base.Ns mainGlobals mg → FnOk r.prog w (K w.params) mg base CX k fa fd ps (sp (K w.params)))
    (hsp : ∀ (K : PySem.W.Frag) (H : Hp) (xs : List V) (a : Codec.denoteAll r.args), OnlyF H → Codec.withinAll r.args a = true → Codec.app r.args r.asked a = true → DwAll K H xs (Codec.encAll r.args a) →
      sp K xs H (fun v H' => Dw K H' v (r.ret.enc (Codec.app r.args r.f a))) fun _ _ _ => False)
    (hCX : ∀ (H : Hp) (s : Shared) (e : Value) (s' : Shared), CX [] H s (fun _ _ _ => False) e s' → False) :
    PySem.W.WalkOS q loose XP YP r d [] (fun f vs => PySem.call f vs) :=
  walk_spec (K := K) (CX := fun _ => CX) (sp := fun w => sp (K w.params)) hwell hdf hlen hr hY F (fun w H xs a h1 h2 h3 h4 => hsp (K w.params) H xs a h1 h2 h3 h4) fun _ H s e s' => hCX H s e s'
end L2
-- rests on (row put in by the clerk, for the bench that shows a file only what it spells): KE.SpHead KE.OsShapes
end

set_option Elab.async false
set_option linter.all false
set_option maxRecDepth 100000
set_option maxHeartbeats 2000000
/-! Rules of my own over the hand layer: insert, count, sorted of any length, list(reversed(xs)). -/
namespace PySem
namespace AcF
theorem lri_no_len : typeLookup (.type "list_reverseiterator") "__len__" = pure none := by rw [typeLookup_type, builtinLookup_eq_fast]; kernel_rfl
theorem lri_hint : typeLookup (.type "list_reverseiterator") "__length_hint__" = pure (some (.builtin "list_reverseiterator.__length_hint__")) := by rw [typeLookup_type, builtinLookup_eq_fast]; kernel_rfl
end AcF
section
variable {prog : Program} {w : World} {A : Around} {E : Value → Shared → Prop} {s : Shared}
theorem ac_hint_rev {I l : Addr} {i : Int} {Q : Bool → Shared → Prop} (hit : s.heap.IsRevIter I l i) (h : Q false s) : wpAny (model prog w) A (Builtin.List.listLengthHint (.ref I)) Q E s := by
  unfold Builtin.List.listLengthHint
  refine wpAny_bind (wpAny_specialOf hit.typeIs AcF.lri_no_len ?_)
  show wpAny _ A (specialOf (Value.ref I) (Str.ofString "__length_hint__") >>= _) _ _ _
  refine wpAny_bind (wpAny_specialOf hit.typeIs AcF.lri_hint ?_)
  generalize hid : ("list_reverseiterator.__length_hint__" : String) = id0
  wp_delta
  rw [show splitId id0 = some ("list_reverseiterator", "__length_hint__") from by subst hid; decide +kernel]
  subst hid
  refine wpAny_bind (wpAny_isInstance (T := "list_reverseiterator") (b := true) hit.typeIs (by rw [isSubtype_type]; kernel_rfl) ?_)
  refine wpAny_ite_split (fun hab => absurd hab (by decide)) (fun _ => ?_)
  refine wpAny_ite_split (fun _ => ?_) (fun hab => absurd (by decide +kernel) hab)
  refine wpAny_ite_split (fun hab => absurd hab (by decide +kernel)) (fun _ => ?_)
  exact wpAny_pure h
/-- the list at S takes what is left of a list walked from its end -/
theorem ac_extend_rev {R : Result → Shared → Prop} {I l : Addr} {items : Array Value} (hh : A.handled = none) (hne : l ≠ I) (hit : s.heap.IsRevIter I l ((items.size : Int) - 1)) (hl : s.heap.IsList l items) (hlen : items.size ≤ sizeLine)
    (S : Addr) (res : Value) (c0 : Nat) (hSI : S ≠ I) (hSl : S ≠ l) (hS : s.heap.get? S = some { cls := .type "list", data := .seq #[] c0 })
    (hR : ∀ h' tk acc' c', (∀ b o, b ≠ S → b ≠ I → s.heap.get? b = some o → h'.get? b = some o) → h'.get? S = some { cls := .type "list", dict := none, data := .seq acc' c', slots := #[] } →
      ItemsOf (fun i v => items[items.size - 1 - i]? = some v) acc' items.size → R (.ok (.ret res)) { s with heap := h', toks := tk }) :
    wpAny (model prog w) A.in1 (Builtin.List.listExtendWith (.ref S) (.ref I) res)
      (fun fin s' => match fin with | .done f => R (.ok f) s' | .again c' => c'.quiet = true ∧ codeAny (model prog w) A c' R s') (fun e s' => R (.error e) s') s := by
  have W := (Walks.listRev (prog := prog) (w := w) (A := A.in1) hh I l hne items).toS
  have hSf : S ∉ [I, l] := fun hm => by
    rcases List.mem_cons.mp hm with e | hm
    · exact hSI e
    · exact hSl (List.mem_singleton.mp hm)
  unfold Builtin.List.listExtendWith
  refine wpAny_bind (wpAny_typeOf (T := "list_reverseiterator") hit.typeIs ?_)
  have h1 : Builtin.List.listSameRef (.ref S) (.ref I) = false := by simp [Builtin.List.listSameRef, hSI]
  have h2 : (Value.type "list_reverseiterator" == Value.type "list") = false := by decide
  have h3 : (Value.type "list_reverseiterator" == Value.type "tuple") = false := by decide
  simp only [h1, h2, h3, Bool.or_false, Bool.false_eq_true, if_false]
  refine wpAny_bind (wpAny_pyIter_revIter hit ?_)
  refine wpAny_bind (wpAny_holding (ac_hint_rev hit ?_))
  refine wpAny_ite_split (fun hab => absurd hab (by decide +kernel)) (fun _ => ?_)
  refine wpAny_pure ⟨plainId_quiet F.plain_extend_loop _, codeAny_extend_loopS W hlen S hSf res items.size 0 _ #[] c0 rfl (Nat.zero_le _) ⟨Nat.zero_le _, by simpa using hit, hl⟩ hS (ItemsOf.nil _) fun s' acc' c' hm hS' hacc => ?_⟩
  rw [Moved.eq_with hm]
  refine hR s'.heap s'.toks acc' c' (fun b o hb hb2 e => hm.heap b o (fun hmem => ?_) e) hS' hacc
  rcases List.mem_cons.mp hmem with e' | hmem
  · exact hb e'
  · exact hb2 (List.mem_singleton.mp hmem)
theorem ac_list_init_rev {R : Result → Shared → Prop} {I l : Addr} {items : Array Value} (hh : A.handled = none) (hne : l ≠ I) (hit : s.heap.IsRevIter I l ((items.size : Int) - 1)) (hl : s.heap.IsList l items) (hlen : items.size ≤ sizeLine)
    (S : Addr) (hSI : S ≠ I) (hSl : S ≠ l) (hS : s.heap.get? S = some { cls := .type "list", data := .seq #[] })
    (hR : ∀ h' tk acc' c', (∀ b o, b ≠ S → b ≠ I → s.heap.get? b = some o → h'.get? b = some o) → h'.get? S = some { cls := .type "list", dict := none, data := .seq acc' c', slots := #[] } →
      ItemsOf (fun i v => items[items.size - 1 - i]? = some v) acc' items.size → R (.ok (.ret .none)) { s with heap := h', toks := tk }) :
    wpAny (model prog w) A.in1 (Builtin.«list.__init__» ⟨[.ref S, .ref I], []⟩)
      (fun fin s' => match fin with | .done f => R (.ok f) s' | .again c' => c'.quiet = true ∧ codeAny (model prog w) A c' R s') (fun e s' => R (.error e) s') s := by
  show wpAny _ _ (do let old ← Builtin.List.listItems (.ref S); Builtin.List.listUpdate (.ref S) (fun _ => #[]); letGo old.toList.reverse; Builtin.List.listExtendWith (.ref S) (.ref I) .none) _ _ s
  refine wpAny_bind ?_
  unfold Builtin.List.listItems
  refine wpAny_bind (wpAny_seqItems hS rfl (wpAny_pure ?_))
  show wpAny _ _ (updateSeq S (fun _ => #[]) >>= fun _ => letGo (#[] : Array Value).toList.reverse >>= fun _ => Builtin.List.listExtendWith (.ref S) (.ref I) .none) _ _ s
  refine wpAny_bind (wpAny_updateSeq hS rfl ?_)
  have hS2 := Heap.get?_update_self (Obj.mapSeq (fun _ => (#[] : Array Value))) hS rfl
  have oth : ∀ b o, b ≠ S → s.heap.get? b = some o → (s.heap.update S (Obj.mapSeq (fun _ => (#[] : Array Value)))).get? b = some o :=
    fun b o hb e => (Heap.get?_update_other _ _ (Ne.symm hb)).trans e
  refine wpAny_bind (wpAny_letGo ?_)
  refine ac_extend_rev hh hne (hit.at fun o e => oth I o (Ne.symm hSI) e) (hl.at fun o e => oth l o (Ne.symm hSl) e) hlen S .none _ hSI hSl hS2 fun h' tk acc' c' hk hS' hacc => ?_
  exact hR h' tk acc' c' (fun b o hb hb2 e => hk b o hb hb2 (oth b o hb e)) hS' hacc
theorem ac_call_list_rev {Q : Value → Shared → Prop} {I l : Addr} {items : Array Value} (hh : A.handled = none) (hne : l ≠ I) (hit : s.heap.IsRevIter I l ((items.size : Int) - 1)) (hl : s.heap.IsList l items) (hlen : items.size ≤ sizeLine)
    (hQ : ∀ h' tk acc' c', (∀ b o, b ≠ I → s.heap.get? b = some o → h'.get? b = some o) →
      h'.get? s.heap.objs.size = some { cls := .type "list", dict := none, data := .seq acc' c', slots := #[] } → ItemsOf (fun i v => items[items.size - 1 - i]? = some v) acc' items.size → Q (.ref s.heap.objs.size) { s with heap := h', toks := tk }) :
    wpAny (model prog w) A (call (.type "list") [.ref I]) Q E s := by
  refine callType_codes (Q₁ := fun obj s₁ => obj = .ref s.heap.objs.size ∧ s₁ = { s with heap := s.heap.push { cls := .type "list", data := .seq #[] } }) F.called_list (F.typeCall_list_1 _) F.entry_list_init
    (code_list_new _ ⟨rfl, rfl⟩) fun obj s₁ h₁ => ?_
  obtain ⟨rfl, rfl⟩ := h₁
  have hS : (s.heap.push { cls := .type "list", data := .seq #[] }).get? s.heap.objs.size = some { cls := .type "list", data := .seq #[] } := Heap.get?_push_size _ rfl
  obtain ⟨oI, hI, _⟩ := id hit
  obtain ⟨ol, hol, _⟩ := id hl
  refine ⟨⟨_, hS, rfl⟩, F.args_list_init_2 _ _, ac_list_init_rev (A := A.in1) hh hne (hit.at fun o e => Heap.get?_push_of_some _ e) (hl.at fun o e => Heap.get?_push_of_some _ e) hlen _ (Ne.symm (Nat.ne_of_lt (Heap.lt_size hI))) (Ne.symm (Nat.ne_of_lt (Heap.lt_size hol))) hS fun h' tk acc' c' hk hS' hacc => ?_⟩
  exact ⟨rfl, hQ h' tk acc' c' (fun b o hb e => hk b o (Nat.ne_of_lt (Heap.lt_size e)) hb (Heap.get?_push_of_some _ e)) hS' hacc⟩
end
end PySem
namespace L2
open PySem PySem.Spec PyProof.Rows
section
variable {X : Cx}
/-- xs.insert(0, y) -/
def rInsert0 : V → List V → Hp → VK → Prop := fun x vs H Q => ∃ l xs y, x = .ref l ∧ vs = [.int 0, y] ∧ H l = some (.lst xs) ∧ xs.length < sizeLine ∧ Q .non (upd H l (.lst (y :: xs)))
theorem mt_insert0 : MtM X "list.insert" rInsert0 := by
  intro pins s σ H x vs v us Q I rx rv h
  obtain ⟨l, xs, y, rfl, rfl, hH, hz, q⟩ := h
  cases rx
  obtain ⟨u1, u, rfl, ru1, ru⟩ := rv.two
  obtain ⟨t, rfl⟩ := ru1
  obtain ⟨z, its, n, r, hl, e⟩ := I.lstM hH
  refine call_meets F.slot_list_insert ⟨_, e, rfl⟩ F.entry_list_insert (F.args_list_insert_3 _ _ _) (AutoSeq1.list_insert_list_int_val_1 l its.toArray n 0 t u (by decide) (by rw [List.size_toArray]; omega)) ⟨e, ?_⟩
  refine ⟨.non, _, I.lset (its' := u :: its) hH e (by simp) (.cons ru r) ?_, rfl, q⟩
  show xs.length + 1 ≤ sizeLine
  omega
/-- xs.count(k), ints -/
def rCountL (K : PySem.W.Frag) : V → List V → Hp → VK → Prop := fun x vs H Q => ∃ (a : Addr) (ns : List Int) (k : Int), x = V.ref a ∧ vs = [V.int k] ∧ SqL K H a (ns.map V.int) ∧ Q (.int (ns.count k : Nat)) H
theorem mt_countL : MtR X "list.count" (rCountL X.K) := by
  intro pins s σ H x vs v us Q I rx rv h
  obtain ⟨a, ns, k, rfl, rfl, hs, q⟩ := h
  cases rx
  obtain ⟨u, rfl, t, rfl⟩ := rv.one
  obtain ⟨its, rv', hl, _⟩ := I.list hs
  exact PyProof.Rows.count_list_ints hl.isList rv'.ints ⟨.int _, H, I.tok _, ⟨_, rfl⟩, q⟩
/-- sorted(xs), ints, any length -/
def rSortedA (K : PySem.W.Frag) : List V → Hp → VK → Prop := fun vs H Q => ∃ (a : Addr) (ns : List Int), vs = [V.ref a] ∧ SqL K H a (ns.map V.int) ∧
  ∀ (ns' : List Int) (p : Addr), ns'.Perm ns → ns'.Pairwise (· ≤ ·) → H p = none → Q (.ref p) (upd H p (.lst (ns'.map V.int)))
theorem cr_sortedA : CallR X (.builtin "sorted") (rSortedA X.K) := by
  intro pins s σ H vs us Q I r h
  obtain ⟨a, ns, rfl, hs, q⟩ := h
  obtain ⟨its, rv, hl, hz⟩ := I.list hs
  rw [Vals.ref1 r]
  have hi := rv.ints
  rw [List.length_map] at hz
  refine PyProof.Rows.sorted_intsAny hl.isList hi (by rw [hi.length]; exact hz) fun out ns' h1 h2 h3 => ?_
  obtain ⟨ep, he'⟩ := PyProof.Rows.sortedAll_at s.heap its out
  have hlen : (ns'.map V.int).length ≤ sizeLine := by rw [List.length_map, h2.length_eq]; exact hz
  exact ⟨.ref _, upd H (s.heap.objs.size + 1) (.lst (ns'.map V.int)), I.laid (t' := s.toks) (fun _ _ => PyProof.Rows.sortedAll_old) (Nat.le_succ _) ⟨hlen, out.toList, ep, vals_of_ints h1, he'⟩, rfl, q ns' _ h2 h3 (I.hok.fresh (Nat.le_succ _))⟩
theorem ac_boot_list : bootBuiltins "list" = some (.type "list") := by decide +kernel
/-- what ItemsOf says of a list walked from its end -/
theorem rev_items {its : List Value} {acc : Array Value} (h : ItemsOf (fun i v => its.toArray[its.toArray.size - 1 - i]? = some v) acc its.toArray.size) : acc.toList = its.reverse := by
  obtain ⟨h1, h2⟩ := h
  refine List.ext_getElem? fun i => ?_
  by_cases hi : i < its.length
  · have hv : i < acc.size := by rw [h1]; simpa using hi
    have e := h2 i acc[i] (Array.getElem?_eq_getElem hv)
    rw [Array.getElem?_toList, Array.getElem?_eq_getElem hv, List.getElem?_reverse hi]
    simpa using e.symm
  · have h3 : acc.toList.length ≤ i := by rw [Array.length_toList, h1]; simpa using Nat.le_of_not_lt hi
    rw [List.getElem?_eq_none h3, List.getElem?_eq_none (by rw [List.length_reverse]; exact Nat.le_of_not_lt hi)]
/-- list(reversed(e)) -/
def tListRev (K : PySem.W.Frag) (te : TE) : TE := fun σ H Q => te σ H fun x H1 => ∃ a xs, x = .ref a ∧ SqL K H1 a xs ∧ ∀ l, H1 l = none → Q (.ref l) (upd H1 l (.lst xs.reverse))
theorem pe_listRev {e : Expr} {te : TE} {p p2 pos pos2 : Pos} (hc : X.calm = true) (he : PE X e te) (hg : Gl X "list") (hm : X.mg "list" = none) (hg2 : Gl X "reversed") (hm2 : X.mg "reversed" = none)
    (hs : starEach [e] X.env = [(false, eval e X.env)] := by rfl) :
    PE X (.Call (.Name "list" p) [.Call (.Name "reversed" p2) [e] [] pos2] [] pos) (tListRev X.K te) := by
  intro pins s σ H Q I h
  refine wpAny_Call_Name_kw (ld_blt I hg hm ac_boot_list ?_)
  refine PyProof.Rows.callWith_type1 ?_ rfl rfl
  show wpAny _ _ (spliced ((false, eval (.Call (.Name "reversed" p2) [e] [] pos2) X.env) :: [])) _ _ s
  refine Calls.spliced_cons ?_
  refine wpAny_Call_Name_kw (ld_blt I hg2 hm2 boot_reversed5 (PyProof.Rows.callWith_type1 ?_ hs rfl))
  rw [hs]
  show wpAny _ _ (spliced ((false, eval e X.env) :: [])) _ _ s
  refine Calls.spliced_cons (thn (he pins s σ H _ I h) fun u s1 ⟨x, H1, I1, r1, q1⟩ => ?_)
  obtain ⟨a, xs, rfl, hq, q⟩ := q1
  cases r1
  refine Calls.spliced_nil ?_
  obtain ⟨its, rv, pl, hz⟩ := I1.list hq
  have hlen := rv.length
  refine call_reversed_list pl.isList ?_
  refine Calls.spliced_nil ?_
  have I2 : Inv X pins σ H1 { s1 with heap := s1.heap.push (revObj a ((its.toArray.size : Int) - 1)) } := I1.kept (t' := s1.toks) fun b o e => Heap.get?_push_of_some _ e
  have hal : a < s1.heap.objs.size := by
    obtain ⟨o, ho, _⟩ := pl.isList
    exact Heap.lt_size ho
  refine ac_call_list_rev (items := its.toArray) (I1.ok.hd hc) (Nat.ne_of_lt hal) ⟨_, Heap.get?_push_size _ rfl, rfl, rfl⟩ (pl.isList.at fun o e => Heap.get?_push_of_some _ e) (by rw [List.size_toArray]; omega) fun h' tk acc' c' hk hS hacc => ?_
  have ea := rev_items hacc
  have hk' : ∀ b o, s1.heap.get? b = some o → h'.get? b = some o := fun b o e => hk b o (Nat.ne_of_lt (Heap.lt_size e)) (Heap.get?_push_of_some _ e)
  have hsz : s1.heap.objs.size ≤ (s1.heap.push (revObj a ((its.toArray.size : Int) - 1))).objs.size := by rw [size_push']; exact Nat.le_succ _
  have hzr : xs.reverse.length ≤ sizeLine := by rw [List.length_reverse]; exact hz
  exact ⟨.ref _, upd H1 (s1.heap.push (revObj a ((its.toArray.size : Int) - 1))).objs.size (.lst xs.reverse), I1.laid (t' := tk) hk' hsz ⟨hzr, acc'.toList, c', by rw [ea]; exact rv.reverse, by simpa using hS⟩, rfl, q _ (I1.hok.fresh hsz)⟩
/-! == of lists of ints -/
theorem eqv_ints : ∀ ns ms : List Int, PyData.eqvAll (ns.map PyData.int) (ms.map PyData.int) = decide (ns = ms)
  | [], [] => by simp [PyData.eqvAll]
  | [], _ :: _ => by simp [PyData.eqvAll]
  | _ :: _, [] => by simp [PyData.eqvAll]
  | n :: ns, m :: ms => by
    have ih := eqv_ints ns ms
    simp only [List.map_cons, PyData.eqvAll, PyData.eqv, ih]
    rw [Bool.eq_iff_iff]
    simp
theorem canLay_ints : ∀ ns : List Int, PyData.canLayAll0 (ns.map PyData.int) = true
  | [] => by simp [PyData.canLayAll0]
  | n :: ns => by simp [PyData.canLayAll0, PyData.canLay0, canLay_ints ns]
theorem depth_ints : ∀ ns : List Int, PyData.depthAll (ns.map PyData.int) ≤ 1
  | [] => by simp [PyData.depthAll]
  | n :: ns => by
    have ih := depth_ints ns
    simp only [List.map_cons, PyData.depthAll, PyData.depth]
    omega
theorem dp_ints {K : PySem.W.Frag} {H : Hp} : ∀ ns : List Int, DpAll K H (ns.map V.int) (ns.map PyData.int)
  | [] => .nil
  | n :: ns => .cons (.int n) (dp_ints ns)
theorem shaped_ints (ns : List Int) : SeqAt.shaped (.list (ns.map PyData.int)) = true := by
  unfold SeqAt.shaped
  have h := depth_ints ns
  have h2 : (PyData.list (ns.map PyData.int)).depth ≤ 64 := by
    simp only [PyData.depth]
    omega
  have h1 : (PyData.list (ns.map PyData.int)).canLay0 = true := by
    simp only [PyData.canLay0]
    exact canLay_ints ns
  rw [h1, decide_eq_true h2]
  rfl
def rEqI (K : PySem.W.Frag) : R2 := fun x y H Q => ∃ (a b : Addr) (ns ms : List Int), x = .ref a ∧ y = .ref b ∧ SqL K H a (ns.map V.int) ∧ SqL K H b (ms.map V.int) ∧ Q (.bl (decide (ns = ms))) H
theorem op_eqI (hu : X.A.units + 64 < cLine) : OpR X (compareOp .Eq) (rEqI X.K) := by
  intro pins s σ H x y v u Q I rx ry h
  obtain ⟨a, b, ns, ms, rfl, rfl, h1, h2, q⟩ := h
  refine op_eqD hu pins s σ H _ _ v u Q I rx ry ⟨_, _, .lst h1 (dp_ints ns), .lst h2 (dp_ints ms), shaped_ints ns, shaped_ints ms, ?_⟩
  have e : PyData.eqv (.list (ns.map PyData.int)) (.list (ms.map PyData.int)) = decide (ns = ms) := by
    simp only [PyData.eqv]
    exact eqv_ints ns ms
  rw [e]
  exact q
end
end L2

set_option Elab.async false
set_option linter.all false
set_option maxRecDepth 100000
set_option maxHeartbeats 2000000
/-! A def, a method, a class of the text, each with its promise. -/
namespace Ac
open PySem PySem.Spec PyProof.Rows L2
section
variable (P : Program) (w : World) (K : PySem.W.Frag) (mg : Str → Option Value) (base : Heap)
/-- a def of the module keeps its promise -/
def Prom (k : Nat) (x : Str) (ps : List Str) (sp : Sp) : Prop :=
  ∃ f fd, FnOk P w K mg base CX0 k f fd ps sp ∧ mg x = some (.ref f) ∧ PySem.W.keepIn K (.ref f) = true ∧ Binds K fd ps []
/-- a method of the class at C -/
def PromM (k : Nat) (C : Addr) (m : Str) (ps : List Str) (sp : Sp) : Prop :=
  ∃ f fd, FnOk P w K mg base CX0 k f fd ps sp ∧ Meth K C m f ∧ Binds K fd ps []
/-- the class at C, named x, and its __init__ -/
def PromI (k : Nat) (C : Addr) (x : Str) (ps : List Str) (sp : Sp) : Prop :=
  ∃ f fd, FnOk P w K mg base CX0 k f fd ps sp ∧ Mk K C f ∧ mg x = some (.ref C) ∧ Binds K fd ps []
end
section
variable (K : PySem.W.Frag) (mg : Str → Option Value)
/-- what the top has written of a def -/
def DefG (x : Str) (st : Stmt) (ps : List Str) : Prop := ∃ f fd, Fun K x x st f fd ∧ mg x = some (.ref f) ∧ Binds K fd ps []
def DefM (C : Addr) (m qual : Str) (st : Stmt) (ps : List Str) : Prop := ∃ f fd, Fun K m qual st f fd ∧ Meth K C m f ∧ Binds K fd ps []
def DefI (C : Addr) (x qual : Str) (st : Stmt) (ps : List Str) : Prop := ∃ f fd, Fun K "__init__" qual st f fd ∧ Mk K C f ∧ mg x = some (.ref C) ∧ Binds K fd ps []
end
section
variable {P : Program} {w : World} {K : PySem.W.Frag} {mg : Str → Option Value} {base : Heap}
theorem Prom.mono {j k : Nat} {x : Str} {ps : List Str} {sp : Sp} (h : Prom P w K mg base j x ps sp) (hk : j ≤ k) : Prom P w K mg base k x ps sp := by
  obtain ⟨f, fd, F, r⟩ := h
  exact ⟨f, fd, F.mono hk, r⟩
theorem PromM.mono {j k : Nat} {C : Addr} {x : Str} {ps : List Str} {sp : Sp} (h : PromM P w K mg base j C x ps sp) (hk : j ≤ k) : PromM P w K mg base k C x ps sp := by
  obtain ⟨f, fd, F, r⟩ := h
  exact ⟨f, fd, F.mono hk, r⟩
theorem PromI.mono {j k : Nat} {C : Addr} {x : Str} {ps : List Str} {sp : Sp} (h : PromI P w K mg base j C x ps sp) (hk : j ≤ k) : PromI P w K mg base k C x ps sp := by
  obtain ⟨f, fd, F, r⟩ := h
  exact ⟨f, fd, F.mono hk, r⟩
theorem DefG.prom {x : Str} {st : Stmt} {N ps : List Str} {k : Nat} {sp : Sp} (D : DefG K mg x st ps) (S : FnScope N ps (defScope st)) (len : ∀ vs H Q E, sp vs H Q E → vs.length = ps.length)
    (hbody : ∀ (f : Addr) (cdv : Value) (A : Around) (outer : List Env) (s : Shared) (H : Hp) (vs : List V) (Q : VK) (E : XK), Room k (A.deeper (envOfC x (defScope st) s.heap.objs.size f cdv)) → sp vs H Q E →
      ∃ t, PSs (cxOf CX0 P w K mg base N x (defScope st) f cdv A outer s H E).nox (defBody st) t ∧ t { nx := fun _ H' => Q .non H', rt := Q } (start N vs) H) : Prom P w K mg base (k + 1) x ps sp := by
  obtain ⟨f, fd, F, hm, hb⟩ := D
  exact ⟨f, fd, F.ok S len (hbody f), hm, F.kp, hb⟩
theorem DefM.prom {C : Addr} {m qual : Str} {st : Stmt} {N ps : List Str} {k : Nat} {sp : Sp} (D : DefM K C m qual st ps) (S : FnScope N ps (defScope st)) (len : ∀ vs H Q E, sp vs H Q E → vs.length = ps.length)
    (hbody : ∀ (f : Addr) (cdv : Value) (A : Around) (outer : List Env) (s : Shared) (H : Hp) (vs : List V) (Q : VK) (E : XK), Room k (A.deeper (envOfC qual (defScope st) s.heap.objs.size f cdv)) → sp vs H Q E →
      ∃ t, PSs (cxOf CX0 P w K mg base N qual (defScope st) f cdv A outer s H E).nox (defBody st) t ∧ t { nx := fun _ H' => Q .non H', rt := Q } (start N vs) H) : PromM P w K mg base (k + 1) C m ps sp := by
  obtain ⟨f, fd, F, hm, hb⟩ := D
  exact ⟨f, fd, F.ok S len (hbody f), hm, hb⟩
theorem DefI.prom {C : Addr} {x qual : Str} {st : Stmt} {N ps : List Str} {k : Nat} {sp : Sp} (D : DefI K mg C x qual st ps) (S : FnScope N ps (defScope st)) (len : ∀ vs H Q E, sp vs H Q E → vs.length = ps.length)
    (hbody : ∀ (f : Addr) (cdv : Value) (A : Around) (outer : List Env) (s : Shared) (H : Hp) (vs : List V) (Q : VK) (E : XK), Room k (A.deeper (envOfC qual (defScope st) s.heap.objs.size f cdv)) → sp vs H Q E →
      ∃ t, PSs (cxOf CX0 P w K mg base N qual (defScope st) f cdv A outer s H E).nox (defBody st) t ∧ t { nx := fun _ H' => Q .non H', rt := Q } (start N vs) H) : PromI P w K mg base (k + 1) C x ps sp := by
  obtain ⟨f, fd, F, hm, hg, hb⟩ := D
  exact ⟨f, fd, F.ok S len (hbody f), hm, hg, hb⟩
end
section
variable {X : Cx} {k : Nat} {C : Addr} {ps : List Str} {sp : Sp} {x m : Str} {p pos apos : Pos} {e o : Expr} {es : List Expr} {ta : TE} {t : TA}
/-- f(e, ..) by its promise -/
theorem pe_callP (h : Prom X.prog X.w X.K X.mg X.base k x ps sp) (hr : Room k X.A) (ha : PA X (e :: es) t) (hx : Passes CX0 X E0 := by exact pass0) (hg : Gl X x := by rfl) (hdb : (x == ("__debug__" : Str)) = false := by decide)
    (he : starEach (e :: es) X.env = (false, eval e X.env) :: starEach es X.env := by rfl) (hpl : (backTo pos (starEach es X.env)).any (·.1) = false := by rfl) :
    PE X (.Call (.Name x p) (e :: es) [] pos) (tCall sp [] E0 t) := by
  obtain ⟨f, fd, F, hm, hk, hb⟩ := h
  exact pe_call F hr hg hm hk hb .nil hx ha hdb he hpl
theorem pe_methP {pl : Sem Bool} (h : PromM X.prog X.w X.K X.mg X.base k C m ps sp) (c : Cls X.K C) (hr : Room k X.A) (ho : PE X o ta) (ha : PA X (e :: es) t) (hx : Passes CX0 X E0 := by exact pass0)
    (hst : starEach (e :: es) X.env = (false, eval e X.env) :: starEach es X.env := by rfl) (hpl : (backTo pos (starEach es X.env)).any (·.1) = false := by rfl)
    (ht : eval (.Call (.Attribute o m apos) (e :: es) [] pos) X.env = (do
      let ov ← eval o X.env
      standAt apos.atName
      let (f, first) ← holding [ov] (getMethod ov m pl)
      callWith pos f first (backTo pos (starEach (e :: es) X.env)) (backToKw pos (keywordEach [] X.env))) := by rfl) :
    PE X (.Call (.Attribute o m apos) (e :: es) [] pos) (tMeth C m sp [] E0 ta t) := by
  obtain ⟨f, fd, F, hm, hb⟩ := h
  exact pe_meth ho c hm F hr hb .nil hx ha hst hpl ht
theorem pe_methP0 {pl : Sem Bool} (h : PromM X.prog X.w X.K X.mg X.base k C m ps sp) (c : Cls X.K C) (hr : Room k X.A) (ho : PE X o ta) (hx : Passes CX0 X E0 := by exact pass0)
    (ht : eval (.Call (.Attribute o m apos) [] [] pos) X.env = (do
      let ov ← eval o X.env
      standAt apos.atName
      let (f, first) ← holding [ov] (getMethod ov m pl)
      callWith pos f first (backTo pos (starEach [] X.env)) (backToKw pos (keywordEach [] X.env))) := by rfl) :
    PE X (.Call (.Attribute o m apos) [] [] pos) (tMeth C m sp [] E0 ta tNil) := by
  obtain ⟨f, fd, F, hm, hb⟩ := h
  exact pe_meth0 ho c hm F hr hb .nil hx ht
theorem pe_makeP (h : PromI X.prog X.w X.K X.mg X.base k C x ps sp) (hr : Room (k + 1) X.A) (ha : PA X (e :: es) t) (hx : Passes CX0 X E0 := by exact pass0) (hg : Gl X x := by rfl) (hdb : (x == ("__debug__" : Str)) = false := by decide)
    (he : starEach (e :: es) X.env = (false, eval e X.env) :: starEach es X.env := by rfl) (hpl : (backTo pos (starEach es X.env)).any (·.1) = false := by rfl) :
    PE X (.Call (.Name x p) (e :: es) [] pos) (tMake C sp [] E0 t) := by
  obtain ⟨f, fd, F, M, hm, hb⟩ := h
  exact pe_make M F hr hg hm hb .nil hx ha hdb he hpl
theorem pe_makeP0 (h : PromI X.prog X.w X.K X.mg X.base k C x ps sp) (hr : Room (k + 1) X.A) (hx : Passes CX0 X E0 := by exact pass0) (hg : Gl X x := by rfl) (hdb : (x == ("__debug__" : Str)) = false := by decide) :
    PE X (.Call (.Name x p) [] [] pos) (tMake C sp [] E0 tNil) := by
  obtain ⟨f, fd, F, M, hm, hb⟩ := h
  exact pe_make0 M F hr hg hm hb .nil hx hdb
/-- a constant of the module: a whole number -/
theorem pe_gi {i : Int} (h : ∃ t, X.mg x = some (.int i t)) (hg : Gl X x := by rfl) (hdb : (x == ("__debug__" : Str)) = false := by decide) : PE X (.Name x pos) (tC (.int i)) := by
  obtain ⟨t, e⟩ := h
  exact pe_glob hg e ⟨t, rfl⟩ hdb
end
/-- the bytes of the specification as values -/
def zs (l : List Nat) : List Int := l.map fun (n : Nat) => (n : Int)
def vI (l : List Nat) : List V := (zs l).map V.int
def top (i : Nat) : Stmt := PySem.Challenge.pw_actioncaches_s01_answers.main.body.getD i (.Pass ⟨0, 0, 0, 0⟩)
end Ac

set_option Elab.async false
set_option linter.all false
set_option maxHeartbeats 2000000
namespace Ac
/-! The tools' outcomes, over whole numbers. -/
theorem zs_reverse (l : List Nat) : (zs l).reverse = zs l.reverse := by simp [zs]
theorem zs_length (l : List Nat) : (zs l).length = l.length := by simp [zs]
theorem vI_length (l : List Nat) : (vI l).length = l.length := by simp [vI, zs]
theorem vI_append (l m : List Nat) : vI (l ++ m) = vI l ++ vI m := by simp [vI, zs]
theorem vI_reverse (l : List Nat) : (vI l).reverse = vI l.reverse := by simp [vI, zs]
theorem vI_nil : vI [] = [] := rfl
theorem vI_cons (n : Nat) (l : List Nat) : vI (n :: l) = L2.V.int n :: vI l := rfl
theorem zs_sum_from : ∀ (l : List Nat) (a : Nat), ((l.foldl (fun n x => n + x) a : Nat) : Int) = (a : Int) + (zs l).sum
  | [], a => by simp [zs]
  | x :: r, a => by
    have ih := zs_sum_from r (a + x)
    rw [List.foldl_cons, ih]
    simp [zs]
    omega
theorem zs_sum (l : List Nat) : (zs l).sum = (Vabldj.sum l : Nat) := by
  have h := zs_sum_from l 0
  unfold Vabldj.sum
  omega
theorem zs_count (l : List Nat) : (zs l).count 0 = Vabldj.zeros l := by
  unfold Vabldj.zeros
  induction l with
  | nil => rfl
  | cons x r ih =>
    have e : zs (x :: r) = (x : Int) :: zs r := rfl
    rw [e, List.count_cons, List.filter_cons, ih]
    by_cases hx : x = 0
    · subst hx; simp
    · have h1 : ¬ ((x : Int) = 0) := by omega
      simp [hx, h1]
theorem vI_flat (l : List Nat) : vI (l.flatMap fun x => [x, x]) = (vI l).flatMap fun x => [x, x] := by
  induction l with
  | nil => rfl
  | cons x r ih => rw [List.flatMap_cons, vI_append, ih]; rfl
/-! sorted -/
theorem put_perm (b : Nat) : ∀ l : List Nat, (Vabldj.putByte b l).Perm (b :: l)
  | [] => .refl _
  | c :: r => by
    unfold Vabldj.putByte
    split
    · exact .refl _
    · exact ((put_perm b r).cons c).trans (.swap b c r)
theorem put_sorted (b : Nat) : ∀ l : List Nat, l.Pairwise (· ≤ ·) → (Vabldj.putByte b l).Pairwise (· ≤ ·)
  | [], _ => List.pairwise_singleton _ _
  | c :: r, h => by
    unfold Vabldj.putByte
    rw [List.pairwise_cons] at h
    split
    · rename_i hb
      refine List.pairwise_cons.mpr ⟨fun x hx => ?_, List.pairwise_cons.mpr h⟩
      rcases List.mem_cons.mp hx with rfl | hx
      · exact hb
      · exact Nat.le_trans hb (h.1 x hx)
    · rename_i hb
      refine List.pairwise_cons.mpr ⟨fun x hx => ?_, put_sorted b r h.2⟩
      rcases List.mem_cons.mp ((put_perm b r).mem_iff.mp hx) with rfl | hx
      · omega
      · exact h.1 x hx
theorem sorted_perm : ∀ l : List Nat, (Vabldj.sorted l).Perm l
  | [] => .refl _
  | b :: r => (put_perm b _).trans ((sorted_perm r).cons b)
theorem sorted_sorted : ∀ l : List Nat, (Vabldj.sorted l).Pairwise (· ≤ ·)
  | [] => List.Pairwise.nil
  | b :: r => put_sorted b _ (sorted_sorted r)
theorem same_sorted : ∀ {a b : List Int}, a.Perm b → a.Pairwise (· ≤ ·) → b.Pairwise (· ≤ ·) → a = b
  | [], b, p, _, _ => by rw [List.nil_perm.mp p]
  | x :: r, [], p, _, _ => by cases List.perm_nil.mp p
  | x :: r, y :: t, p, h1, h2 => by
    rw [List.pairwise_cons] at h1 h2
    have e : x = y := by
      have a1 : x ∈ y :: t := p.mem_iff.mp List.mem_cons_self
      have a2 : y ∈ x :: r := p.mem_iff.mpr List.mem_cons_self
      have b1 : y ≤ x := by
        rcases List.mem_cons.mp a1 with rfl | z
        · exact Int.le_refl _
        · exact h2.1 x z
      have b2 : x ≤ y := by
        rcases List.mem_cons.mp a2 with rfl | z
        · exact Int.le_refl _
        · exact h1.1 y z
      omega
    subst e
    rw [same_sorted (List.Perm.cons_inv p) h1.2 h2.2]
theorem zs_sorted {l : List Nat} {ns : List Int} (p : ns.Perm (zs l)) (h : ns.Pairwise (· ≤ ·)) : ns = zs (Vabldj.sorted l) := by
  refine same_sorted (p.trans ((sorted_perm l).map _).symm) h ?_
  unfold zs
  rw [List.pairwise_map]
  exact (sorted_sorted l).imp fun h => by omega
theorem sorted_length (l : List Nat) : (Vabldj.sorted l).length = l.length := (sorted_perm l).length_eq
end Ac

set_option Elab.async false
set_option linter.all false
set_option maxHeartbeats 2000000
namespace Ac
open Vabldj
/-! Stores: load, what fits, an entry found, taken out. -/
theorem load_from : ∀ (l : List Entry) (n : Nat), l.foldl (fun n e => n + e.size) n = n + (l.map Entry.size).sum
  | [], n => by simp
  | e :: r, n => by rw [List.foldl_cons, load_from r]; simp; omega
theorem load_eq (l : List Entry) : load l = (l.map Entry.size).sum := by unfold load; rw [load_from]; omega
theorem load_nil : load [] = 0 := rfl
theorem load_cons (e : Entry) (r : List Entry) : load (e :: r) = e.size + load r := by rw [load_eq, load_eq]; simp
theorem load_append (a b : List Entry) : load (a ++ b) = load a + load b := by rw [load_eq, load_eq, load_eq]; simp
theorem size_pos (e : Entry) : 1 ≤ e.size := by unfold Entry.size; omega
theorem length_le_load : ∀ l : List Entry, l.length ≤ load l
  | [] => Nat.zero_le _
  | e :: r => by
    have h1 := length_le_load r
    have h2 := size_pos e
    rw [load_cons]
    show r.length + 1 ≤ _
    omega
theorem fits_all : ∀ (l : List Entry) (room : Nat), load l ≤ room → fitting room l = l
  | [], _, _ => rfl
  | e :: r, room, h => by
    rw [load_cons] at h
    unfold fitting
    rw [if_pos (by omega), fits_all r (room - e.size) (by omega)]
theorem fits_less : ∀ (l : List Entry) (room : Nat), room < load l → fitting room l = fitting room l.dropLast
  | [], room, h => by rw [load_nil] at h; omega
  | e :: r, room, h => by
    rw [load_cons] at h
    cases r with
    | nil =>
      rw [load_nil] at h
      show (if e.size ≤ room then e :: fitting (room - e.size) [] else []) = fitting room []
      rw [if_neg (by omega)]
      rfl
    | cons f t =>
      show (if e.size ≤ room then e :: fitting (room - e.size) (f :: t) else []) = (if e.size ≤ room then e :: fitting (room - e.size) (f :: t).dropLast else [])
      by_cases hs : e.size ≤ room
      · rw [if_pos hs, if_pos hs, fits_less (f :: t) (room - e.size) (by omega)]
      · rw [if_neg hs, if_neg hs]
theorem fits_load : ∀ (l : List Entry) (room : Nat), load (fitting room l) ≤ room
  | [], room => Nat.zero_le _
  | e :: r, room => by
    unfold fitting
    by_cases hs : e.size ≤ room
    · rw [if_pos hs, load_cons]
      have := fits_load r (room - e.size)
      omega
    · rw [if_neg hs]
      exact Nat.zero_le _
theorem fits_prefix : ∀ (l : List Entry) (room : Nat), ∃ k, k ≤ l.length ∧ fitting room l = l.take k
  | [], room => ⟨0, Nat.le_refl _, rfl⟩
  | e :: r, room => by
    unfold fitting
    by_cases hs : e.size ≤ room
    · obtain ⟨k, h1, h2⟩ := fits_prefix r (room - e.size)
      rw [if_pos hs, h2]
      exact ⟨k + 1, Nat.succ_le_succ h1, rfl⟩
    · rw [if_neg hs]
      exact ⟨0, Nat.zero_le _, rfl⟩
theorem fits_length (l : List Entry) (room : Nat) : (fitting room l).length ≤ l.length := by
  obtain ⟨k, h1, h2⟩ := fits_prefix l room
  rw [h2, List.length_take]
  exact Nat.min_le_right _ _
theorem fits_sub (l : List Entry) (room : Nat) : (fitting room l).Sublist l := by
  obtain ⟨k, h1, h2⟩ := fits_prefix l room
  rw [h2]
  exact List.take_sublist _ _
/-! keys -/
/-- no two entries for the same tool and input -/
def Keys (l : List Entry) : Prop := l.Pairwise fun a b => ¬ (a.tool = b.tool ∧ a.input = b.input)
theorem Keys.sub {l m : List Entry} (h : Keys l) (s : m.Sublist l) : Keys m := List.Pairwise.sublist s h
theorem isFor_iff {e : Entry} {t : Nat} {l : Bytes} : e.isFor t l = true ↔ e.tool = t ∧ e.input = l := by
  unfold Entry.isFor
  simp
/-- where the entry stands, -1 if there is none -/
def placeI (l : List Entry) (t : Nat) (i : Bytes) : Int := match l.findIdx? (fun e => e.isFor t i) with
  | some k => (k : Int)
  | none => -1
theorem place_none {l : List Entry} {t : Nat} {i : Bytes} (h : l.find? (fun e => e.isFor t i) = none) : placeI l t i = -1 := by
  unfold placeI
  rw [List.findIdx?_eq_none_iff.mpr fun x hx => by simpa using List.find?_eq_none.mp h x hx]
theorem place_some {l : List Entry} {t : Nat} {i : Bytes} {e : Entry} (h : l.find? (fun e => e.isFor t i) = some e) : ∃ k : Nat, placeI l t i = (k : Int) ∧ l[k]? = some e ∧ l.findIdx (fun e => e.isFor t i) = k ∧ e.isFor t i = true ∧ ∀ j, j < k → ∀ x, l[j]? = some x → x.isFor t i = false := by
  obtain ⟨hp, as, bs, rfl, hn⟩ := List.find?_eq_some_iff_append.mp h
  have hn' : ∀ x ∈ as, (x.isFor t i) = false := fun x hx => by simpa using hn x hx
  have e1 : (as ++ e :: bs).findIdx? (fun e => e.isFor t i) = some as.length := by
    rw [List.findIdx?_append, List.findIdx?_eq_none_iff.mpr hn', List.findIdx?_cons, hp]
    simp
  have e2 : (as ++ e :: bs).findIdx (fun e => e.isFor t i) = as.length := by
    rw [List.findIdx_eq_getD_findIdx?, e1]
    rfl
  refine ⟨as.length, by unfold placeI; rw [e1], by simp, e2, hp, fun j hj x hx => ?_⟩
  rw [List.getElem?_append_left hj] at hx
  exact hn' x (List.mem_of_getElem? hx)
/-- with unlike keys, the entries but those for t and i are those but the one found -/
theorem without_erase : ∀ {l : List Entry} {t : Nat} {i : Bytes} {k : Nat} {e : Entry}, Keys l → l[k]? = some e → e.isFor t i = true → l.filter (fun e => !e.isFor t i) = l.eraseIdx k
  | [], _, _, _, _, _, h, _ => by simp at h
  | a :: r, t, i, 0, e, hk, h, he => by
    have ea : a = e := by simpa using h
    subst ea
    rw [List.filter_cons, he]
    have hk' := List.pairwise_cons.mp hk
    show r.filter _ = r
    rw [List.filter_eq_self]
    intro x hx
    cases c : x.isFor t i with
    | false => rfl
    | true =>
      have h1 := isFor_iff.mp he
      have h2 := isFor_iff.mp c
      exact absurd ⟨h1.1.trans h2.1.symm, h1.2.trans h2.2.symm⟩ (hk'.1 x hx)
  | a :: r, t, i, k + 1, e, hk, h, he => by
    have hk' := List.pairwise_cons.mp hk
    have h' : r[k]? = some e := by simpa using h
    have ih := without_erase hk'.2 h' he
    have na : a.isFor t i = false := by
      cases c : a.isFor t i with
      | false => rfl
      | true =>
        have h1 := isFor_iff.mp he
        have h2 := isFor_iff.mp c
        exact absurd ⟨h2.1.trans h1.1.symm, h2.2.trans h1.2.symm⟩ (hk'.1 e (List.mem_of_getElem? h'))
    rw [List.filter_cons, na]
    show a :: r.filter _ = a :: r.eraseIdx k
    rw [ih]
/-- .. and those that are cut for t and i are the one found -/
theorem map_set : ∀ {l : List Entry} {t : Nat} {i : Bytes} {k : Nat} {e : Entry} (f : Entry → Entry), Keys l → l[k]? = some e → e.isFor t i = true → l.map (fun x => if x.isFor t i then f x else x) = l.set k (f e)
  | [], _, _, _, _, _, _, h, _ => by simp at h
  | a :: r, t, i, 0, e, f, hk, h, he => by
    have ea : a = e := by simpa using h
    subst ea
    have hk' := List.pairwise_cons.mp hk
    rw [List.map_cons, if_pos he, List.set_cons_zero]
    congr 1
    rw [show r = r.map id by simp]
    rw [List.map_map]
    refine List.map_congr_left fun x hx => ?_
    show (if x.isFor t i = true then f x else x) = x
    rw [if_neg]
    intro c
    have h1 := isFor_iff.mp he
    have h2 := isFor_iff.mp c
    exact absurd ⟨h1.1.trans h2.1.symm, h1.2.trans h2.2.symm⟩ (hk'.1 x hx)
  | a :: r, t, i, k + 1, e, f, hk, h, he => by
    have hk' := List.pairwise_cons.mp hk
    have h' : r[k]? = some e := by simpa using h
    have ih := map_set f hk'.2 h' he
    rw [List.map_cons, List.set_cons_succ, ih]
    congr 1
    rw [if_neg]
    intro c
    have h1 := isFor_iff.mp he
    have h2 := isFor_iff.mp c
    exact absurd ⟨h2.1.trans h1.1.symm, h2.2.trans h1.2.symm⟩ (hk'.1 e (List.mem_of_getElem? h'))
end Ac

set_option Elab.async false
set_option linter.all false
set_option maxHeartbeats 2000000
namespace Ac
open Vabldj
/-! What holds of the object between two calls. -/
/-- what is known of an entry's numbers -/
def EntN (E : Entry) : Prop := E.input.length ≤ 64 ∧ E.length ≤ 128 ∧ E.bytes.length ≤ E.length
structure StoreOk (T : Store) : Prop where
  keys : Keys T.entries
  load : load T.entries ≤ T.room
  room : T.room ≤ 1024
  ents : ∀ E ∈ T.entries, EntN E
structure StOk (S : State) : Prop where
  near : StoreOk S.near
  far : StoreOk S.far
theorem StOk.pick {S : State} (h : StOk S) (far : Bool) : StoreOk (S.store far) := by
  cases far with
  | false => exact h.near
  | true => exact h.far
theorem StOk.put {S : State} (h : StOk S) (far : Bool) {T : Store} (t : StoreOk T) : StOk (S.withStore far T) := by
  cases far with
  | false => exact ⟨t, h.far⟩
  | true => exact ⟨h.near, t⟩
theorem StOk.of {S S' : State} (h : StOk S) (a : S'.near = S.near) (b : S'.far = S.far) : StOk S' := ⟨a ▸ h.near, b ▸ h.far⟩
theorem StoreOk.length {T : Store} (h : StoreOk T) : T.entries.length ≤ 1024 := Nat.le_trans (length_le_load _) (Nat.le_trans h.load h.room)
theorem load_sub {l m : List Entry} (h : m.Sublist l) : Vabldj.load m ≤ Vabldj.load l := by
  induction h with
  | slnil => exact Nat.le_refl _
  | cons e _ ih => rw [load_cons]; omega
  | cons_cons e _ ih => rw [load_cons, load_cons]; omega
theorem StoreOk.sub {T : Store} (h : StoreOk T) {l : List Entry} (s : l.Sublist T.entries) : StoreOk { T with entries := l } :=
  ⟨h.keys.sub s, Nat.le_trans (load_sub s) h.load, h.room, fun E hE => h.ents E (s.subset hE)⟩
theorem find_none {T : Store} {t : Nat} {i : Bytes} (h : find T t i = none) : ∀ e ∈ T.entries, ¬ (e.tool = t ∧ e.input = i) := fun e he z => by
  have := List.find?_eq_none.mp h e he
  rw [isFor_iff.mpr z] at this
  exact this rfl
theorem find_some {T : Store} {t : Nat} {i : Bytes} {e : Entry} (h : find T t i = some e) : e ∈ T.entries ∧ e.tool = t ∧ e.input = i :=
  ⟨List.mem_of_find?_eq_some h, isFor_iff.mp (by have := List.find?_some h; exact this)⟩
theorem without_none (T : Store) (t : Nat) (i : Bytes) : ∀ e ∈ (without T t i).entries, ¬ (e.tool = t ∧ e.input = i) := fun e he z => by
  have := (List.mem_filter.mp he).2
  rw [isFor_iff.mpr z] at this
  exact absurd this (by decide)
theorem keep_ok {T : Store} (h : StoreOk T) {E : Entry} (n : EntN E) (no : ∀ e ∈ T.entries, ¬ (e.tool = E.tool ∧ e.input = E.input)) : StoreOk (keep T E).1 := by
  unfold keep
  by_cases c : T.room < E.size
  · rw [if_pos c]
    exact h
  · rw [if_neg c]
    show StoreOk { T with entries := fitting T.room (E :: T.entries) }
    have k : Keys (E :: T.entries) := List.pairwise_cons.mpr ⟨fun e he z => no e he ⟨z.1.symm, z.2.symm⟩, h.keys⟩
    refine ⟨k.sub (fits_sub _ _), fits_load _ _, h.room, fun e he => ?_⟩
    rcases List.mem_cons.mp ((fits_sub _ _).subset he) with z | z
    · rw [z]
      exact n
    · exact h.ents e z
theorem out_len (t : Nat) {l : Bytes} (h : l.length ≤ 64) : (outcome t l).output.length ≤ 128 := by
  unfold outcome
  split
  · show l.length ≤ 128
    omega
  · show l.reverse.length ≤ 128
    rw [List.length_reverse]
    omega
  · show (Vabldj.sorted l).length ≤ 128
    rw [sorted_length]
    omega
  · show 2 ≤ 128
    decide
  · show (l.flatMap fun x => [x, x]).length ≤ 128
    rw [List.length_flatMap]
    have : (l.map fun x => [x, x].length) = List.replicate l.length 2 := by simp [List.map_const']
    rw [this]
    simp
    omega
  · split
    · show 0 ≤ 128
      decide
    · show 1 ≤ 128
      decide
theorem keepNear_ok {S : State} (h : StOk S) {E : Entry} (n : EntN E) (no : ∀ e ∈ S.near.entries, ¬ (e.tool = E.tool ∧ e.input = E.input)) : StOk (keepNear S E) := ⟨keep_ok h.near n no, h.far⟩
theorem sendFar_ok {S : State} (h : StOk S) {E : Entry} (n : EntN E) (no : ∀ e ∈ S.far.entries, ¬ (e.tool = E.tool ∧ e.input = E.input)) : StOk (sendFar S E) := ⟨h.near, keep_ok h.far n no⟩
theorem work_ok {S : State} (h : StOk S) {t : Nat} {l : Bytes} (hl : l.length ≤ 64) (nn : ∀ e ∈ S.near.entries, ¬ (e.tool = t ∧ e.input = l)) (nf : S.there = true → ∀ e ∈ S.far.entries, ¬ (e.tool = t ∧ e.input = l)) : StOk (work S t l).1 := by
  have n : EntN (entryOf t l (outcome t l)) := ⟨hl, out_len t hl, Nat.le_refl _⟩
  have h0 : StOk { S with worked := S.worked + 1 } := h.of rfl rfl
  unfold work
  show StOk (if (outcome t l).status = 0 ∨ S.failing = true then (if (S.there && S.sends) = true then sendFar (keepNear { S with worked := S.worked + 1 } (entryOf t l (outcome t l))) (entryOf t l (outcome t l)) else keepNear { S with worked := S.worked + 1 } (entryOf t l (outcome t l))) else { S with worked := S.worked + 1 })
  split
  · have h1 : StOk (keepNear { S with worked := S.worked + 1 } (entryOf t l (outcome t l))) := keepNear_ok h0 n nn
    split
    · rename_i c
      exact sendFar_ok h1 n (nf (by simp at c; exact c.1))
    · exact h1
  · exact h0
theorem askFar_ok {S : State} (h : StOk S) {t : Nat} {l : Bytes} (hl : l.length ≤ 64) (nn : ∀ e ∈ S.near.entries, ¬ (e.tool = t ∧ e.input = l)) : StOk (askFar S t l).1 := by
  unfold askFar
  split
  · cases hf : find S.far t l with
    | none => exact work_ok h hl nn fun _ => find_none hf
    | some e =>
      obtain ⟨m, e1, e2⟩ := find_some hf
      show StOk (if e.whole = true then (keepNear { S with fromFar := S.fromFar + 1 } e, ofEntry 2 e) else work { S with far := without S.far t l, spoilt := S.spoilt + 1 } t l).1
      split
      · have h1 : StOk { S with fromFar := S.fromFar + 1 } := h.of rfl rfl
        exact keepNear_ok h1 (h.far.ents e m) (by rw [e1, e2]; exact nn)
      · have h1 : StOk { S with far := without S.far t l, spoilt := S.spoilt + 1 } := ⟨h.near, h.far.sub List.filter_sublist⟩
        exact work_ok h1 hl nn fun _ => without_none S.far t l
  · rename_i c
    exact work_ok h hl nn fun z => absurd z c
theorem doIt_ok {S : State} (h : StOk S) {t : Nat} {l : Bytes} (hl : l.length ≤ 64) : StOk (doIt S t l).1 := by
  unfold doIt
  cases hf : find S.near t l with
  | none => exact askFar_ok h hl (find_none hf)
  | some e =>
    obtain ⟨m, e1, e2⟩ := find_some hf
    show StOk (if e.whole = true then _ else askFar { S with near := without S.near t l, spoilt := S.spoilt + 1 } t l : State × Got).1
    split
    · obtain ⟨k, _, hk, _, hfor, _⟩ := place_some (show S.near.entries.find? (fun e => e.isFor t l) = some e from hf)
      have ew : (without S.near t l).entries = S.near.entries.eraseIdx k := without_erase h.near.keys hk hfor
      refine ⟨⟨?_, ?_, h.near.room, fun E hE => ?_⟩, h.far⟩
      · refine List.pairwise_cons.mpr ⟨fun x hx z => ?_, h.near.keys.sub List.filter_sublist⟩
        exact without_none S.near t l x hx ⟨z.1.symm.trans e1, z.2.symm.trans e2⟩
      · show Vabldj.load (e :: (without S.near t l).entries) ≤ S.near.room
        rw [ew, load_cons]
        have hs : ∀ {l : List Entry} {k : Nat} {e : Entry}, l[k]? = some e → Vabldj.load l = e.size + Vabldj.load (l.eraseIdx k) := by
          intro l
          induction l with
          | nil => intro k e h; simp at h
          | cons a r ih =>
            intro k e h
            cases k with
            | zero =>
              have ea : a = e := by simpa using h
              subst ea
              rw [load_cons]
              rfl
            | succ k =>
              have h' : r[k]? = some e := by simpa using h
              show Vabldj.load (a :: r) = e.size + Vabldj.load (a :: r.eraseIdx k)
              rw [load_cons, load_cons, ih h']
              omega
        rw [← hs hk]
        exact h.near.load
      · rcases List.mem_cons.mp hE with z | z
        · rw [z]
          exact h.near.ents e m
        · exact h.near.ents E (List.mem_filter.mp z).1
    · have h1 : StOk { S with near := without S.near t l, spoilt := S.spoilt + 1 } := ⟨h.near.sub List.filter_sublist, h.far⟩
      exact askFar_ok h1 hl (without_none S.near t l)
theorem cut_keys (t : Nat) (i : Bytes) (n : Nat) : ∀ l : List Entry, Keys l → Keys (l.map fun x => if x.isFor t i then { x with bytes := x.bytes.take n } else x) := fun l h => by
  unfold Keys
  rw [List.pairwise_map]
  refine List.Pairwise.imp (fun {a b} hab z => hab ?_) h
  have ha : (if a.isFor t i = true then { a with bytes := a.bytes.take n } else a).tool = a.tool ∧ (if a.isFor t i = true then { a with bytes := a.bytes.take n } else a).input = a.input := by split <;> exact ⟨rfl, rfl⟩
  have hb : (if b.isFor t i = true then { b with bytes := b.bytes.take n } else b).tool = b.tool ∧ (if b.isFor t i = true then { b with bytes := b.bytes.take n } else b).input = b.input := by split <;> exact ⟨rfl, rfl⟩
  exact ⟨ha.1.symm.trans (z.1.trans hb.1), ha.2.symm.trans (z.2.trans hb.2)⟩
theorem cut_load (t : Nat) (i : Bytes) (n : Nat) : ∀ l : List Entry, Vabldj.load (l.map fun x => if x.isFor t i then { x with bytes := x.bytes.take n } else x) = Vabldj.load l
  | [] => rfl
  | e :: r => by
    rw [List.map_cons, load_cons, load_cons, cut_load t i n r]
    congr 1
    split <;> rfl
theorem shareOne_ok {S : State} (h : StOk S) {e : Entry} (n : EntN e) : StOk (shareOne S e) := by
  unfold shareOne
  split
  · rename_i c
    refine sendFar_ok h n (find_none ?_)
    simp at c
    exact c.2
  · exact h
theorem shareAll_ok : ∀ (l : List Entry) {S : State}, StOk S → (∀ e ∈ l, EntN e) → StOk (l.foldl shareOne S)
  | [], _, h, _ => h
  | e :: r, _, h, n => shareAll_ok r (shareOne_ok h (n e List.mem_cons_self)) fun x hx => n x (List.mem_cons_of_mem _ hx)
theorem input_len {l : List Int} {m : Bytes} (h : inputOf l = .ok m) : m.length ≤ 64 := by
  unfold inputOf at h
  by_cases c : 64 < l.length ∨ l.all (fun n => decide (0 ≤ n) && decide (n ≤ 255)) = false
  · rw [if_pos c] at h
    cases h
  · rw [if_neg c] at h
    cases h
    rw [List.length_map]
    exact Nat.le_of_not_lt fun z => c (.inl z)
theorem onAction_st {S : State} (h : StOk S) (t : Int) (l : List Int) (f : Nat → Bytes → State × Answer) (hf : ∀ x m, m.length ≤ 64 → StOk (f x m).1) : StOk (onAction S t l f).1 := by
  unfold onAction
  split
  · exact h
  · split
    · exact h
    · rename_i hm
      exact hf _ _ (input_len hm)
theorem onStore_st {S : State} (h : StOk S) (n : Int) (f : Bool → State × Answer) (hf : ∀ b, StOk (f b).1) : StOk (onStore S n f).1 := by
  unfold onStore
  split
  · exact h
  · exact hf _
theorem onTruth_st {S : State} (h : StOk S) (n : Int) (f : Bool → State) (hf : ∀ b, StOk (f b)) : StOk (onTruth S n f).1 := by
  unfold onTruth
  split
  · exact h
  · exact hf _
theorem step_ok {S : State} (h : StOk S) (c : Call) : StOk (step S c).1 := by
  cases c with
  | room n k =>
    refine onStore_st h n _ fun far => ?_
    unfold setRoom
    split
    · exact h
    · rename_i hk
      have t : StoreOk { room := k.toNat, entries := fitting k.toNat (S.store far).entries } :=
        ⟨(h.pick far).keys.sub (fits_sub _ _), fits_load _ _, by show k.toNat ≤ 1024; omega, fun E hE => (h.pick far).ents E ((fits_sub _ _).subset hE)⟩
      exact (h.put far t).of rfl rfl
  | there b => exact onTruth_st h b _ fun _ => h.of rfl rfl
  | send b => exact onTruth_st h b _ fun _ => h.of rfl rfl
  | failing b => exact onTruth_st h b _ fun _ => h.of rfl rfl
  | do_ t l => exact onAction_st h t l _ fun x m hm => doIt_ok h hm
  | cut n t k l =>
    refine onStore_st h n _ fun far => onAction_st h t l _ fun x m hm => ?_
    unfold cutIt
    split
    · exact h
    · split
      · exact h
      · refine h.put far ⟨cut_keys _ _ _ _ (h.pick far).keys, ?_, (h.pick far).room, fun E hE => ?_⟩
        · show Vabldj.load _ ≤ _
          rw [cut_load]
          exact (h.pick far).load
        · obtain ⟨e, he, rfl⟩ := List.mem_map.mp hE
          have ne := (h.pick far).ents e he
          split
          · refine ⟨ne.1, ne.2.1, ?_⟩
            show (e.bytes.take _).length ≤ e.length
            rw [List.length_take]
            exact Nat.le_trans (Nat.min_le_right _ _) ne.2.2
          · exact ne
  | forget n t l =>
    refine onStore_st h n _ fun far => onAction_st h t l _ fun x m hm => ?_
    unfold forgetIt
    split
    · exact h
    · exact h.put far ((h.pick far).sub List.filter_sublist)
  | clean n =>
    refine onStore_st h n _ fun far => ?_
    exact (h.put far ((h.pick far).sub (l := (S.store far).entries.filter fun e => e.whole) List.filter_sublist)).of rfl rfl
  | share =>
    show StOk (shared S).1
    unfold shared
    split
    · exact shareAll_ok _ h fun e he => h.near.ents e (List.mem_reverse.mp he)
    · exact h
  | has n t l => exact onStore_st h n _ fun far => onAction_st h t l _ fun x m hm => h
  | list n => exact onStore_st h n _ fun far => h
  | counts => exact h
theorem start_ok : StOk start := ⟨⟨List.Pairwise.nil, Nat.zero_le _, by decide, fun _ h => nomatch h⟩, ⟨List.Pairwise.nil, Nat.zero_le _, by decide, fun _ h => nomatch h⟩⟩
end Ac

set_option Elab.async false
set_option linter.all false
set_option maxRecDepth 100000
set_option maxHeartbeats 2000000
namespace Ac
open PySem PySem.Spec PyProof.Rows L2
/-! A table of the module, keys whole numbers, values objects. -/
/-- what stands under k: the first that does -/
def tabAt (l : List (Int × Tok × Addr)) (k : Int) : Option Addr := (l.find? fun x => x.1 == k).map (·.2.2)
def tabEs (l : List (Int × Tok × Addr)) : List DictEntry := l.map fun x => ⟨hashInt x.1, .int x.1 x.2.1, .ref x.2.2⟩
/-- the module's dict at d is that table -/
def TabK (K : PySem.W.Frag) (d : Addr) (l : List (Int × Tok × Addr)) : Prop := ∃ es ep, K.lookup d = some { cls := .type "dict", dict := none, data := .dict es ep, slots := #[] } ∧ es.toList = tabEs l
theorem tab_find (l : List (Int × Tok × Addr)) (k : Int) : ((tabEs l).find? fun e => Value.isInt k e.key).map (·.val) = (tabAt l k).map Value.ref := by
  unfold tabAt tabEs
  induction l with
  | nil => rfl
  | cons x r ih =>
    have e : Value.isInt k (.int x.1 x.2.1) = (x.1 == k) := by
      rw [Bool.eq_iff_iff]
      simp [Value.isInt]
    rw [List.map_cons, List.find?_cons, List.find?_cons]
    show Option.map _ (match Value.isInt k (.int x.1 x.2.1) with | true => _ | false => _) = _
    rw [e]
    cases c : (x.1 == k) with
    | true => rfl
    | false => exact ih
/-- x[e], x the module's table -/
def tTab (l : List (Int × Tok × Addr)) (ty : TE) : TE := fun σ H Q => ty σ H fun y H1 => ∃ k a, y = .int k ∧ tabAt l k = some a ∧ Q (.ref a) H1
theorem pe_tab {X : Cx} {x : Str} {d : Addr} {l : List (Int × Tok × Addr)} {i : Expr} {ty : TE} {p pos : Pos} (hm : X.mg x = some (.ref d)) (t : TabK X.K d l) (hi : PE X i ty) (hs : NoSl i) (hg : Gl X x := by rfl) (hd : (x == ("__debug__" : Str)) = false := by decide) :
    PE X (.Subscript (.Name x p) i pos) (tTab l ty) := by
  intro pins s σ H Q I h
  obtain ⟨es, ep, lk, he⟩ := t
  refine subD_of PySem.F.slot_dict_getitem.lookup hs (ld_glob I hg hm (thn (hi pins s σ H _ I h) fun iv s2 ⟨y, H2, I2, ry, k, a, ey, ta, q2⟩ => ?_) hd)
  subst ey
  obtain ⟨tk, rfl⟩ := ry
  have hk := I2.kIn d _ lk
  refine ⟨⟨_, hk, rfl⟩, ?_⟩
  have mo : s2.heap.MapOf (PySem.intKind X.prog X.w) d (fun k => findBy Value.isInt es k) := by
    refine ⟨_, es, ep, hk, ⟨rfl, rfl, rfl⟩, rfl, fun e hm => ?_, fun _ => rfl⟩
    have hm' : e ∈ tabEs l := by rw [← he]; exact Array.mem_toList_iff.mpr hm
    obtain ⟨z, _, rfl⟩ := List.mem_map.mp hm'
    exact ⟨z.1, intKind_is X.prog X.w z.1 z.2.1, rfl⟩
  refine wpAny_getItem_of (intKind_is X.prog X.w k tk) mo ?_ ⟨.ref a, H2, I2.tok _, rfl, q2⟩
  have f := tab_find l k
  rw [ta, ← he] at f
  show findBy Value.isInt es k = some (.ref a)
  unfold findBy
  rw [← Array.find?_toList]
  exact f
/-- the module's table of the calls' shapes: how many numbers, how many rows -/
def Shapes (K : PySem.W.Frag) (mg : Str → Option Value) : Prop := ∃ d l, mg "SHAPES" = some (.ref d) ∧ TabK K d l ∧ ∀ (k : Int) (n m : Nat), PyVabldj.shape k = some (n, m) → ∃ a, tabAt l k = some a ∧ ∀ H, SqT K H a [.int (n : Int), .int (m : Int)]
def tShape (K : PySem.W.Frag) (ty : TE) : TE := fun σ H Q => ty σ H fun y H1 => ∃ (k : Int) (n m : Nat), y = .int k ∧ PyVabldj.shape k = some (n, m) ∧ ∀ a, SqT K H1 a [.int (n : Int), .int (m : Int)] → Q (.ref a) H1
theorem pe_shapes {X : Cx} {i : Expr} {ty : TE} {p pos : Pos} (h : Shapes X.K X.mg) (hi : PE X i ty) (hs : NoSl i := by exact fun _ _ => rfl) (hg : Gl X "SHAPES" := by rfl) (hd : (("SHAPES" : Str) == ("__debug__" : Str)) = false := by decide) (mono : ∀ σ H Q Q', (∀ v H1, Q v H1 → Q' v H1) → ty σ H Q → ty σ H Q' := by intro σ H Q Q' hq h; exact ⟨_, h.choose_spec.1, hq _ _ h.choose_spec.2⟩) :
    PE X (.Subscript (.Name "SHAPES" p) i pos) (tShape X.K ty) := by
  obtain ⟨d, l, hm, t, ok⟩ := h
  intro pins s σ H Q I hw
  refine pe_tab hm t hi hs hg hd pins s σ H Q I (mono _ _ _ _ (fun y H1 q => ?_) hw)
  obtain ⟨k, n, m, rfl, hsh, q⟩ := q
  obtain ⟨a, ta, sq⟩ := ok k n m hsh
  exact ⟨k, a, rfl, ta, q a (sq H1)⟩
end Ac

set_option Elab.async false
set_option linter.all false
set_option maxHeartbeats 4000000
namespace Ac
open Vabldj
/-! How long an answer is; how a line of calls is read. -/
def ansOf (S : State) (c : Call) : List Int := VabldjNeutral.encode (step S c).2
theorem told_len (v : Nat) (l : List Nat) : (VabldjNeutral.encode (told v l)).length = l.length + 1 := by
  unfold VabldjNeutral.encode told
  simp
theorem no_len (k : Int) : (VabldjNeutral.encode (no k)).length = 1 := rfl
theorem onStore_len {S : State} (n : Int) (f : Bool → State × Answer) (hf : ∀ b, (VabldjNeutral.encode (f b).2).length ≤ 5200) : (VabldjNeutral.encode (onStore S n f).2).length ≤ 5200 := by
  unfold onStore
  split
  · rw [no_len]; decide
  · exact hf _
theorem onAction_len {S : State} (t : Int) (l : List Int) (f : Nat → Bytes → State × Answer) (hf : ∀ x m, m.length ≤ 64 → (VabldjNeutral.encode (f x m).2).length ≤ 5200) : (VabldjNeutral.encode (onAction S t l f).2).length ≤ 5200 := by
  unfold onAction
  split
  · rw [no_len]; decide
  · split
    · rw [no_len]; decide
    · rename_i hm
      exact hf _ _ (input_len hm)
theorem onTruth_len {S : State} (n : Int) (f : Bool → State) : (VabldjNeutral.encode (onTruth S n f).2).length ≤ 5200 := by
  unfold onTruth
  split
  · rw [no_len]; decide
  · rw [told_len]; decide
theorem work_len (S : State) (t : Nat) {l : Bytes} (hl : l.length ≤ 64) : (work S t l).2.outcome.output.length ≤ 128 := out_len t hl
theorem askFar_len {S : State} (h : StOk S) (t : Nat) {l : Bytes} (hl : l.length ≤ 64) : (askFar S t l).2.outcome.output.length ≤ 128 := by
  unfold askFar
  split
  · cases hf : find S.far t l with
    | none => exact work_len S t hl
    | some e =>
      obtain ⟨m, _⟩ := find_some hf
      show (if e.whole = true then _ else work { S with far := without S.far t l, spoilt := S.spoilt + 1 } t l : State × Got).2.outcome.output.length ≤ 128
      split
      · have n := h.far.ents e m
        exact Nat.le_trans n.2.2 n.2.1
      · exact work_len _ t hl
  · exact work_len S t hl
theorem doIt_len {S : State} (h : StOk S) (t : Nat) {l : Bytes} (hl : l.length ≤ 64) : (doIt S t l).2.outcome.output.length ≤ 128 := by
  unfold doIt
  cases hf : find S.near t l with
  | none => exact askFar_len h t hl
  | some e =>
    obtain ⟨m, _⟩ := find_some hf
    show (if e.whole = true then _ else askFar { S with near := without S.near t l, spoilt := S.spoilt + 1 } t l : State × Got).2.outcome.output.length ≤ 128
    split
    · have n := h.near.ents e m
      exact Nat.le_trans n.2.2 n.2.1
    · have h1 : StOk { S with near := without S.near t l, spoilt := S.spoilt + 1 } := ⟨h.near.sub List.filter_sublist, h.far⟩
      exact askFar_len h1 t hl
theorem flat5 (l : List Entry) : (l.flatMap fun e => [e.tool, e.status, e.length, e.bytes.length, e.input.length]).length = 5 * l.length := by
  induction l with
  | nil => rfl
  | cons e r ih => rw [List.flatMap_cons, List.length_append, ih]; simp; omega
theorem step_len {S : State} (h : StOk S) (c : Call) : (ansOf S c).length ≤ 5200 := by
  unfold ansOf
  cases c with
  | room n k =>
    refine onStore_len n _ fun far => ?_
    unfold setRoom
    split
    · rw [no_len]; decide
    · show (VabldjNeutral.encode (told _ [])).length ≤ 5200
      rw [told_len]; decide
  | there b => exact onTruth_len b _
  | send b => exact onTruth_len b _
  | failing b => exact onTruth_len b _
  | do_ t l =>
    refine onAction_len t l _ fun x m hm => ?_
    unfold done
    rw [told_len, List.length_cons]
    have := doIt_len h x hm
    omega
  | cut n t k l =>
    refine onStore_len n _ fun far => onAction_len t l _ fun x m hm => ?_
    unfold cutIt
    split
    · rw [no_len]; decide
    · split
      · rw [no_len]; decide
      · rw [told_len]; decide
  | forget n t l =>
    refine onStore_len n _ fun far => onAction_len t l _ fun x m hm => ?_
    unfold forgetIt
    split
    · rw [no_len]; decide
    · rw [told_len]; decide
  | clean n =>
    refine onStore_len n _ fun far => ?_
    show (VabldjNeutral.encode (told _ [])).length ≤ 5200
    rw [told_len]; decide
  | share =>
    show (VabldjNeutral.encode (shared S).2).length ≤ 5200
    unfold shared
    split
    · show (VabldjNeutral.encode (told _ [])).length ≤ 5200
      rw [told_len]; decide
    · rw [no_len]; decide
  | has n t l =>
    refine onStore_len n _ fun far => onAction_len t l _ fun x m hm => ?_
    show (VabldjNeutral.encode (hasIt S far x m)).length ≤ 5200
    unfold hasIt
    show (VabldjNeutral.encode (match find (S.store far) x m with | none => _ | some e => _)).length ≤ 5200
    split
    · rw [told_len]; decide
    · rw [told_len]; show 2 ≤ 5200; decide
  | list n =>
    refine onStore_len n _ fun far => ?_
    show (VabldjNeutral.encode (told 0 _)).length ≤ 5200
    rw [told_len, flat5]
    have := (h.pick far).length
    omega
  | counts =>
    show (VabldjNeutral.encode (told 0 _)).length ≤ 5200
    rw [told_len]
    show 8 ≤ 5200
    decide
/-! reading a line -/
/-- the twelve shapes -/
theorem shape_cases {p : Int} {n k : Nat} (h : PyVabldj.shape p = some (n, k)) : (p = 0 ∧ n = 2 ∧ k = 0) ∨ (p = 1 ∧ n = 1 ∧ k = 0) ∨ (p = 2 ∧ n = 1 ∧ k = 0) ∨ (p = 3 ∧ n = 1 ∧ k = 0) ∨ (p = 4 ∧ n = 1 ∧ k = 1) ∨ (p = 5 ∧ n = 3 ∧ k = 1) ∨ (p = 6 ∧ n = 2 ∧ k = 1) ∨ (p = 7 ∧ n = 1 ∧ k = 0) ∨ (p = 8 ∧ n = 0 ∧ k = 0) ∨ (p = 9 ∧ n = 2 ∧ k = 1) ∨ (p = 10 ∧ n = 1 ∧ k = 0) ∨ (p = 11 ∧ n = 0 ∧ k = 0) := by
  unfold PyVabldj.shape at h
  by_cases h0 : p = 0
  · rw [if_pos h0] at h
    cases h
    exact .inl (⟨h0, rfl, rfl⟩)
  rw [if_neg h0] at h
  by_cases h1 : p = 1
  · rw [if_pos h1] at h
    cases h
    exact .inr (.inl (⟨h1, rfl, rfl⟩))
  rw [if_neg h1] at h
  by_cases h2 : p = 2
  · rw [if_pos h2] at h
    cases h
    exact .inr (.inr (.inl (⟨h2, rfl, rfl⟩)))
  rw [if_neg h2] at h
  by_cases h3 : p = 3
  · rw [if_pos h3] at h
    cases h
    exact .inr (.inr (.inr (.inl (⟨h3, rfl, rfl⟩))))
  rw [if_neg h3] at h
  by_cases h4 : p = 4
  · rw [if_pos h4] at h
    cases h
    exact .inr (.inr (.inr (.inr (.inl (⟨h4, rfl, rfl⟩)))))
  rw [if_neg h4] at h
  by_cases h5 : p = 5
  · rw [if_pos h5] at h
    cases h
    exact .inr (.inr (.inr (.inr (.inr (.inl (⟨h5, rfl, rfl⟩))))))
  rw [if_neg h5] at h
  by_cases h6 : p = 6
  · rw [if_pos h6] at h
    cases h
    exact .inr (.inr (.inr (.inr (.inr (.inr (.inl (⟨h6, rfl, rfl⟩)))))))
  rw [if_neg h6] at h
  by_cases h7 : p = 7
  · rw [if_pos h7] at h
    cases h
    exact .inr (.inr (.inr (.inr (.inr (.inr (.inr (.inl (⟨h7, rfl, rfl⟩))))))))
  rw [if_neg h7] at h
  by_cases h8 : p = 8
  · rw [if_pos h8] at h
    cases h
    exact .inr (.inr (.inr (.inr (.inr (.inr (.inr (.inr (.inl (⟨h8, rfl, rfl⟩)))))))))
  rw [if_neg h8] at h
  by_cases h9 : p = 9
  · rw [if_pos h9] at h
    cases h
    exact .inr (.inr (.inr (.inr (.inr (.inr (.inr (.inr (.inr (.inl (⟨h9, rfl, rfl⟩))))))))))
  rw [if_neg h9] at h
  by_cases h10 : p = 10
  · rw [if_pos h10] at h
    cases h
    exact .inr (.inr (.inr (.inr (.inr (.inr (.inr (.inr (.inr (.inr (.inl (⟨h10, rfl, rfl⟩)))))))))))
  rw [if_neg h10] at h
  by_cases h11 : p = 11
  · rw [if_pos h11] at h
    cases h
    exact .inr (.inr (.inr (.inr (.inr (.inr (.inr (.inr (.inr (.inr (.inr ((⟨h11, rfl, rfl⟩))))))))))))
  rw [if_neg h11] at h
  cases h
theorem shape_small {p : Int} {n k : Nat} (h : PyVabldj.shape p = some (n, k)) : k ≤ 1 ∧ n ≤ 3 := by
  have := shape_cases h
  omega
theorem len0 {α : Type} {l : List α} (h : l.length = 0) : l = [] := List.length_eq_zero_iff.mp h
theorem len1 {α : Type} : ∀ {l : List α}, l.length = 1 → ∃ a, l = [a]
  | [a], _ => ⟨a, rfl⟩
theorem len2 {α : Type} : ∀ {l : List α}, l.length = 2 → ∃ a b, l = [a, b]
  | [a, b], _ => ⟨a, b, rfl⟩
theorem len3 {α : Type} : ∀ {l : List α}, l.length = 3 → ∃ a b c, l = [a, b, c]
  | [a, b, c], _ => ⟨a, b, c, rfl⟩
/-- the rows of a call -/
def rowsOf (c : Int) (xs : List Int) (k : Nat) (ns : List Int) : List (List Int) := (c :: xs) :: (if k = 1 then [ns] else [])

/-- a call that has its shape is one of the document's -/
theorem rows_call {c : Int} {xs ns : List Int} {k : Nat} (h : PyVabldj.shape c = some (xs.length, k)) : PyVabldj.whole (rowsOf c xs k ns) = rowsOf c xs k ns ∧ ∃ call, VabldjNeutral.callOf (rowsOf c xs k ns) = some call := by
  generalize hl : xs.length = n at h
  rcases shape_cases h with ⟨rfl, rfl, rfl⟩ | ⟨rfl, rfl, rfl⟩ | ⟨rfl, rfl, rfl⟩ | ⟨rfl, rfl, rfl⟩ | ⟨rfl, rfl, rfl⟩ | ⟨rfl, rfl, rfl⟩ | ⟨rfl, rfl, rfl⟩ | ⟨rfl, rfl, rfl⟩ | ⟨rfl, rfl, rfl⟩ | ⟨rfl, rfl, rfl⟩ | ⟨rfl, rfl, rfl⟩ | ⟨rfl, rfl, rfl⟩
  · obtain ⟨x0, x1, rfl⟩ := len2 hl
    exact ⟨rfl, _, rfl⟩
  · obtain ⟨x0, rfl⟩ := len1 hl
    exact ⟨rfl, _, rfl⟩
  · obtain ⟨x0, rfl⟩ := len1 hl
    exact ⟨rfl, _, rfl⟩
  · obtain ⟨x0, rfl⟩ := len1 hl
    exact ⟨rfl, _, rfl⟩
  · obtain ⟨x0, rfl⟩ := len1 hl
    exact ⟨rfl, _, rfl⟩
  · obtain ⟨x0, x1, x2, rfl⟩ := len3 hl
    exact ⟨rfl, _, rfl⟩
  · obtain ⟨x0, x1, rfl⟩ := len2 hl
    exact ⟨rfl, _, rfl⟩
  · obtain ⟨x0, rfl⟩ := len1 hl
    exact ⟨rfl, _, rfl⟩
  · obtain rfl := len0 hl
    exact ⟨rfl, _, rfl⟩
  · obtain ⟨x0, x1, rfl⟩ := len2 hl
    exact ⟨rfl, _, rfl⟩
  · obtain ⟨x0, rfl⟩ := len1 hl
    exact ⟨rfl, _, rfl⟩
  · obtain rfl := len0 hl
    exact ⟨rfl, _, rfl⟩
theorem call_inv {p : Int} {r : List Int} {c : List (List Int)} {t : List Int} (h : PyFlat.call PyVabldj.shape (p :: r) = some (c, t)) :
    ∃ n k, PyVabldj.shape p = some (n, k) ∧ n ≤ r.length ∧
      ((k = 0 ∧ c = [p :: r.take n] ∧ t = r.drop n) ∨ (k = 1 ∧ ∃ m r', r.drop n = m :: r' ∧ 0 ≤ m ∧ m.toNat ≤ r'.length ∧ c = [p :: r.take n, r'.take m.toNat] ∧ t = r'.drop m.toNat)) := by
  unfold PyFlat.call at h
  dsimp only at h
  cases hs : PyVabldj.shape p with
  | none => rw [hs] at h; cases h
  | some nk =>
    obtain ⟨n, k⟩ := nk
    rw [hs] at h
    have sm := shape_small hs
    dsimp only at h
    by_cases hl : r.length < n
    · rw [if_pos hl] at h; cases h
    · rw [if_neg hl] at h
      refine ⟨n, k, rfl, by omega, ?_⟩
      obtain rfl | rfl : k = 0 ∨ k = 1 := by omega
      · unfold PyFlat.rows at h
        dsimp only at h
        cases h
        exact .inl ⟨rfl, rfl, rfl⟩
      · unfold PyFlat.rows at h
        cases hd : r.drop n with
        | nil => rw [hd] at h; unfold PyFlat.row at h; cases h
        | cons m r' =>
          rw [hd] at h
          unfold PyFlat.row at h
          dsimp only at h
          by_cases hm : 0 ≤ m ∧ m.toNat ≤ r'.length
          · rw [if_pos hm] at h
            unfold PyFlat.rows at h
            dsimp only at h
            cases h
            exact .inr ⟨rfl, m, r', rfl, hm.1, hm.2, rfl, rfl⟩
          · rw [if_neg hm] at h
            cases h
theorem calls_cons {f : Nat} {p : Int} {r : List Int} {cs : List (List (List Int))} (h : PyFlat.calls PyVabldj.shape f (p :: r) = some cs) :
    ∃ f' c t cs', PyFlat.call PyVabldj.shape (p :: r) = some (c, t) ∧ PyFlat.calls PyVabldj.shape f' t = some cs' ∧ cs = c :: cs' := by
  cases f with
  | zero => unfold PyFlat.calls at h; cases h
  | succ f =>
    unfold PyFlat.calls at h
    cases hc : PyFlat.call PyVabldj.shape (p :: r) with
    | none => rw [hc] at h; cases h
    | some ct =>
      obtain ⟨c, t⟩ := ct
      rw [hc] at h
      dsimp only at h
      cases hf : PyFlat.calls PyVabldj.shape f t with
      | none => rw [hf] at h; cases h
      | some cs' =>
        rw [hf] at h
        cases h
        exact ⟨f, c, t, cs', rfl, hf, rfl⟩
theorem calls_nil {f : Nat} {cs : List (List (List Int))} (h : PyFlat.calls PyVabldj.shape f [] = some cs) : cs = [] := by
  cases f <;> (unfold PyFlat.calls at h; cases h; rfl)
theorem call_rows {p : Int} {r : List Int} {c : List (List Int)} {t : List Int} (h : PyFlat.call PyVabldj.shape (p :: r) = some (c, t)) : PyVabldj.whole c = c ∧ ∃ k, VabldjNeutral.callOf c = some k := by
  obtain ⟨n, k, hs, hn, h'⟩ := call_inv h
  have hl : (r.take n).length = n := by rw [List.length_take]; omega
  rw [← hl] at hs
  rcases h' with ⟨rfl, rfl, _⟩ | ⟨rfl, m, r', _, _, _, rfl, _⟩
  · exact rows_call (ns := []) hs
  · exact rows_call (ns := r'.take m.toNat) hs
theorem calls_rows : ∀ {f : Nat} {l : List Int} {cs : List (List (List Int))}, PyFlat.calls PyVabldj.shape f l = some cs → ∀ c ∈ cs, PyVabldj.whole c = c ∧ ∃ k, VabldjNeutral.callOf c = some k
  | f, [], cs, h, c, hc => by
    rw [calls_nil h] at hc
    cases hc
  | 0, p :: r, cs, h, c, hc => by
    unfold PyFlat.calls at h
    cases h
  | f + 1, p :: r, cs, h, c, hc => by
    unfold PyFlat.calls at h
    cases hk : PyFlat.call PyVabldj.shape (p :: r) with
    | none => rw [hk] at h; cases h
    | some ct =>
      obtain ⟨c1, t⟩ := ct
      rw [hk] at h
      dsimp only at h
      cases hf : PyFlat.calls PyVabldj.shape f t with
      | none => rw [hf] at h; cases h
      | some cs' =>
        rw [hf] at h
        cases h
        rcases List.mem_cons.mp hc with z | z
        · rw [z]
          exact call_rows hk
        · exact calls_rows hf c z
theorem whole_map {f : Nat} {l : List Int} {cs : List (List (List Int))} (h : PyFlat.calls PyVabldj.shape f l = some cs) : cs.map PyVabldj.whole = cs := by
  have e : cs.map PyVabldj.whole = cs.map id := List.map_congr_left fun c hc => (calls_rows h c hc).1
  rw [e, List.map_id]
theorem asked_line {l : List Int} (h : PyVabldj.answers_asked l = true) : ∃ cs, PyFlat.calls PyVabldj.shape l.length l = some cs ∧ cs.length ≤ 400 ∧ (∀ c ∈ cs, ∃ k, VabldjNeutral.callOf c = some k) ∧
    PyVabldj.answers l = PyFlat.told (PyFlat.played VabldjNeutral.step VabldjNeutral.start cs) := by
  unfold PyVabldj.answers_asked at h
  cases hc : PyFlat.calls PyVabldj.shape l.length l with
  | none => rw [hc] at h; cases h
  | some cs =>
    rw [hc] at h
    dsimp only at h
    rw [whole_map hc] at h
    simp only [Bool.and_eq_true] at h
    obtain ⟨⟨h1, h2⟩, h3⟩ := h
    unfold VabldjNeutral.asked at h3
    simp only [Bool.and_eq_true] at h3
    refine ⟨cs, rfl, of_decide_eq_true h3.2.2, fun c hm => (calls_rows hc c hm).2, ?_⟩
    unfold PyVabldj.answers PyVabldj.calls
    rw [hc]
    dsimp only
    rw [whole_map hc]
end Ac

set_option Elab.async false
set_option linter.all false
set_option maxRecDepth 100000
set_option maxHeartbeats 2000000
namespace Ac
open PySem PySem.Spec PyProof.Rows L2
local macro_rules | `(tactic| walk_at "ac") => `(tactic| simp [tSeq, tNext, tIfS, tRet, tRetN, tDrop, tAsg, gName, tAug, ipI, tTest, tB, tOp, tUn, tVar, tC, tIf, tChain, tAnd, tOr, tNot, tAndV, tOrV, tNotV, tTup, tLst, tCons, tNil, tCB, tFld, sFld, sFldAug, tCall, rAdd, rI, rI0, rEq, rNe, L2.start, scal])
/-- what the module holds: its constants, the built-ins that it does not hide -/
structure Txt (K : PySem.W.Frag) (mg : Str → Option Value) (CE CS CO : Addr) : Prop where
  g_LIMIT : ∃ t, mg "LIMIT" = some (.int (-1) t)
  g_TOOL : ∃ t, mg "TOOL" = some (.int (-2) t)
  g_INPUT : ∃ t, mg "INPUT" = some (.int (-3) t)
  g_STORE : ∃ t, mg "STORE" = some (.int (-4) t)
  g_ABSENT : ∃ t, mg "ABSENT" = some (.int (-5) t)
  g_ROOM_CALL : ∃ t, mg "ROOM_CALL" = some (.int (0) t)
  g_THERE_CALL : ∃ t, mg "THERE_CALL" = some (.int (1) t)
  g_SEND_CALL : ∃ t, mg "SEND_CALL" = some (.int (2) t)
  g_FAILING_CALL : ∃ t, mg "FAILING_CALL" = some (.int (3) t)
  g_DO_CALL : ∃ t, mg "DO_CALL" = some (.int (4) t)
  g_CUT_CALL : ∃ t, mg "CUT_CALL" = some (.int (5) t)
  g_FORGET_CALL : ∃ t, mg "FORGET_CALL" = some (.int (6) t)
  g_CLEAN_CALL : ∃ t, mg "CLEAN_CALL" = some (.int (7) t)
  g_SHARE_CALL : ∃ t, mg "SHARE_CALL" = some (.int (8) t)
  g_HAS_CALL : ∃ t, mg "HAS_CALL" = some (.int (9) t)
  g_LIST_CALL : ∃ t, mg "LIST_CALL" = some (.int (10) t)
  g_LAST_TOOL : ∃ t, mg "LAST_TOOL" = some (.int (5) t)
  g_MOST_BYTES : ∃ t, mg "MOST_BYTES" = some (.int (64) t)
  g_LAST_BYTE : ∃ t, mg "LAST_BYTE" = some (.int (255) t)
  g_FIRST_ROOM : ∃ t, mg "FIRST_ROOM" = some (.int (256) t)
  g_MOST_ROOM : ∃ t, mg "MOST_ROOM" = some (.int (1024) t)
  g_WORKED : ∃ t, mg "WORKED" = some (.int (0) t)
  g_FROM_NEAR : ∃ t, mg "FROM_NEAR" = some (.int (1) t)
  g_FROM_FAR : ∃ t, mg "FROM_FAR" = some (.int (2) t)
  g_HAS_NONE : ∃ t, mg "HAS_NONE" = some (.int (0) t)
  g_HAS_WHOLE : ∃ t, mg "HAS_WHOLE" = some (.int (1) t)
  g_HAS_CUT : ∃ t, mg "HAS_CUT" = some (.int (2) t)
  g_FINE : ∃ t, mg "FINE" = some (.int (0) t)
  g_NOWHERE : ∃ t, mg "NOWHERE" = some (.int (-1) t)
  n_list : mg "list" = none
  n_reversed : mg "reversed" = none
  n_sorted : mg "sorted" = none
  n_sum : mg "sum" = none
  n_len : mg "len" = none
  n_enumerate : mg "enumerate" = none
  c_Entry : Cls K CE
  c_Store : Cls K CS
  c_Session : Cls K CO
  eS : CE ≠ CS
  eO : CE ≠ CO
  sO : CS ≠ CO
  e_tool : NoAttr K CE "tool"
  e_given : NoAttr K CE "given"
  e_status : NoAttr K CE "status"
  e_length : NoAttr K CE "length"
  e_held : NoAttr K CE "held"
  s_room : NoAttr K CS "room"
  s_entries : NoAttr K CS "entries"
  o_near : NoAttr K CO "near"
  o_far : NoAttr K CO "far"
  o_far_is_there : NoAttr K CO "far_is_there"
  o_sends : NoAttr K CO "sends"
  o_keeps_failing : NoAttr K CO "keeps_failing"
  o_worked : NoAttr K CO "worked"
  o_from_near : NoAttr K CO "from_near"
  o_from_far : NoAttr K CO "from_far"
  o_sent : NoAttr K CO "sent"
  o_dropped : NoAttr K CO "dropped"
  o_spoilt : NoAttr K CO "spoilt"
  shapes : Shapes K mg
section
variable {P : Program} {w : World} {K : PySem.W.Frag} {mg : Str → Option Value} {base : Heap} {CE CS CO : Addr}
abbrev s_look_at_tool : Stmt := top 34
theorem sc_look_at_tool : FnScope ["tool"] ["tool"] (defScope s_look_at_tool) := ⟨rfl, rfl, rfl, by decide +kernel, rfl, by decide +kernel, by decide +kernel⟩
abbrev s_look_at_store : Stmt := top 36
theorem sc_look_at_store : FnScope ["number"] ["number"] (defScope s_look_at_store) := ⟨rfl, rfl, rfl, by decide +kernel, rfl, by decide +kernel, by decide +kernel⟩
abbrev s_look_at_truth : Stmt := top 37
theorem sc_look_at_truth : FnScope ["number"] ["number"] (defScope s_look_at_truth) := ⟨rfl, rfl, rfl, by decide +kernel, rfl, by decide +kernel, by decide +kernel⟩
abbrev s_look_at_input : Stmt := top 35
theorem sc_look_at_input : FnScope ["given", "number"] ["given"] (defScope s_look_at_input) := ⟨rfl, rfl, rfl, by decide +kernel, rfl, by decide +kernel, by decide +kernel⟩
abbrev s_look_at_action : Stmt := top 38
theorem sc_look_at_action : FnScope ["tool", "given", "refusal"] ["tool", "given"] (defScope s_look_at_action) := ⟨rfl, rfl, rfl, by decide +kernel, rfl, by decide +kernel, by decide +kernel⟩
abbrev s_look_at_stored_action : Stmt := top 39
theorem sc_look_at_stored_action : FnScope ["number", "tool", "given", "refusal"] ["number", "tool", "given"] (defScope s_look_at_stored_action) := ⟨rfl, rfl, rfl, by decide +kernel, rfl, by decide +kernel, by decide +kernel⟩
def toolR (t : Int) : Int := if 0 ≤ t ∧ t ≤ 5 then 0 else -2
def storeR (t : Int) : Int := if t = 0 ∨ t = 1 then 0 else -4
def truthR (t : Int) : Int := if t = 0 ∨ t = 1 then 0 else -1
def inputR (ns : List Int) : Int := if 64 < ns.length ∨ ns.all (fun n => decide (0 ≤ n) && decide (n ≤ 255)) = false then -3 else 0
def actionR (t : Int) (ns : List Int) : Int := if toolR t = 0 then inputR ns else toolR t
def storedR (n t : Int) (ns : List Int) : Int := if storeR n = 0 then actionR t ns else storeR n
def sp_look_at_tool : Sp := fun vs H Q _ => ∃ t : Int, vs = [.int t] ∧ Q (.int (toolR t)) H
def sp_look_at_store : Sp := fun vs H Q _ => ∃ t : Int, vs = [.int t] ∧ Q (.int (storeR t)) H
def sp_look_at_truth : Sp := fun vs H Q _ => ∃ t : Int, vs = [.int t] ∧ Q (.int (truthR t)) H
def sp_look_at_input (K : PySem.W.Frag) : Sp := fun vs H Q _ => ∃ (a : Addr) (ns : List Int), vs = [.ref a] ∧ SqL K H a (ns.map V.int) ∧ Q (.int (inputR ns)) H
def sp_look_at_action (K : PySem.W.Frag) : Sp := fun vs H Q _ => ∃ (t : Int) (a : Addr) (ns : List Int), vs = [.int t, .ref a] ∧ SqL K H a (ns.map V.int) ∧ Q (.int (actionR t ns)) H
def sp_look_at_stored_action (K : PySem.W.Frag) : Sp := fun vs H Q _ => ∃ (n t : Int) (a : Addr) (ns : List Int), vs = [.int n, .int t, .ref a] ∧ SqL K H a (ns.map V.int) ∧ Q (.int (storedR n t ns)) H
theorem ok_look_at_tool (T : Txt K mg CE CS CO) (D : DefG K mg "look_at_tool" s_look_at_tool ["tool"]) : Prom P w K mg base 1 "look_at_tool" ["tool"] sp_look_at_tool := by
  have sc := sc_look_at_tool
  refine D.prom sc (fun vs H Q E h => ?_) (fun f cdv A outer s H vs Q E hr h => ?_)
  · obtain ⟨t, rfl, _⟩ := h
    rfl
  · obtain ⟨t, rfl, q⟩ := h
    refine ⟨_, (pss_one (ps_ret (pe_ifExp (pt_chain op_le op_le pe_int (pv 0) (pe_gi T.g_LAST_TOOL)) (pe_gi T.g_FINE) (pe_gi T.g_TOOL)))), ?_⟩
    walk_at "ac"
    unfold toolR at q
    split
    · split <;> simp_all
    · simp_all
theorem ok_look_at_store (T : Txt K mg CE CS CO) (D : DefG K mg "look_at_store" s_look_at_store ["number"]) : Prom P w K mg base 1 "look_at_store" ["number"] sp_look_at_store := by
  have sc := sc_look_at_store
  refine D.prom sc (fun vs H Q E h => ?_) (fun f cdv A outer s H vs Q E hr h => ?_)
  · obtain ⟨t, rfl, _⟩ := h
    rfl
  · obtain ⟨t, rfl, q⟩ := h
    refine ⟨_, (pss_one (ps_ret (pe_ifExp (PW.pt (pw_or (pt_cmpR op_eq (pv 0) pe_int (nomark _)) (pw_or1 (pt_cmpR op_eq (pv 0) pe_int (nomark _))))) (pe_gi T.g_FINE) (pe_gi T.g_STORE)))), ?_⟩
    walk_at "ac"
    unfold storeR at q
    split
    · simp_all
    · split <;> simp_all
theorem ok_look_at_truth (T : Txt K mg CE CS CO) (D : DefG K mg "look_at_truth" s_look_at_truth ["number"]) : Prom P w K mg base 1 "look_at_truth" ["number"] sp_look_at_truth := by
  have sc := sc_look_at_truth
  refine D.prom sc (fun vs H Q E h => ?_) (fun f cdv A outer s H vs Q E hr h => ?_)
  · obtain ⟨t, rfl, _⟩ := h
    rfl
  · obtain ⟨t, rfl, q⟩ := h
    refine ⟨_, (pss_one (ps_ret (pe_ifExp (PW.pt (pw_or (pt_cmpR op_eq (pv 0) pe_int (nomark _)) (pw_or1 (pt_cmpR op_eq (pv 0) pe_int (nomark _))))) (pe_gi T.g_FINE) (pe_gi T.g_LIMIT)))), ?_⟩
    walk_at "ac"
    unfold truthR at q
    split
    · simp_all
    · split <;> simp_all
theorem getI {ns : List Int} {i : Nat} {y : V} (h : (ns.map V.int)[i]? = some y) : ∃ z, ns[i]? = some z ∧ y = V.int z := by
  rw [List.getElem?_map] at h
  cases e : ns[i]? with
  | none => rw [e] at h; cases h
  | some z => rw [e] at h; exact ⟨z, rfl, (Option.some.inj h).symm⟩
theorem take_snoc {α : Type} : ∀ {l : List α} {i : Nat} {x : α}, l[i]? = some x → l.take (i + 1) = l.take i ++ [x]
  | [], i, x, h => by simp at h
  | a :: l, 0, x, h => by
    have e : a = x := Option.some.inj h
    subst e
    rfl
  | a :: l, i + 1, x, h => by
    have ih := take_snoc (l := l) (i := i) (x := x) h
    show a :: l.take (i + 1) = a :: l.take i ++ [x]
    rw [ih]
    rfl
theorem ok_look_at_input (T : Txt K mg CE CS CO) (D : DefG K mg "look_at_input" s_look_at_input ["given"]) : Prom P w K mg base 1 "look_at_input" ["given"] (sp_look_at_input K) := by
  have sc := sc_look_at_input
  refine D.prom sc (fun vs H Q E h => ?_) (fun f cdv A outer s H vs Q E hr h => ?_)
  · obtain ⟨a, ns, rfl, _⟩ := h
    rfl
  · obtain ⟨a, ns, rfl, hS, q⟩ := h
    refine ⟨_, (pss_cons (ps_if (pt_cmpR op_gt (pe_callB call_len_seq rfl T.n_len PySem.boot_len (pa_cons (pv 0) pa_nil)) (pe_gi T.g_MOST_BYTES) (nomark _)) (pss_one (ps_ret (pe_gi T.g_INPUT))) pss_nil)
      (pss_cons (ps_for PassesOwn.never rfl (pi_list (pv 0)) (pg_name (i := 1) sc.nd rfl (Or.inl rfl)) (pss_one (ps_if (PW.pt (pw_or (pt_cmpR op_lt (pv 1) pe_int (nomark _)) (pw_or1 (pt_cmpR op_gt (pv 1) (pe_gi T.g_LAST_BYTE) (nomark _))))) (pss_one (ps_ret (pe_gi T.g_INPUT))) pss_nil)))
      (pss_one (ps_ret (pe_gi T.g_FINE))))), ?_⟩
    refine ⟨_, rfl, a, _, rfl, .inl hS, _, _, rfl, rfl, _, rfl, ite2 (fun c => ?_) (fun c => ?_)⟩
    · have c' : 64 < ns.length := by simp at c; omega
      have e : inputR ns = -3 := by unfold inputR; rw [if_pos (.inl c')]
      rw [e] at q
      exact q
    · have c' : ¬ 64 < ns.length := by simp at c; omega
      refine ⟨_, rfl, a, rfl, ⟨_, hS⟩, for_list (K := K) (a := a) (xs := ns.map V.int) (fun i σ H' => ∃ v : Option V, σ = [some (.ref a), v] ∧ H' = H ∧ (ns.take i).all (fun n => decide (0 ≤ n) && decide (n ≤ 255)) = true)
        ⟨none, rfl, rfl, rfl⟩ (fun i σ H' _ ⟨_, _, e, _⟩ => by rw [e]; exact hS) ?_ ?_⟩
      · rintro i y σ H' hi ⟨v, rfl, rfl, al⟩
        obtain ⟨z, hz, rfl⟩ := getI hi
        walk_at "ac"
        have bad : (z < 0 ∨ 255 < z) → Q (V.int (-3)) H' := fun b => by
          have e : inputR ns = -3 := by
            have hb : ns.all (fun n => decide (0 ≤ n) && decide (n ≤ 255)) = false := by
              rw [List.all_eq_false]
              refine ⟨z, List.mem_of_getElem? hz, ?_⟩
              simp
              omega
            exact if_pos (.inr hb)
          rw [e] at q
          exact q
        split
        · exact bad (.inl ‹_›)
        · split
          · exact bad (.inr ‹_›)
          · intro x hx
            rw [take_snoc hz] at hx
            rcases List.mem_append.mp hx with hx | hx
            · have h := List.all_eq_true.mp al x hx
              simpa using h
            · rw [List.mem_singleton.mp hx]
              omega
      · rintro σ H' ⟨v, rfl, rfl, al⟩
        rw [List.length_map, List.take_length] at al
        have e : inputR ns = 0 := by unfold inputR; rw [if_neg]; rintro (h | h); exact c' h; rw [al] at h; cases h
        rw [e] at q
        exact q
theorem toolR_0 {t : Int} : toolR t = 0 ↔ 0 ≤ t ∧ t ≤ 5 := by unfold toolR; split <;> simp_all
theorem storeR_0 {t : Int} : storeR t = 0 ↔ t = 0 ∨ t = 1 := by unfold storeR; split <;> simp_all
theorem truthR_0 {t : Int} : truthR t = 0 ↔ t = 0 ∨ t = 1 := by unfold truthR; split <;> simp_all
theorem ok_look_at_action (T : Txt K mg CE CS CO) (D : DefG K mg "look_at_action" s_look_at_action ["tool", "given"]) (p_look_at_tool : Prom P w K mg base 1 "look_at_tool" ["tool"] sp_look_at_tool)
    (p_look_at_input : Prom P w K mg base 1 "look_at_input" ["given"] (sp_look_at_input K)) : Prom P w K mg base 2 "look_at_action" ["tool", "given"] (sp_look_at_action K) := by
  have sc := sc_look_at_action
  refine D.prom sc (fun vs H Q E h => ?_) (fun f cdv A outer s H vs Q E hr h => ?_)
  · obtain ⟨t, a, ns, rfl, _⟩ := h
    rfl
  · obtain ⟨t, a, ns, rfl, hS, q⟩ := h
    refine ⟨_, (pss_cons (ps_set (i := 2) sc.nd rfl (Or.inl rfl) (pe_callP p_look_at_tool (hr.mono (by decide)) (pa_cons (pv 0) pa_nil)))
      (pss_cons (ps_if (pt_cmpR op_ne (pv 2) (pe_gi T.g_FINE) (nomark _)) (pss_one (ps_ret (pv 2))) pss_nil)
      (pss_one (ps_ret (pe_callP p_look_at_input (hr.mono (by decide)) (pa_cons (pv 1) pa_nil)))))), ?_⟩
    refine ⟨_, rfl, t, rfl, ?_⟩
    unfold actionR at q
    by_cases c : toolR t = 0
    · rw [if_pos c] at q
      walk_at "ac"
      exact .inl ⟨c, a, ns, rfl, hS, q⟩
    · rw [if_neg c] at q
      walk_at "ac"
      exact .inr ⟨c, q⟩
theorem ok_look_at_stored_action (T : Txt K mg CE CS CO) (D : DefG K mg "look_at_stored_action" s_look_at_stored_action ["number", "tool", "given"]) (p_look_at_store : Prom P w K mg base 1 "look_at_store" ["number"] sp_look_at_store)
    (p_look_at_action : Prom P w K mg base 2 "look_at_action" ["tool", "given"] (sp_look_at_action K)) : Prom P w K mg base 3 "look_at_stored_action" ["number", "tool", "given"] (sp_look_at_stored_action K) := by
  have sc := sc_look_at_stored_action
  refine D.prom sc (fun vs H Q E h => ?_) (fun f cdv A outer s H vs Q E hr h => ?_)
  · obtain ⟨n, t, a, ns, rfl, _⟩ := h
    rfl
  · obtain ⟨n, t, a, ns, rfl, hS, q⟩ := h
    refine ⟨_, (pss_cons (ps_set (i := 3) sc.nd rfl (Or.inl rfl) (pe_callP p_look_at_store (hr.mono (by decide)) (pa_cons (pv 0) pa_nil)))
      (pss_cons (ps_if (pt_cmpR op_ne (pv 3) (pe_gi T.g_FINE) (nomark _)) (pss_one (ps_ret (pv 3))) pss_nil)
      (pss_one (ps_ret (pe_callP p_look_at_action (hr.mono (by decide)) (pa_cons (pv 1) (pa_cons (pv 2) pa_nil))))))), ?_⟩
    refine ⟨_, rfl, n, rfl, ?_⟩
    unfold storedR at q
    by_cases c : storeR n = 0
    · rw [if_pos c] at q
      walk_at "ac"
      exact .inl ⟨c, t, a, ns, rfl, hS, q⟩
    · rw [if_neg c] at q
      walk_at "ac"
      exact .inr ⟨c, q⟩
end
end Ac

set_option Elab.async false
set_option linter.all false
set_option maxRecDepth 100000
set_option maxHeartbeats 2000000
namespace Ac
open PySem PySem.Spec PyProof.Rows L2
local macro_rules | `(tactic| walk_at "ac") => `(tactic| simp [tSeq, tNext, tIfS, tRet, tRetN, tDrop, tAsg, gName, tAug, ipI, tTest, tB, tOp, tUn, tVar, tC, tIf, tChain, tAnd, tOr, tNot, tAndV, tOrV, tNotV, tTup, tLst, tCons, tNil, tCB, tFld, sFld, sFldAug, tCall, rAdd, rI, rI0, rEq, rNe, L2.start, scal])
section
variable {P : Program} {w : World} {K : PySem.W.Frag} {mg : Str → Option Value} {base : Heap} {CE CS CO : Addr}
abbrev s_doubled : Stmt := top 32
theorem sc_doubled : FnScope ["given", "output", "byte"] ["given"] (defScope s_doubled) := ⟨rfl, rfl, rfl, by decide +kernel, rfl, by decide +kernel, by decide +kernel⟩
abbrev s_zeros_outcome : Stmt := top 33
theorem sc_zeros_outcome : FnScope ["given", "zeros"] ["given"] (defScope s_zeros_outcome) := ⟨rfl, rfl, rfl, by decide +kernel, rfl, by decide +kernel, by decide +kernel⟩
abbrev s_outcome : Stmt := top 31
theorem sc_outcome : FnScope ["tool", "given", "total"] ["tool", "given"] (defScope s_outcome) := ⟨rfl, rfl, rfl, by decide +kernel, rfl, by decide +kernel, by decide +kernel⟩
theorem Same.refl (H : Hp) : Same H H := fun _ _ e => e
theorem Same.new {H : Hp} {p : Addr} {o : HO} (h : H p = none) : Same H (upd H p o) := fun b u e => by rw [upd_ne (ne_of_none e h)]; exact e
/-- a new pair of a status and a new list -/
def OutAt (H' : Hp) (p : Addr) (st : Nat) (out : List Nat) (q : Addr) : Prop := H' p = some (.tup [.int (st : Int), .ref q]) ∧ H' q = some (.lst (vI out))
def sp_doubled (K : PySem.W.Frag) : Sp := fun vs H Q _ => ∃ (a : Addr) (l : List Nat), vs = [.ref a] ∧ SqL K H a (vI l) ∧ l.length ≤ 64 ∧
  ∀ (H' : Hp) (p : Addr), Same H H' → H p = none → H' p = some (.lst (vI (l.flatMap fun x => [x, x]))) → Q (.ref p) H'
def sp_zeros (K : PySem.W.Frag) : Sp := fun vs H Q _ => ∃ (a : Addr) (l : List Nat), vs = [.ref a] ∧ SqL K H a (vI l) ∧ l.length ≤ 64 ∧
  ∀ (H' : Hp) (p q : Addr), Same H H' → H p = none → H q = none → OutAt H' p (Vabldj.outcome 5 l).status (Vabldj.outcome 5 l).output q → Q (.ref p) H'
def sp_outcome (K : PySem.W.Frag) : Sp := fun vs H Q _ => ∃ (t : Nat) (a : Addr) (l : List Nat), vs = [.int t, .ref a] ∧ t ≤ 5 ∧ SqL K H a (vI l) ∧ l.length ≤ 64 ∧
  ∀ (H' : Hp) (p q : Addr), Same H H' → H p = none → H q = none → OutAt H' p (Vabldj.outcome t l).status (Vabldj.outcome t l).output q → Q (.ref p) H'
theorem ok_doubled (T : Txt K mg CE CS CO) (D : DefG K mg "doubled" s_doubled ["given"]) : Prom P w K mg base 1 "doubled" ["given"] (sp_doubled K) := by
  have sc := sc_doubled
  refine D.prom sc (fun vs H Q E h => ?_) (fun f cdv A outer s H vs Q E hr h => ?_)
  · obtain ⟨a, l, rfl, _⟩ := h
    rfl
  · obtain ⟨a, l, rfl, hS, hl, k⟩ := h
    refine ⟨_, (pss_cons (ps_set (i := 1) sc.nd rfl (Or.inl rfl) (pe_lst pa_nil))
      (pss_cons (ps_for PassesOwn.never rfl (pi_list (pv 0)) (pg_name (i := 2) sc.nd rfl (Or.inl rfl)) (pss_cons (ps_expr (pe_bm PySem.F.plainAttrs_list PySem.F.slot_list_append PySem.F.type_list_append mt_append (pv 1) (pa_cons (pv 2) pa_nil)))
      (pss_one (ps_expr (pe_bm PySem.F.plainAttrs_list PySem.F.slot_list_append PySem.F.type_list_append mt_append (pv 1) (pa_cons (pv 2) pa_nil))))))
      (pss_one (ps_ret (pv 1))))), ?_⟩
    refine ⟨Nat.zero_le _, fun q hq => ?_⟩
    have s1 : Same H (upd H q (.lst [])) := Same.new hq
    refine ⟨_, rfl, a, rfl, ⟨_, s1.seq hS⟩, for_list (K := K) (a := a) (xs := vI l) (fun i σ H' => ∃ v : Option V, σ = [some (.ref a), some (.ref q), v] ∧ Same H H' ∧ H' q = some (.lst (vI ((l.take i).flatMap fun x => [x, x]))))
      ⟨none, rfl, s1, upd_same⟩ (fun i σ H' _ ⟨_, _, e, _⟩ => e.seq hS) ?_ ?_⟩
    · rintro i y σ H' hi ⟨v, rfl, s2, hq'⟩
      obtain ⟨z, hz, rfl⟩ := getI hi
      have hz' : ∃ b : Nat, l[i]? = some b ∧ z = b := by
        unfold zs at hz
        rw [List.getElem?_map] at hz
        cases e : l[i]? with
        | none => rw [e] at hz; cases hz
        | some b => rw [e] at hz; exact ⟨b, rfl, (Option.some.inj hz).symm⟩
      obtain ⟨b, hb, rfl⟩ := hz'
      have hlen : ((l.take i).flatMap fun x => [x, x]).length ≤ 128 := by
        rw [List.length_flatMap]
        have : ((l.take i).map fun x => [x, x].length) = List.replicate (l.take i).length 2 := by simp [List.map_const']
        rw [this]
        simp
        omega
      have hs := sizeLine_eq
      refine ⟨_, rfl, .inl ⟨rfl, _, SqL.of hq'⟩, _, rfl, q, _, _, rfl, rfl, hq', by rw [vI_length]; omega, ?_⟩
      refine ⟨_, rfl, .inl ⟨rfl, _, SqL.of upd_same⟩, _, rfl, q, _, _, rfl, rfl, upd_same, by rw [List.length_append, vI_length, List.length_singleton]; omega, ?_⟩
      refine ⟨_, rfl, fun c o e => ?_, ?_⟩
      · have hc : c ≠ q := fun z => by rw [z, hq] at e; cases e
        rw [upd_ne hc, upd_ne hc]
        exact s2 c o e
      · rw [upd_same, take_snoc hb, List.flatMap_append, vI_append]
        simp [vI, zs]
    · rintro σ H' ⟨v, rfl, s2, hq'⟩
      rw [vI_length, List.take_length] at hq'
      exact ⟨_, rfl, k H' q s2 hq hq'⟩
theorem ok_zeros (T : Txt K mg CE CS CO) (D : DefG K mg "zeros_outcome" s_zeros_outcome ["given"]) : Prom P w K mg base 1 "zeros_outcome" ["given"] (sp_zeros K) := by
  have sc := sc_zeros_outcome
  refine D.prom sc (fun vs H Q E h => ?_) (fun f cdv A outer s H vs Q E hr h => ?_)
  · obtain ⟨a, l, rfl, _⟩ := h
    rfl
  · obtain ⟨a, l, rfl, hS, hl, k⟩ := h
    refine ⟨_, (pss_cons (ps_set (i := 1) sc.nd rfl (Or.inl rfl) (pe_bm PySem.F.plainAttrs_list PySem.F.slot_list_count PySem.F.type_list_count mt_countL (pv 0) (pa_cons pe_int pa_nil)))
      (pss_cons (ps_if (pt_cmpR op_eq (pv 1) pe_int (nomark _)) (pss_one (ps_ret (pe_tup (pa_cons pe_int (pa_cons (pe_lst pa_nil) pa_nil))))) pss_nil)
      (pss_one (ps_ret (pe_tup (pa_cons pe_int (pa_cons (pe_lst (pa_cons (pv 1) pa_nil)) pa_nil))))))), ?_⟩
    refine ⟨_, rfl, .inl ⟨rfl, _, hS⟩, a, zs l, 0, rfl, rfl, hS, ?_⟩
    rw [zs_count]
    refine ⟨_, rfl, rfl, _, rfl, ite2 (fun c => ?_) (fun c => ?_)⟩
    · have c' : Vabldj.zeros l = 0 := by simp at c; omega
      refine ⟨Nat.zero_le _, fun q hq => ⟨by show 2 ≤ sizeLine; decide, fun p hp => ?_⟩⟩
      have hpq : q ≠ p := fun z => by rw [z, upd_same] at hp; cases hp
      have hp' : H p = none := by rw [upd_ne hpq.symm] at hp; exact hp
      refine k _ p q ((Same.new hq).trans (Same.new hp)) hp' hq ?_
      unfold Vabldj.outcome OutAt
      rw [if_pos c']
      exact ⟨upd_same, by rw [upd_ne hpq, upd_same]; rfl⟩
    · have c' : ¬ Vabldj.zeros l = 0 := by simp at c; omega
      refine ⟨_, rfl, by show 1 ≤ sizeLine; decide, fun q hq => ⟨by show 2 ≤ sizeLine; decide, fun p hp => ?_⟩⟩
      have hpq : q ≠ p := fun z => by rw [z, upd_same] at hp; cases hp
      have hp' : H p = none := by rw [upd_ne hpq.symm] at hp; exact hp
      refine k _ p q ((Same.new hq).trans (Same.new hp)) hp' hq ?_
      unfold Vabldj.outcome OutAt
      rw [if_neg c']
      exact ⟨upd_same, by rw [upd_ne hpq, upd_same]; rfl⟩
theorem ok_outcome (T : Txt K mg CE CS CO) (D : DefG K mg "outcome" s_outcome ["tool", "given"]) (p_doubled : Prom P w K mg base 1 "doubled" ["given"] (sp_doubled K)) (p_zeros_outcome : Prom P w K mg base 1 "zeros_outcome" ["given"] (sp_zeros K)) :
    Prom P w K mg base 2 "outcome" ["tool", "given"] (sp_outcome K) := by
  have sc := sc_outcome
  refine D.prom sc (fun vs H Q E h => ?_) (fun f cdv A outer s H vs Q E hr h => ?_)
  · obtain ⟨t, a, l, rfl, _⟩ := h
    rfl
  · obtain ⟨t, a, l, rfl, ht, hS, hl, k⟩ := h
    refine ⟨_, (pss_cons (ps_if (pt_cmpR op_eq (pv 0) pe_int (nomark _)) (pss_one (ps_ret (pe_tup (pa_cons pe_int (pa_cons (pe_callTy call_list_of rfl T.n_list ac_boot_list (pa_cons (pv 1) pa_nil)) pa_nil))))) pss_nil)
      (pss_cons (ps_if (pt_cmpR op_eq (pv 0) pe_int (nomark _)) (pss_one (ps_ret (pe_tup (pa_cons pe_int (pa_cons (pe_listRev rfl (pv 1) rfl T.n_list rfl T.n_reversed) pa_nil))))) pss_nil)
      (pss_cons (ps_if (pt_cmpR op_eq (pv 0) pe_int (nomark _)) (pss_one (ps_ret (pe_tup (pa_cons pe_int (pa_cons (pe_callB cr_sortedA rfl T.n_sorted boot_sorted (pa_cons (pv 1) pa_nil)) pa_nil))))) pss_nil)
      (pss_cons (ps_if (pt_cmpR op_eq (pv 0) pe_int (nomark _)) (pss_cons (ps_set (i := 2) sc.nd rfl (Or.inl rfl) (pe_callB (cr_sum rfl) rfl T.n_sum boot_sum (pa_cons (pv 1) pa_nil)))
      (pss_one (ps_ret (pe_tup (pa_cons pe_int (pa_cons (pe_lst (pa_cons (pe_op op_fdiv (pv 2) pe_int) (pa_cons (pe_op op_mod (pv 2) pe_int) pa_nil))) pa_nil)))))) pss_nil)
      (pss_cons (ps_if (pt_cmpR op_eq (pv 0) pe_int (nomark _)) (pss_one (ps_ret (pe_tup (pa_cons pe_int (pa_cons (pe_callP p_doubled (hr.mono (by decide)) (pa_cons (pv 1) pa_nil)) pa_nil))))) pss_nil)
      (pss_one (ps_ret (pe_callP p_zeros_outcome (hr.mono (by decide)) (pa_cons (pv 1) pa_nil))))))))), ?_⟩
    have ht' : t = 0 ∨ t = 1 ∨ t = 2 ∨ t = 3 ∨ t = 4 ∨ t = 5 := by omega
    rcases ht' with rfl | rfl | rfl | rfl | rfl | rfl
    · refine ⟨_, rfl, rfl, _, rfl, ite2 (fun _ => ?_) (fun c => absurd (by decide) c)⟩
      refine ⟨_, rfl, a, _, rfl, .inl hS, fun q hq => ⟨by show 2 ≤ sizeLine; decide, fun p hp => ?_⟩⟩
      have hpq : q ≠ p := fun z => by rw [z, upd_same] at hp; cases hp
      have hp' : H p = none := by rw [upd_ne hpq.symm] at hp; exact hp
      refine k _ p q ((Same.new hq).trans (Same.new hp)) hp' hq ⟨upd_same, ?_⟩
      rw [upd_ne hpq, upd_same]
      rfl
    · refine ⟨_, rfl, rfl, _, rfl, ite2 (fun c => absurd c (by decide)) (fun _ => ?_)⟩
      refine ⟨_, rfl, rfl, _, rfl, ite2 (fun _ => ?_) (fun c => absurd (by decide) c)⟩
      refine ⟨_, rfl, a, _, rfl, hS, fun q hq => ⟨by show 2 ≤ sizeLine; decide, fun p hp => ?_⟩⟩
      have hpq : q ≠ p := fun z => by rw [z, upd_same] at hp; cases hp
      have hp' : H p = none := by rw [upd_ne hpq.symm] at hp; exact hp
      refine k _ p q ((Same.new hq).trans (Same.new hp)) hp' hq ⟨upd_same, ?_⟩
      rw [upd_ne hpq, upd_same]
      rw [vI_reverse]
      rfl
    · refine ⟨_, rfl, rfl, _, rfl, ite2 (fun c => absurd c (by decide)) (fun _ => ?_)⟩
      refine ⟨_, rfl, rfl, _, rfl, ite2 (fun c => absurd c (by decide)) (fun _ => ?_)⟩
      refine ⟨_, rfl, rfl, _, rfl, ite2 (fun _ => ?_) (fun c => absurd (by decide) c)⟩
      refine ⟨_, rfl, a, zs l, rfl, hS, fun ns' q hp1 hp2 hq => ⟨by show 2 ≤ sizeLine; decide, fun p hp => ?_⟩⟩
      have es := zs_sorted hp1 hp2
      subst es
      have hpq : q ≠ p := fun z => by rw [z, upd_same] at hp; cases hp
      have hp' : H p = none := by rw [upd_ne hpq.symm] at hp; exact hp
      refine k _ p q ((Same.new hq).trans (Same.new hp)) hp' hq ⟨upd_same, ?_⟩
      rw [upd_ne hpq, upd_same]
      rfl
    · refine ⟨_, rfl, rfl, _, rfl, ite2 (fun c => absurd c (by decide)) (fun _ => ?_)⟩
      refine ⟨_, rfl, rfl, _, rfl, ite2 (fun c => absurd c (by decide)) (fun _ => ?_)⟩
      refine ⟨_, rfl, rfl, _, rfl, ite2 (fun c => absurd c (by decide)) (fun _ => ?_)⟩
      refine ⟨_, rfl, rfl, _, rfl, ite2 (fun _ => ?_) (fun c => absurd (by decide) c)⟩
      refine ⟨_, rfl, a, zs l, rfl, hS, ?_⟩
      rw [zs_sum]
      refine ⟨_, rfl, _, _, rfl, rfl, ⟨by decide, by decide⟩, _, rfl, _, _, rfl, rfl, (by show (0 : Int) < 256; decide), by show 2 ≤ sizeLine; decide, fun q hq => ⟨by show 2 ≤ sizeLine; decide, fun p hp => ?_⟩⟩
      have hpq : q ≠ p := fun z => by rw [z, upd_same] at hp; cases hp
      have hp' : H p = none := by rw [upd_ne hpq.symm] at hp; exact hp
      refine k _ p q ((Same.new hq).trans (Same.new hp)) hp' hq ⟨upd_same, ?_⟩
      rw [upd_ne hpq, upd_same]
      rfl
    · refine ⟨_, rfl, rfl, _, rfl, ite2 (fun c => absurd c (by decide)) (fun _ => ?_)⟩
      refine ⟨_, rfl, rfl, _, rfl, ite2 (fun c => absurd c (by decide)) (fun _ => ?_)⟩
      refine ⟨_, rfl, rfl, _, rfl, ite2 (fun c => absurd c (by decide)) (fun _ => ?_)⟩
      refine ⟨_, rfl, rfl, _, rfl, ite2 (fun c => absurd c (by decide)) (fun _ => ?_)⟩
      refine ⟨_, rfl, rfl, _, rfl, ite2 (fun _ => ?_) (fun c => absurd (by decide) c)⟩
      refine ⟨_, rfl, a, l, rfl, hS, hl, fun H1 q s1 hq hq1 => ⟨by show 2 ≤ sizeLine; decide, fun p hp => ?_⟩⟩
      have hpq : q ≠ p := fun z => by rw [z, hp] at hq1; cases hq1
      refine k _ p q (s1.trans (Same.new hp)) (s1.free hp) hq ⟨upd_same, ?_⟩
      rw [upd_ne hpq]
      exact hq1
    · refine ⟨_, rfl, rfl, _, rfl, ite2 (fun c => absurd c (by decide)) (fun _ => ?_)⟩
      refine ⟨_, rfl, rfl, _, rfl, ite2 (fun c => absurd c (by decide)) (fun _ => ?_)⟩
      refine ⟨_, rfl, rfl, _, rfl, ite2 (fun c => absurd c (by decide)) (fun _ => ?_)⟩
      refine ⟨_, rfl, rfl, _, rfl, ite2 (fun c => absurd c (by decide)) (fun _ => ?_)⟩
      refine ⟨_, rfl, rfl, _, rfl, ite2 (fun c => absurd c (by decide)) (fun _ => ?_)⟩
      exact ⟨_, rfl, a, l, rfl, hS, hl, k⟩
end
end Ac

set_option Elab.async false
set_option linter.all false
set_option maxRecDepth 100000
set_option maxHeartbeats 2000000
namespace Ac
open PySem PySem.Spec PyProof.Rows L2
/-! ### an entry -/
def ef (t : Int) (g : Addr) (st n : Int) (h : Addr) : List (Str × V) := [("tool", .int t), ("given", .ref g), ("status", .int st), ("length", .int n), ("held", .ref h)]
section
variable (t : Int) (g : Addr) (st n : Int) (h h' : Addr)
theorem ef_tool : (ef t g st n h).lookup ("tool" : Str) = some (.int t) := by kernel_rfl
theorem ef_given : (ef t g st n h).lookup ("given" : Str) = some (.ref g) := by kernel_rfl
theorem ef_status : (ef t g st n h).lookup ("status" : Str) = some (.int st) := by kernel_rfl
theorem ef_length : (ef t g st n h).lookup ("length" : Str) = some (.int n) := by kernel_rfl
theorem ef_held : (ef t g st n h).lookup ("held" : Str) = some (.ref h) := by kernel_rfl
theorem ef_is_for : (ef t g st n h).lookup ("is_for" : Str) = none := by kernel_rfl
theorem ef_is_whole : (ef t g st n h).lookup ("is_whole" : Str) = none := by kernel_rfl
theorem ef_size : (ef t g st n h).lookup ("size" : Str) = none := by kernel_rfl
theorem ef_cut_to : (ef t g st n h).lookup ("cut_to" : Str) = none := by kernel_rfl
theorem ef_listed : (ef t g st n h).lookup ("listed" : Str) = none := by kernel_rfl
theorem ef_put : putF "held" (.ref h') (ef t g st n h) = ef t g st n h' := by kernel_rfl
theorem ef_make : putF "held" (.ref h) (putF "length" (.int n) (putF "status" (.int st) (putF "given" (.ref g) (putF "tool" (.int t) [])))) = ef t g st n h := by kernel_rfl
end
/-- an entry stands at a, its input at g, its bytes at h -/
def EntAt (CE : Addr) (H : Hp) (a g h : Addr) (E : Vabldj.Entry) : Prop :=
  (∃ dx, H a = some (.ins CE dx (ef E.tool g E.status E.length h))) ∧ H g = some (.lst (vI E.input)) ∧ H h = some (.lst (vI E.bytes))
/-- what is known of an entry's numbers -/
def EntOk (E : Vabldj.Entry) : Prop := E.input.length ≤ 64 ∧ E.length ≤ 128 ∧ E.bytes.length ≤ E.length
theorem EntAt.keep {CE : Addr} {H H' : Hp} {a g h : Addr} {E : Vabldj.Entry} (x : EntAt CE H a g h E) (ka : ∀ o, H a = some o → H' a = some o) (kg : ∀ o, H g = some o → H' g = some o) (kh : ∀ o, H h = some o → H' h = some o) : EntAt CE H' a g h E := by
  obtain ⟨⟨dx, e⟩, e2, e3⟩ := x
  exact ⟨⟨dx, ka _ e⟩, kg _ e2, kh _ e3⟩
theorem EntAt.same {CE : Addr} {H H' : Hp} {a g h : Addr} {E : Vabldj.Entry} (x : EntAt CE H a g h E) (s : Same H H') : EntAt CE H' a g h E := x.keep (s a) (s g) (s h)
/-- a list that is read, behind a write of an instance -/
theorem seq_keep {K : PySem.W.Frag} {H H' : Hp} {a p : Addr} {xs : List V} {C dx : Addr} {fs : List (Str × V)} (hp : H p = some (.ins C dx fs)) (k : ∀ b o, H b = some o → b ≠ p → H' b = some o) (h : SqL K H a xs) : SqL K H' a xs := by
  rcases h with (h | ⟨o, h⟩) | h
  · exact .inl (.inl (k _ _ h fun z => by rw [z, hp] at h; cases h))
  · exact .inl (.inr ⟨o, k _ _ h fun z => by rw [z, hp] at h; cases h⟩)
  · exact .inr h
section
variable {P : Program} {w : World} {K : PySem.W.Frag} {mg : Str → Option Value} {base : Heap} {CE CS CO : Addr}
abbrev s_Entry_init : Stmt := inClass (top 41) 0
theorem sc_Entry_init : FnScope ["self", "tool", "given", "status", "output"] ["self", "tool", "given", "status", "output"] (defScope s_Entry_init) := ⟨rfl, rfl, rfl, by decide +kernel, rfl, by decide +kernel, by decide +kernel⟩
abbrev s_Entry_is_for : Stmt := inClass (top 41) 1
theorem sc_Entry_is_for : FnScope ["self", "tool", "given"] ["self", "tool", "given"] (defScope s_Entry_is_for) := ⟨rfl, rfl, rfl, by decide +kernel, rfl, by decide +kernel, by decide +kernel⟩
abbrev s_Entry_is_whole : Stmt := inClass (top 41) 2
theorem sc_Entry_is_whole : FnScope ["self"] ["self"] (defScope s_Entry_is_whole) := ⟨rfl, rfl, rfl, by decide +kernel, rfl, by decide +kernel, by decide +kernel⟩
abbrev s_Entry_size : Stmt := inClass (top 41) 3
theorem sc_Entry_size : FnScope ["self"] ["self"] (defScope s_Entry_size) := ⟨rfl, rfl, rfl, by decide +kernel, rfl, by decide +kernel, by decide +kernel⟩
abbrev s_Entry_cut_to : Stmt := inClass (top 41) 4
theorem sc_Entry_cut_to : FnScope ["self", "n"] ["self", "n"] (defScope s_Entry_cut_to) := ⟨rfl, rfl, rfl, by decide +kernel, rfl, by decide +kernel, by decide +kernel⟩
abbrev s_Entry_listed : Stmt := inClass (top 41) 5
theorem sc_Entry_listed : FnScope ["self"] ["self"] (defScope s_Entry_listed) := ⟨rfl, rfl, rfl, by decide +kernel, rfl, by decide +kernel, by decide +kernel⟩
def sp_Entry_init (K : PySem.W.Frag) (CE : Addr) : Sp := fun vs H Q _ => ∃ (p dx : Addr) (t : Nat) (a : Addr) (l : List Nat) (st : Nat) (b : Addr) (o : List Nat), vs = [.ref p, .int t, .ref a, .int st, .ref b] ∧ H p = some (.ins CE dx []) ∧ SqL K H a (vI l) ∧ SqL K H b (vI o) ∧ l.length ≤ 64 ∧ o.length ≤ 128 ∧
  ∀ (H' : Hp) (g h : Addr), EntAt CE H' p g h { tool := t, input := l, status := st, length := o.length, bytes := o } → H g = none → H h = none → (∀ c u, H c = some u → c ≠ p → H' c = some u) → Q .non H'
def sp_Entry_is_for (K : PySem.W.Frag) (CE : Addr) : Sp := fun vs H Q _ => ∃ (a g h : Addr) (E : Vabldj.Entry) (t : Nat) (b : Addr) (l : List Nat), vs = [.ref a, .int t, .ref b] ∧ EntAt CE H a g h E ∧ SqL K H b (vI l) ∧ Q (.bl (E.isFor t l)) H
def sp_Entry_is_whole (CE : Addr) : Sp := fun vs H Q _ => ∃ (a g h : Addr) (E : Vabldj.Entry), vs = [.ref a] ∧ EntAt CE H a g h E ∧ Q (.bl E.whole) H
def sp_Entry_size (CE : Addr) : Sp := fun vs H Q _ => ∃ (a g h : Addr) (E : Vabldj.Entry), vs = [.ref a] ∧ EntAt CE H a g h E ∧ Q (.int (E.size : Nat)) H
def sp_Entry_cut_to (CE : Addr) : Sp := fun vs H Q _ => ∃ (a g h : Addr) (E : Vabldj.Entry) (n : Nat), vs = [.ref a, .int n] ∧ EntAt CE H a g h E ∧
  ∀ (H' : Hp) (h' : Addr), EntAt CE H' a g h' { E with bytes := E.bytes.take n } → H h' = none → (∀ c u, H c = some u → c ≠ a → H' c = some u) → Q .non H'
theorem ok_Entry_init (T : Txt K mg CE CS CO) (D : DefI K mg CE "Entry" "Entry.__init__" s_Entry_init ["self", "tool", "given", "status", "output"]) : PromI P w K mg base 1 CE "Entry" ["self", "tool", "given", "status", "output"] (sp_Entry_init K CE) := by
  have sc := sc_Entry_init
  refine D.prom sc (fun vs H Q E h => ?_) (fun f cdv A outer s H vs Q E hr h => ?_)
  · obtain ⟨p, dx, t, a, l, st, b, o, rfl, _⟩ := h
    rfl
  · obtain ⟨p, dx, t, a, l, st, b, o, rfl, hp, ha, hb, hl, ho, k⟩ := h
    refine ⟨_, (pss_cons (ps_fld (pv 0) (pv 1) rfl)
      (pss_cons (ps_fld (pv 0) (pe_callTy call_list_of rfl T.n_list ac_boot_list (pa_cons (pv 2) pa_nil)) rfl)
      (pss_cons (ps_fld (pv 0) (pv 3) rfl)
      (pss_cons (ps_fld (pv 0) (pe_callB call_len_seq rfl T.n_len PySem.boot_len (pa_cons (pv 4) pa_nil)) rfl)
      (pss_one (ps_fld (pv 0) (pe_callTy call_list_of rfl T.n_list ac_boot_list (pa_cons (pv 4) pa_nil)) rfl)))))), ?_⟩
    -- self.tool = tool
    refine ⟨_, rfl, _, rfl, p, CE, dx, [], rfl, hp, T.c_Entry, T.e_tool, (by show 0 < 1000; decide), ?_⟩
    generalize e1 : upd H p (.ins CE dx (putF "tool" (.int t) [])) = H1
    have p1 : H1 p = some (.ins CE dx (putF "tool" (.int t) [])) := by rw [← e1]; exact upd_same
    have k1 : ∀ c u, H c = some u → c ≠ p → H1 c = some u := fun c u e hc => by rw [← e1, upd_ne hc]; exact e
    have f1 : ∀ c, H1 c = none → H c = none ∧ c ≠ p := fun c e => by
      have hc : c ≠ p := fun z => by rw [z, p1] at e; cases e
      rw [← e1, upd_ne hc] at e
      exact ⟨e, hc⟩
    -- self.given = list(given)
    refine ⟨_, rfl, a, _, rfl, .inl (seq_keep hp k1 ha), fun g hg => ?_⟩
    obtain ⟨hg0, gp⟩ := f1 g hg
    refine ⟨_, rfl, p, CE, dx, _, rfl, (by rw [upd_ne gp.symm]; exact p1), T.c_Entry, T.e_given, (by show 1 < 1000; decide), ?_⟩
    -- self.status = status
    refine ⟨_, rfl, _, rfl, p, CE, dx, _, rfl, upd_same, T.c_Entry, T.e_status, (by show 2 < 1000; decide), ?_⟩
    generalize e3 : upd (upd (upd H1 g (.lst (vI l))) p (.ins CE dx (putF "given" (.ref g) (putF "tool" (.int t) [])))) p (.ins CE dx (putF "status" (.int st) (putF "given" (.ref g) (putF "tool" (.int t) [])))) = H3
    have p3 : H3 p = some (.ins CE dx (putF "status" (.int st) (putF "given" (.ref g) (putF "tool" (.int t) [])))) := by rw [← e3]; exact upd_same
    have g3 : H3 g = some (.lst (vI l)) := by rw [← e3, upd_ne gp, upd_ne gp]; exact upd_same
    have k3 : ∀ c u, H c = some u → c ≠ p → H3 c = some u := fun c u e hc => by
      have hcg : c ≠ g := fun z => by rw [z, hg0] at e; cases e
      rw [← e3, upd_ne hc, upd_ne hc, upd_ne hcg]
      exact k1 c u e hc
    -- self.length = len(output)
    have hb3 := seq_keep hp k3 hb
    refine ⟨_, rfl, b, _, rfl, .inl hb3, _, rfl, p, CE, dx, _, rfl, p3, T.c_Entry, T.e_length, (by show 3 < 1000; decide), ?_⟩
    generalize e4 : upd H3 p (.ins CE dx (putF "length" (.int ((vI o).length : Nat)) (putF "status" (.int st) (putF "given" (.ref g) (putF "tool" (.int t) []))))) = H4
    have p4 : H4 p = some (.ins CE dx (putF "length" (.int ((vI o).length : Nat)) (putF "status" (.int st) (putF "given" (.ref g) (putF "tool" (.int t) []))))) := by rw [← e4]; exact upd_same
    have g4 : H4 g = some (.lst (vI l)) := by rw [← e4, upd_ne gp]; exact g3
    have k4 : ∀ c u, H c = some u → c ≠ p → H4 c = some u := fun c u e hc => by rw [← e4, upd_ne hc]; exact k3 c u e hc
    -- self.held = list(output)
    refine ⟨_, rfl, b, _, rfl, .inl (seq_keep hp k4 hb), fun h hh => ?_⟩
    have hp' : h ≠ p := fun z => by rw [z, p4] at hh; cases hh
    have hg' : h ≠ g := fun z => by rw [z, g4] at hh; cases hh
    have h0 : H h = none := by
      cases q : H h with
      | none => rfl
      | some u => rw [k4 h u q hp'] at hh; cases hh
    refine ⟨_, rfl, p, CE, dx, _, rfl, (by rw [upd_ne hp'.symm]; exact p4), T.c_Entry, T.e_held, (by show 4 < 1000; decide), ?_⟩
    refine k _ g h ⟨⟨dx, ?_⟩, ?_, ?_⟩ hg0 h0 fun c u e hc => ?_
    · rw [upd_same, ef_make, vI_length]
    · rw [upd_ne gp, upd_ne hg'.symm]
      exact g4
    · rw [upd_ne hp', upd_same]
    · have hch : c ≠ h := fun z => by rw [z, h0] at e; cases e
      rw [upd_ne hc, upd_ne hch]
      exact k4 c u e hc
def sp_Entry_listed (CE : Addr) : Sp := fun vs H Q _ => ∃ (a g h : Addr) (E : Vabldj.Entry), vs = [.ref a] ∧ EntAt CE H a g h E ∧ ∀ r, H r = none → Q (.ref r) (upd H r (.lst (vI [E.tool, E.status, E.length, E.bytes.length, E.input.length])))
theorem ok_Entry_listed (T : Txt K mg CE CS CO) (D : DefM K CE "listed" "Entry.listed" s_Entry_listed ["self"]) : PromM P w K mg base 1 CE "listed" ["self"] (sp_Entry_listed CE) := by
  have sc := sc_Entry_listed
  refine D.prom sc (fun vs H Q E h => ?_) (fun f cdv A outer s H vs Q E hr h => ?_)
  · obtain ⟨a, g, h, E, rfl, _⟩ := h
    rfl
  · obtain ⟨a, g, h, E, rfl, ⟨⟨dx, ha⟩, hg, hh⟩, q⟩ := h
    refine ⟨_, (pss_one (ps_ret (pe_lst (pa_cons (pe_fld (pv 0) rfl) (pa_cons (pe_fld (pv 0) rfl) (pa_cons (pe_fld (pv 0) rfl) (pa_cons (pe_callB call_len_seq rfl T.n_len PySem.boot_len (pa_cons (pe_fld (pv 0) rfl) pa_nil)) (pa_cons (pe_callB call_len_seq rfl T.n_len PySem.boot_len (pa_cons (pe_fld (pv 0) rfl) pa_nil)) pa_nil)))))))), ?_⟩
    refine ⟨_, rfl, a, CE, dx, _, _, rfl, ha, T.c_Entry, T.e_tool, ef_tool _ _ _ _ _, _, rfl, a, CE, dx, _, _, rfl, ha, T.c_Entry, T.e_status, ef_status _ _ _ _ _, _, rfl, a, CE, dx, _, _, rfl, ha, T.c_Entry, T.e_length, ef_length _ _ _ _ _,
      _, rfl, a, CE, dx, _, _, rfl, ha, T.c_Entry, T.e_held, ef_held _ _ _ _ _, h, _, rfl, .inl (SqL.of hh), _, rfl, a, CE, dx, _, _, rfl, ha, T.c_Entry, T.e_given, ef_given _ _ _ _ _, g, _, rfl, .inl (SqL.of hg), (by show 5 ≤ sizeLine; decide), fun r hr => ?_⟩
    rw [vI_length, vI_length]
    exact q r hr
theorem zs_inj {l m : List Nat} : zs l = zs m ↔ l = m := by
  constructor
  · intro h
    have : ∀ {l m : List Nat}, zs l = zs m → l = m := by
      intro l
      induction l with
      | nil => intro m h; cases m with
        | nil => rfl
        | cons y r => cases h
      | cons x r ih => intro m h; cases m with
        | nil => cases h
        | cons y t =>
          have h' : (x : Int) :: zs r = (y : Int) :: zs t := h
          injection h' with h1 h2
          have e1 : x = y := by omega
          rw [e1, ih h2]
    exact this h
  · rintro rfl; rfl
theorem ok_Entry_is_for (T : Txt K mg CE CS CO) (D : DefM K CE "is_for" "Entry.is_for" s_Entry_is_for ["self", "tool", "given"]) : PromM P w K mg base 1 CE "is_for" ["self", "tool", "given"] (sp_Entry_is_for K CE) := by
  have sc := sc_Entry_is_for
  refine D.prom sc (fun vs H Q E h => ?_) (fun f cdv A outer s H vs Q E hr h => ?_)
  · obtain ⟨a, g, h, E, t, b, l, rfl, _⟩ := h
    rfl
  · obtain ⟨a, g, h, E, t, b, l, rfl, ⟨⟨dx, ha⟩, hg, hh⟩, hb, q⟩ := h
    refine ⟨_, (pss_one (ps_ret (pe_and (pe_cmpR op_eq (pe_fld (pv 0) rfl) (pv 1) (nomark _)) (pe_one (pe_cmpR (op_eqI hr.units) (pe_fld (pv 0) rfl) (pv 2) (nomark _)))))), ?_⟩
    refine ⟨_, rfl, a, CE, dx, _, _, rfl, ha, T.c_Entry, T.e_tool, ef_tool _ _ _ _ _, _, rfl, rfl, _, rfl, ?_⟩
    have e0 : decide (V.int (E.tool : Int) = V.int (t : Int)) = (E.tool == t) := by rw [Bool.eq_iff_iff]; simp; omega
    rw [e0]
    unfold Vabldj.Entry.isFor at q
    cases c : (E.tool == t) with
    | false =>
      rw [c] at q
      exact iteF q
    | true =>
      rw [c] at q
      refine iteT ?_
      refine ⟨_, rfl, a, CE, dx, _, _, rfl, ha, T.c_Entry, T.e_given, ef_given _ _ _ _ _, _, rfl, g, b, zs E.input, zs l, rfl, rfl, SqL.of hg, hb, ?_⟩
      have e1 : decide (zs E.input = zs l) = (E.input == l) := by rw [Bool.eq_iff_iff]; simp [zs_inj]
      rw [e1]
      exact q
theorem ok_Entry_is_whole (T : Txt K mg CE CS CO) (D : DefM K CE "is_whole" "Entry.is_whole" s_Entry_is_whole ["self"]) : PromM P w K mg base 1 CE "is_whole" ["self"] (sp_Entry_is_whole CE) := by
  have sc := sc_Entry_is_whole
  refine D.prom sc (fun vs H Q E h => ?_) (fun f cdv A outer s H vs Q E hr h => ?_)
  · obtain ⟨a, g, h, E, rfl, _⟩ := h
    rfl
  · obtain ⟨a, g, h, E, rfl, ⟨⟨dx, ha⟩, hg, hh⟩, q⟩ := h
    refine ⟨_, (pss_one (ps_ret (pe_cmpR op_eq (pe_callB call_len_seq rfl T.n_len PySem.boot_len (pa_cons (pe_fld (pv 0) rfl) pa_nil)) (pe_fld (pv 0) rfl) (nomark _)))), ?_⟩
    refine ⟨_, rfl, a, CE, dx, _, _, rfl, ha, T.c_Entry, T.e_held, ef_held _ _ _ _ _, h, _, rfl, .inl (SqL.of hh), _, rfl, a, CE, dx, _, _, rfl, ha, T.c_Entry, T.e_length, ef_length _ _ _ _ _, rfl, ?_⟩
    have e0 : decide (V.int (((vI E.bytes).length : Nat) : Int) = V.int (E.length : Int)) = E.whole := by
      unfold Vabldj.Entry.whole
      rw [vI_length, Bool.eq_iff_iff]
      simp
      omega
    rw [e0]
    exact q
theorem ok_Entry_size (T : Txt K mg CE CS CO) (D : DefM K CE "size" "Entry.size" s_Entry_size ["self"]) : PromM P w K mg base 1 CE "size" ["self"] (sp_Entry_size CE) := by
  have sc := sc_Entry_size
  refine D.prom sc (fun vs H Q E h => ?_) (fun f cdv A outer s H vs Q E hr h => ?_)
  · obtain ⟨a, g, h, E, rfl, _⟩ := h
    rfl
  · obtain ⟨a, g, h, E, rfl, ⟨⟨dx, ha⟩, hg, hh⟩, q⟩ := h
    refine ⟨_, (pss_one (ps_ret (pe_op op_add (pe_op op_add pe_int (pe_callB call_len_seq rfl T.n_len PySem.boot_len (pa_cons (pe_fld (pv 0) rfl) pa_nil))) (pe_fld (pv 0) rfl)))), ?_⟩
    refine ⟨_, rfl, a, CE, dx, _, _, rfl, ha, T.c_Entry, T.e_given, ef_given _ _ _ _ _, g, _, rfl, .inl (SqL.of hg), _, _, rfl, rfl, _, rfl, a, CE, dx, _, _, rfl, ha, T.c_Entry, T.e_length, ef_length _ _ _ _ _, _, _, rfl, rfl, ?_⟩
    have e0 : (1 : Int) + ((vI E.input).length : Nat) + (E.length : Int) = ((E.size : Nat) : Int) := by
      unfold Vabldj.Entry.size
      rw [vI_length]
      omega
    show Q (V.int ((1 : Int) + ((vI E.input).length : Nat) + (E.length : Int))) H
    rw [e0]
    exact q
theorem cut_take (xs : List V) (n : Nat) : cutV xs none (some (n : Int)) = xs.take n := by
  unfold cutV
  rw [HT.sIx_none, HT.sIx_nat, List.drop_zero, Nat.sub_zero, ← List.take_eq_take_min]
theorem vI_take (l : List Nat) (n : Nat) : (vI l).take n = vI (l.take n) := by simp [vI, zs]
theorem ok_Entry_cut_to (T : Txt K mg CE CS CO) (D : DefM K CE "cut_to" "Entry.cut_to" s_Entry_cut_to ["self", "n"]) : PromM P w K mg base 1 CE "cut_to" ["self", "n"] (sp_Entry_cut_to CE) := by
  have sc := sc_Entry_cut_to
  refine D.prom sc (fun vs H Q E h => ?_) (fun f cdv A outer s H vs Q E hr h => ?_)
  · obtain ⟨a, g, h, E, n, rfl, _⟩ := h
    rfl
  · obtain ⟨a, g, h, E, n, rfl, ⟨⟨dx, ha⟩, hg, hh⟩, k⟩ := h
    refine ⟨_, (pss_one (ps_fld (pv 0) (pe_slice sl_list (pe_fld (pv 0) rfl) po_none (po_some (pv 1))) rfl)), ?_⟩
    refine ⟨_, rfl, a, CE, dx, _, _, rfl, ha, T.c_Entry, T.e_held, ef_held _ _ _ _ _, _, rfl, _, rfl, h, _, rfl, SqL.of hh, fun h' hh' => ?_⟩
    have n1 : a ≠ h' := ne_of_none ha hh'
    have n2 : g ≠ h' := ne_of_none hg hh'
    have n3 : g ≠ a := fun z => by rw [z, ha] at hg; cases hg
    refine ⟨_, rfl, a, CE, dx, _, rfl, (by rw [upd_ne n1]; exact ha), T.c_Entry, T.e_held, (by show 5 < 1000; decide), ?_⟩
    refine k _ h' ⟨⟨dx, ?_⟩, ?_, ?_⟩ hh' fun c u e hc => ?_
    · rw [upd_same, ef_put]
    · rw [upd_ne n3, upd_ne n2]
      exact hg
    · rw [upd_ne n1.symm, upd_same, cut_take, vI_take]
    · have hch : c ≠ h' := fun z => by rw [z, hh'] at e; cases e
      rw [upd_ne hc, upd_ne hch]
      exact e
end
end Ac

set_option Elab.async false
set_option linter.all false
set_option maxRecDepth 100000
set_option maxHeartbeats 2000000
namespace Ac
open PySem PySem.Spec PyProof.Rows L2
/-! ### loops over enumerate(list), reversed(list) -/
theorem for_enum {K : PySem.W.Frag} {a : Addr} {xs : List V} {g : TG} {tb : TS} {D : Ends} {σ : L2.St} {H : Hp} (Pv : Nat → L2.St → Hp → Prop) (h0 : Pv 0 σ H) (hl : ∀ i σ H, i ≤ xs.length → Pv i σ H → SqL K H a xs)
    (hs : ∀ i x σ H T, xs[i]? = some x → Pv i σ H → H T = none → g (.ref T) σ (upd H T (.tup [.int (i : Nat), x])) fun σ2 H2 => tb { D with nx := Pv (i + 1), ct := Pv (i + 1), bk := D.nx } σ2 H2) (hd : ∀ σ H, Pv xs.length σ H → D.nx σ H) :
    ∃ W : Nat → Nat → L2.St → Hp → Prop, (∃ m, W 0 m σ H) ∧ ∀ i m σ H, W i m σ H →
      ((Ite K a).stop i H ∧ D.nx σ H) ∨ ((Ite K a).go i H ∧ ∃ N : L2.St → Hp → Prop, (∀ σ' H', N σ' H' → ∃ m', m' < m ∧ W (i + 1) m' σ' H') ∧ ∀ x H', (Ite K a).yld i H x H' → g x σ H' fun σ2 H2 => tb { D with nx := N, ct := N, bk := D.nx } σ2 H2) := by
  refine ⟨fun i m σ H => m = xs.length - i ∧ i ≤ xs.length ∧ Pv i σ H, ⟨xs.length, by simp, Nat.zero_le _, h0⟩, ?_⟩
  rintro i m σ H ⟨rfl, hi, p⟩
  have q := hl i σ H hi p
  by_cases hlt : i < xs.length
  · refine .inr ⟨⟨xs, xs[i], q, by simp [hlt]⟩, Pv (i + 1), fun σ' H' p' => ⟨xs.length - (i + 1), by omega, rfl, hlt, p'⟩, fun x H' y => ?_⟩
    obtain ⟨T, z, rfl, hT, rfl, hz⟩ := y
    exact hs i z σ H T (hz xs q) p hT
  · have e : i = xs.length := by omega
    subst e
    exact .inl ⟨⟨xs, q, Nat.le_refl _⟩, hd σ H p⟩
theorem for_rev {K : PySem.W.Frag} {a : Addr} {xs : List V} {g : TG} {tb : TS} {D : Ends} {σ : L2.St} {H : Hp} (Pv : Nat → L2.St → Hp → Prop) (h0 : Pv 0 σ H) (hl : ∀ i σ H, i ≤ xs.length → Pv i σ H → SqL K H a xs)
    (hs : ∀ i x σ H, xs.reverse[i]? = some x → Pv i σ H → g x σ H fun σ2 H2 => tb { D with nx := Pv (i + 1), ct := Pv (i + 1), bk := D.nx } σ2 H2) (hd : ∀ σ H, Pv xs.length σ H → D.nx σ H) :
    ∃ W : Nat → Nat → L2.St → Hp → Prop, (∃ m, W 0 m σ H) ∧ ∀ i m σ H, W i m σ H →
      ((Itv K a xs.length).stop i H ∧ D.nx σ H) ∨ ((Itv K a xs.length).go i H ∧ ∃ N : L2.St → Hp → Prop, (∀ σ' H', N σ' H' → ∃ m', m' < m ∧ W (i + 1) m' σ' H') ∧ ∀ x H', (Itv K a xs.length).yld i H x H' → g x σ H' fun σ2 H2 => tb { D with nx := N, ct := N, bk := D.nx } σ2 H2) := by
  refine ⟨fun i m σ H => m = xs.length - i ∧ i ≤ xs.length ∧ Pv i σ H, ⟨xs.length, by simp, Nat.zero_le _, h0⟩, ?_⟩
  rintro i m σ H ⟨rfl, hi, p⟩
  have q := hl i σ H hi p
  by_cases hlt : i < xs.length
  · have hx : xs[xs.length - 1 - i]? = some xs[xs.length - 1 - i] := List.getElem?_eq_getElem (by omega)
    refine .inr ⟨⟨hlt, xs, _, q, hx⟩, Pv (i + 1), fun σ' H' p' => ⟨xs.length - (i + 1), by omega, rfl, hlt, p'⟩, fun x H' y => ?_⟩
    obtain ⟨rfl, hz⟩ := y
    refine hs i x σ _ ?_ p
    rw [List.getElem?_reverse hlt]
    exact hz xs q
  · have e : i = xs.length := by omega
    subst e
    exact .inl ⟨Nat.le_refl _, hd σ H p⟩
/-! ### paired lists -/
section
variable {α β : Type} {F G : α → β → Prop}
theorem pd_get : ∀ {xs : List α} {ys : List β} {i : Nat} {x : α}, Paired F xs ys → xs[i]? = some x → ∃ y, ys[i]? = some y ∧ F x y
  | _, _, _, _, .nil, e => by simp at e
  | _, _, 0, _, .cons r _, e => by simp at e; subst e; exact ⟨_, rfl, r⟩
  | _, _, i + 1, x, .cons _ t, e => by
    obtain ⟨u, h1, h2⟩ := pd_get (i := i) (x := x) t (by simpa using e)
    exact ⟨u, by simpa using h1, h2⟩
theorem pd_get2 : ∀ {xs : List α} {ys : List β} {i : Nat} {y : β}, Paired F xs ys → ys[i]? = some y → ∃ x, xs[i]? = some x ∧ F x y
  | _, _, _, _, .nil, e => by simp at e
  | _, _, 0, _, .cons r _, e => by simp at e; subst e; exact ⟨_, rfl, r⟩
  | _, _, i + 1, y, .cons _ t, e => by
    obtain ⟨u, h1, h2⟩ := pd_get2 (i := i) (y := y) t (by simpa using e)
    exact ⟨u, by simpa using h1, h2⟩
theorem pd_len {xs : List α} {ys : List β} (h : Paired F xs ys) : xs.length = ys.length := Paired.length h
theorem pd_erase : ∀ {xs : List α} {ys : List β} (i : Nat), Paired F xs ys → Paired F (xs.eraseIdx i) (ys.eraseIdx i)
  | _, _, _, .nil => .nil
  | _, _, 0, .cons _ t => t
  | _, _, i + 1, .cons r t => .cons r (pd_erase i t)
theorem pd_take : ∀ {xs : List α} {ys : List β} (n : Nat), Paired F xs ys → Paired F (xs.take n) (ys.take n)
  | _, _, 0, _ => .nil
  | _, _, _ + 1, .nil => .nil
  | _, _, n + 1, .cons r t => .cons r (pd_take n t)
theorem pd_map : ∀ {xs : List α} {ys : List β}, Paired F xs ys → (∀ a b, a ∈ xs → F a b → G a b) → Paired G xs ys
  | _, _, .nil, _ => .nil
  | _, _, .cons r t, f => .cons (f _ _ List.mem_cons_self r) (pd_map t fun a b h => f a b (List.mem_cons_of_mem _ h))
theorem pd_set : ∀ {xs : List α} {ys : List β} {i : Nat} {x : α} {y : β}, Paired F xs ys → xs[i]? = some x → F x y → Paired F xs (ys.set i y)
  | _, _, _, _, _, .nil, e, _ => by simp at e
  | _, _, 0, _, _, .cons r t, e, f => by simp at e; subst e; exact .cons f t
  | _, _, i + 1, _, _, .cons r t, e, f => .cons r (pd_set t (by simpa using e) f)
end
theorem map_erase {α β : Type} (f : α → β) : ∀ (xs : List α) (k : Nat), (xs.map f).eraseIdx k = (xs.eraseIdx k).map f
  | [], _ => rfl
  | _ :: _, 0 => rfl
  | x :: r, k + 1 => by
    show f x :: (r.map f).eraseIdx k = f x :: (r.eraseIdx k).map f
    rw [map_erase f r k]
/-! ### a store -/
def sf (r : Int) (l : Addr) : List (Str × V) := [("room", .int r), ("entries", .ref l)]
section
variable (r r' : Int) (l l' : Addr)
theorem sf_room : (sf r l).lookup ("room" : Str) = some (.int r) := by kernel_rfl
theorem sf_entries : (sf r l).lookup ("entries" : Str) = some (.ref l) := by kernel_rfl
theorem sf_load : (sf r l).lookup ("load" : Str) = none := by kernel_rfl
theorem sf_place_of : (sf r l).lookup ("place_of" : Str) = none := by kernel_rfl
theorem sf_take_out : (sf r l).lookup ("take_out" : Str) = none := by kernel_rfl
theorem sf_move : (sf r l).lookup ("move_to_front" : Str) = none := by kernel_rfl
theorem sf_drop : (sf r l).lookup ("drop_over_room" : Str) = none := by kernel_rfl
theorem sf_take_out_cut : (sf r l).lookup ("take_out_cut" : Str) = none := by kernel_rfl
theorem sf_keep : (sf r l).lookup ("keep" : Str) = none := by kernel_rfl
theorem sf_put_room : putF "room" (.int r') (sf r l) = sf r' l := by kernel_rfl
theorem sf_put_entries : putF "entries" (.ref l') (sf r l) = sf r l' := by kernel_rfl
theorem sf_make : putF "entries" (.ref l) (putF "room" (.int r) []) = sf r l := by kernel_rfl
end
/-- an entry at a, whose lists are none of L -/
def EntR (CE : Addr) (H : Hp) (L : List Addr) (a : Addr) (E : Vabldj.Entry) : Prop := EntOk E ∧ ∃ g h, EntAt CE H a g h E ∧ g ∉ L ∧ h ∉ L
theorem EntR.ins {CE : Addr} {H : Hp} {L : List Addr} {a : Addr} {E : Vabldj.Entry} (x : EntR CE H L a E) : ∃ dx fs, H a = some (.ins CE dx fs) := by
  obtain ⟨_, g, h, ⟨⟨dx, e⟩, _⟩, _⟩ := x
  exact ⟨dx, _, e⟩
theorem EntR.keep {CE : Addr} {H H' : Hp} {L L' : List Addr} {a : Addr} {E : Vabldj.Entry} (x : EntR CE H L a E) (ka : ∀ o, H a = some o → H' a = some o) (kl : ∀ b xs, b ∉ L → H b = some (.lst xs) → b ∉ L' ∧ H' b = some (.lst xs)) : EntR CE H' L' a E := by
  obtain ⟨ok, g, h, ⟨⟨dx, e⟩, e2, e3⟩, n2, n3⟩ := x
  obtain ⟨m2, q2⟩ := kl g _ n2 e2
  obtain ⟨m3, q3⟩ := kl h _ n3 e3
  exact ⟨ok, g, h, ⟨⟨dx, ka _ e⟩, q2, q3⟩, m2, m3⟩
/-- a list of L is written -/
theorem EntR.off {CE : Addr} {H H' : Hp} {L : List Addr} {a l : Addr} {xs : List V} {E : Vabldj.Entry} (x : EntR CE H L a E) (hl : l ∈ L) (hll : H l = some (.lst xs)) (k : ∀ b o, H b = some o → b ≠ l → H' b = some o) : EntR CE H' L a E := by
  obtain ⟨dx, fs, e⟩ := x.ins
  exact x.keep (fun o q => k _ _ q fun z => by rw [z, hll] at e; cases e) fun b ys hb q => ⟨hb, k _ _ q fun z => hb (z ▸ hl)⟩
theorem EntR.same {CE : Addr} {H H' : Hp} {L : List Addr} {a : Addr} {E : Vabldj.Entry} (x : EntR CE H L a E) (s : Same H H') : EntR CE H' L a E := x.keep (s a) fun b ys hb q => ⟨hb, s _ _ q⟩
structure StoreAt (CE CS : Addr) (H : Hp) (L : List Addr) (s l : Addr) (as : List Addr) (S : Vabldj.Store) : Prop where
  ob : ∃ dx, H s = some (.ins CS dx (sf S.room l))
  ls : H l = some (.lst (as.map V.ref))
  mem : l ∈ L
  nd : as.Nodup
  ents : Paired (EntR CE H L) as S.entries
theorem StoreAt.same {CE CS : Addr} {H H' : Hp} {L : List Addr} {s l : Addr} {as : List Addr} {S : Vabldj.Store} (x : StoreAt CE CS H L s l as S) (k : Same H H') : StoreAt CE CS H' L s l as S := by
  obtain ⟨dx, e⟩ := x.ob
  exact ⟨⟨dx, k _ _ e⟩, k _ _ x.ls, x.mem, x.nd, pd_map x.ents fun a b _ r => r.same k⟩
/-- the store's list is written -/
theorem StoreAt.write {CE CS : Addr} {H H' : Hp} {L : List Addr} {s l : Addr} {as as' : List Addr} {S : Vabldj.Store} {es' : List Vabldj.Entry} (x : StoreAt CE CS H L s l as S) (k : ∀ b o, H b = some o → b ≠ l → H' b = some o) (hl : H' l = some (.lst (as'.map V.ref))) (nd : as'.Nodup)
    (r : Paired (EntR CE H L) as' es') : StoreAt CE CS H' L s l as' { S with entries := es' } := by
  obtain ⟨dx, e⟩ := x.ob
  exact ⟨⟨dx, k _ _ e fun z => by rw [z, x.ls] at e; cases e⟩, hl, x.mem, nd, pd_map r fun a b _ r => r.off x.mem x.ls k⟩
theorem StoreAt.len {CE CS : Addr} {H : Hp} {L : List Addr} {s l : Addr} {as : List Addr} {S : Vabldj.Store} (x : StoreAt CE CS H L s l as S) : as.length = S.entries.length := pd_len x.ents
section
variable {P : Program} {w : World} {K : PySem.W.Frag} {mg : Str → Option Value} {base : Heap} {CE CS CO : Addr}
abbrev s_Store_init : Stmt := inClass (top 42) 0
theorem sc_Store_init : FnScope ["self"] ["self"] (defScope s_Store_init) := ⟨rfl, rfl, rfl, by decide +kernel, rfl, by decide +kernel, by decide +kernel⟩
abbrev s_Store_load : Stmt := inClass (top 42) 1
theorem sc_Store_load : FnScope ["self", "entry"] ["self"] (defScope s_Store_load) := ⟨rfl, rfl, rfl, by decide +kernel, rfl, by decide +kernel, by decide +kernel⟩
abbrev s_Store_place_of : Stmt := inClass (top 42) 2
theorem sc_Store_place_of : FnScope ["self", "tool", "given", "place", "entry"] ["self", "tool", "given"] (defScope s_Store_place_of) := ⟨rfl, rfl, rfl, by decide +kernel, rfl, by decide +kernel, by decide +kernel⟩
abbrev s_Store_take_out : Stmt := inClass (top 42) 3
theorem sc_Store_take_out : FnScope ["self", "place"] ["self", "place"] (defScope s_Store_take_out) := ⟨rfl, rfl, rfl, by decide +kernel, rfl, by decide +kernel, by decide +kernel⟩
abbrev s_Store_move_to_front : Stmt := inClass (top 42) 5
theorem sc_Store_move_to_front : FnScope ["self", "place"] ["self", "place"] (defScope s_Store_move_to_front) := ⟨rfl, rfl, rfl, by decide +kernel, rfl, by decide +kernel, by decide +kernel⟩
abbrev s_Store_drop_over_room : Stmt := inClass (top 42) 6
theorem sc_Store_drop_over_room : FnScope ["self", "load", "dropped"] ["self"] (defScope s_Store_drop_over_room) := ⟨rfl, rfl, rfl, by decide +kernel, rfl, by decide +kernel, by decide +kernel⟩
abbrev s_Store_keep : Stmt := inClass (top 42) 7
theorem sc_Store_keep : FnScope ["self", "entry"] ["self", "entry"] (defScope s_Store_keep) := ⟨rfl, rfl, rfl, by decide +kernel, rfl, by decide +kernel, by decide +kernel⟩
abbrev s_Store_take_out_cut : Stmt := inClass (top 42) 4
theorem sc_Store_take_out_cut : FnScope ["self", "whole", "entry", "taken"] ["self"] (defScope s_Store_take_out_cut) := ⟨rfl, rfl, rfl, by decide +kernel, rfl, by decide +kernel, by decide +kernel⟩
def sp_Store_init (CS : Addr) : Sp := fun vs H Q _ => ∃ (p dx : Addr), vs = [.ref p] ∧ H p = some (.ins CS dx []) ∧
  ∀ (H' : Hp) (l : Addr), (∃ dx, H' p = some (.ins CS dx (sf 256 l))) → H' l = some (.lst []) → H l = none → (∀ c u, H c = some u → c ≠ p → H' c = some u) → Q .non H'
def sp_Store_load (CE CS : Addr) : Sp := fun vs H Q _ => ∃ (L : List Addr) (s l : Addr) (as : List Addr) (S : Vabldj.Store), vs = [.ref s] ∧ StoreAt CE CS H L s l as S ∧ S.entries.length ≤ 3000 ∧ ∀ H', Same H H' → Q (.int (Vabldj.load S.entries : Nat)) H'
def sp_Store_place_of (K : PySem.W.Frag) (CE CS : Addr) : Sp := fun vs H Q _ => ∃ (L : List Addr) (s l : Addr) (as : List Addr) (S : Vabldj.Store) (t : Nat) (b : Addr) (i : List Nat), vs = [.ref s, .int t, .ref b] ∧ StoreAt CE CS H L s l as S ∧ SqL K H b (vI i) ∧
  ∀ H', Same H H' → Q (.int (placeI S.entries t i)) H'
def sp_Store_take_out (CE CS : Addr) : Sp := fun vs H Q _ => ∃ (L : List Addr) (s l : Addr) (as : List Addr) (S : Vabldj.Store) (k : Nat) (a : Addr), vs = [.ref s, .int k] ∧ StoreAt CE CS H L s l as S ∧ as[k]? = some a ∧ S.entries.length ≤ 3000 ∧
  ∀ H', StoreAt CE CS H' L s l (as.eraseIdx k) { S with entries := S.entries.eraseIdx k } → (∀ b o, H b = some o → b ≠ l → H' b = some o) → Q (.ref a) H'
def sp_Store_move (CE CS : Addr) : Sp := fun vs H Q _ => ∃ (L : List Addr) (s l : Addr) (as : List Addr) (S : Vabldj.Store) (k : Nat) (a : Addr) (E : Vabldj.Entry), vs = [.ref s, .int k] ∧ StoreAt CE CS H L s l as S ∧ as[k]? = some a ∧ S.entries[k]? = some E ∧ S.entries.length ≤ 3000 ∧
  ∀ H', StoreAt CE CS H' L s l (a :: as.eraseIdx k) { S with entries := E :: S.entries.eraseIdx k } → (∀ b o, H b = some o → b ≠ l → H' b = some o) → Q .non H'
def sp_Store_drop (CE CS : Addr) : Sp := fun vs H Q _ => ∃ (L : List Addr) (s l : Addr) (as : List Addr) (S : Vabldj.Store), vs = [.ref s] ∧ StoreAt CE CS H L s l as S ∧ S.entries.length ≤ 3000 ∧
  ∀ H', StoreAt CE CS H' L s l (as.take (Vabldj.fitting S.room S.entries).length) { S with entries := Vabldj.fitting S.room S.entries } → (∀ b o, H b = some o → b ≠ l → H' b = some o) → Q (.int (S.entries.length - (Vabldj.fitting S.room S.entries).length : Nat)) H'
def sp_Store_keep (CE CS : Addr) : Sp := fun vs H Q _ => ∃ (L : List Addr) (s l : Addr) (as : List Addr) (S : Vabldj.Store) (e : Addr) (E : Vabldj.Entry), vs = [.ref s, .ref e] ∧ StoreAt CE CS H L s l as S ∧ EntR CE H L e E ∧ e ∉ as ∧ S.entries.length ≤ 2000 ∧
  ∀ H' as', StoreAt CE CS H' L s l as' (Vabldj.keep S E).1 → (∀ a, a ∈ as' → a = e ∨ a ∈ as) → (∀ b o, H b = some o → b ≠ l → H' b = some o) → Q (.int ((Vabldj.keep S E).2 : Nat)) H'
def sp_Store_take_out_cut (CE CS : Addr) : Sp := fun vs H Q _ => ∃ (L : List Addr) (s l : Addr) (as : List Addr) (S : Vabldj.Store), vs = [.ref s] ∧ StoreAt CE CS H L s l as S ∧ S.entries.length ≤ 3000 ∧
  ∀ (H' : Hp) (l' : Addr) (as' : List Addr), (∃ dx, H' s = some (.ins CS dx (sf S.room l'))) → H' l' = some (.lst (as'.map V.ref)) → H l' = none → as'.Sublist as → Paired (EntR CE H L) as' (S.entries.filter fun e => e.whole) → (∀ b o, H b = some o → b ≠ s → H' b = some o) →
    Q (.int (S.entries.length - (S.entries.filter fun e => e.whole).length : Nat)) H'
theorem ok_Store_init (T : Txt K mg CE CS CO) (D : DefI K mg CS "Store" "Store.__init__" s_Store_init ["self"]) : PromI P w K mg base 1 CS "Store" ["self"] (sp_Store_init CS) := by
  have sc := sc_Store_init
  refine D.prom sc (fun vs H Q E h => ?_) (fun f cdv A outer s H vs Q E hr h => ?_)
  · obtain ⟨p, dx, rfl, _⟩ := h
    rfl
  · obtain ⟨p, dx, rfl, hp, k⟩ := h
    refine ⟨_, (pss_cons (ps_fld (pv 0) (pe_gi T.g_FIRST_ROOM) rfl)
      (pss_one (ps_fld (pv 0) (pe_lst pa_nil) rfl))), ?_⟩
    refine ⟨_, rfl, p, CS, dx, [], rfl, hp, T.c_Store, T.s_room, (by show 0 < 1000; decide), ?_⟩
    refine ⟨Nat.zero_le _, fun l hl => ?_⟩
    have n1 : p ≠ l := ne_of_none upd_same hl
    have hl0 : H l = none := by rw [upd_ne n1.symm] at hl; exact hl
    refine ⟨_, rfl, p, CS, dx, _, rfl, (by rw [upd_ne n1]; exact upd_same), T.c_Store, T.s_entries, (by show 1 < 1000; decide), ?_⟩
    refine k _ l ⟨dx, ?_⟩ ?_ hl0 fun c u e hc => ?_
    · rw [upd_same, sf_make]
    · rw [upd_ne n1.symm, upd_same]
    · rw [upd_ne hc, upd_ne (ne_of_none e hl0), upd_ne hc]
      exact e
theorem ok_Store_take_out (T : Txt K mg CE CS CO) (D : DefM K CS "take_out" "Store.take_out" s_Store_take_out ["self", "place"]) : PromM P w K mg base 1 CS "take_out" ["self", "place"] (sp_Store_take_out CE CS) := by
  have sc := sc_Store_take_out
  refine D.prom sc (fun vs H Q E h => ?_) (fun f cdv A outer s H vs Q E hr h => ?_)
  · obtain ⟨L, s, l, as, S, k, a, rfl, _⟩ := h
    rfl
  · obtain ⟨L, s, l, as, S, k, a, rfl, st, ha, hlen, kk⟩ := h
    refine ⟨_, (pss_one (ps_ret (pe_bm PySem.F.plainAttrs_list PySem.F.slot_list_pop PySem.F.type_list_pop mt_popAt (pe_fld (pv 0) rfl) (pa_cons (pv 1) pa_nil)))), ?_⟩
    obtain ⟨dx, ob⟩ := st.ob
    have hk : k < as.length := (List.getElem?_eq_some_iff.mp ha).1
    have hln := st.len
    refine ⟨_, rfl, s, CS, dx, _, _, rfl, ob, T.c_Store, T.s_entries, sf_entries _ _, .inl ⟨rfl, _, SqL.of st.ls⟩, _, rfl, l, _, _, k, V.ref a, rfl, rfl, st.ls, by omega, by omega, seqIndex_of (by omega) (by rw [List.length_map]; omega), by simp [ha], ?_⟩
    have fr : ∀ b o, H b = some o → b ≠ l → (upd H l (.lst ((as.map V.ref).eraseIdx ((k : Int).toNat)))) b = some o := fun b o e hb => by rw [upd_ne hb]; exact e
    refine kk _ (st.write fr ?_ (st.nd.sublist (List.eraseIdx_sublist _ _)) (pd_erase k st.ents)) fr
    rw [upd_same, map_erase]
theorem ok_Store_move (T : Txt K mg CE CS CO) (D : DefM K CS "move_to_front" "Store.move_to_front" s_Store_move_to_front ["self", "place"]) (m_Store_take_out : PromM P w K mg base 1 CS "take_out" ["self", "place"] (sp_Store_take_out CE CS)) :
    PromM P w K mg base 2 CS "move_to_front" ["self", "place"] (sp_Store_move CE CS) := by
  have sc := sc_Store_move_to_front
  refine D.prom sc (fun vs H Q E h => ?_) (fun f cdv A outer s H vs Q E hr h => ?_)
  · obtain ⟨L, s, l, as, S, k, a, E, rfl, _⟩ := h
    rfl
  · obtain ⟨L, s, l, as, S, k, a, E, rfl, st, ha, hE, hlen, kk⟩ := h
    refine ⟨_, (pss_one (ps_expr (pe_bm PySem.F.plainAttrs_list PySem.F.slot_list_insert PySem.F.type_list_insert mt_insert0 (pe_fld (pv 0) rfl) (pa_cons pe_int (pa_cons (pe_methP m_Store_take_out T.c_Store (hr.mono (by decide)) (pv 0) (pa_cons (pv 1) pa_nil)) pa_nil))))), ?_⟩
    obtain ⟨dx, ob⟩ := st.ob
    have hk : k < as.length := (List.getElem?_eq_some_iff.mp ha).1
    have hln := st.len
    have hs := sizeLine_eq
    refine ⟨_, rfl, s, CS, dx, _, _, rfl, ob, T.c_Store, T.s_entries, sf_entries _ _, .inl ⟨rfl, _, SqL.of st.ls⟩, _, rfl, s, dx, _, rfl, ob, sf_take_out _ _, _, rfl, L, s, l, as, S, k, a, rfl, st, ha, hlen, fun H1 st1 fr1 => ?_⟩
    have el : (as.eraseIdx k).length ≤ 3000 := by
      have := List.length_eraseIdx_le as k
      omega
    refine ⟨l, _, _, rfl, rfl, st1.ls, by rw [List.length_map]; omega, ?_⟩
    obtain ⟨E', hE', r⟩ := pd_get st.ents ha
    rw [hE] at hE'
    cases hE'
    have r1 : EntR CE H1 L a E := r.off st.mem st.ls fr1
    have na : a ∉ as.eraseIdx k := by
      intro hm
      obtain ⟨j, hj, e⟩ := List.mem_eraseIdx_iff_getElem?.mp hm
      exact hj (nd_ix st.nd e ha)
    have fr : ∀ b o, H1 b = some o → b ≠ l → (upd H1 l (.lst (V.ref a :: (as.eraseIdx k).map V.ref))) b = some o := fun b o e hb => by rw [upd_ne hb]; exact e
    exact kk _ (st1.write (as' := a :: as.eraseIdx k) fr upd_same (List.nodup_cons.mpr ⟨na, st1.nd⟩) (.cons r1 st1.ents)) fun b o e hb => fr b o (fr1 b o e hb) hb
theorem ok_Store_place_of (T : Txt K mg CE CS CO) (D : DefM K CS "place_of" "Store.place_of" s_Store_place_of ["self", "tool", "given"]) (m_Entry_is_for : PromM P w K mg base 1 CE "is_for" ["self", "tool", "given"] (sp_Entry_is_for K CE)) :
    PromM P w K mg base 2 CS "place_of" ["self", "tool", "given"] (sp_Store_place_of K CE CS) := by
  have sc := sc_Store_place_of
  refine D.prom sc (fun vs H Q E h => ?_) (fun f cdv A outer s H vs Q E hr h => ?_)
  · obtain ⟨L, s, l, as, S, t, b, i, rfl, _⟩ := h
    rfl
  · obtain ⟨L, s, l, as, S, t, b, i, rfl, st, hb, kk⟩ := h
    refine ⟨_, (pss_cons (ps_for PassesOwn.never rfl (pi_enum rfl T.n_enumerate (pa_cons (pe_fld (pv 0) rfl) pa_nil)) (pg_tup rfl (pgs_cons (pg_name (i := 3) sc.nd rfl (Or.inl rfl)) (pgs_cons (pg_name (i := 4) sc.nd rfl (Or.inl rfl)) pgs_nil))) (pss_one (ps_if (pt_val (pe_methP m_Entry_is_for T.c_Entry (hr.mono (by decide)) (pv 4) (pa_cons (pv 1) (pa_cons (pv 2) pa_nil)))) (pss_one (ps_ret (pv 3))) pss_nil)))
      (pss_one (ps_ret (pe_gi T.g_NOWHERE)))), ?_⟩
    obtain ⟨dx, ob⟩ := st.ob
    refine ⟨_, rfl, s, CS, dx, _, _, rfl, ob, T.c_Store, T.s_entries, sf_entries _ _, l, _, rfl, SqL.of st.ls, for_enum (K := K) (a := l) (xs := as.map V.ref)
      (fun j σ H' => ∃ v w : Option V, σ = [some (.ref s), some (.int t), some (.ref b), v, w] ∧ Same H H' ∧ ∀ m, m < j → ∀ x, S.entries[m]? = some x → x.isFor t i = false) ⟨none, none, rfl, Same.refl H, fun m hm => absurd hm (Nat.not_lt_zero m)⟩
      (fun j σ H' _ ⟨_, _, _, s1, _⟩ => SqL.of (s1 _ _ st.ls)) ?_ ?_⟩
    · rintro j x σ H1 Tp hx ⟨v, w, rfl, s1, hno⟩ hT
      obtain ⟨a, ha, rfl⟩ : ∃ a, as[j]? = some a ∧ x = V.ref a := by
        rw [List.getElem?_map] at hx
        cases e : as[j]? with
        | none => rw [e] at hx; cases hx
        | some a => rw [e] at hx; exact ⟨a, rfl, (Option.some.inj hx).symm⟩
      obtain ⟨E, hE, r⟩ := pd_get st.ents ha
      have s2 : Same H (upd H1 Tp (.tup [.int (j : Nat), .ref a])) := s1.trans (Same.new hT)
      have r2 := r.same s2
      obtain ⟨_, g, h, at2, _⟩ := id r2
      obtain ⟨⟨dy, ha2⟩, _⟩ := id at2
      refine ⟨Tp, _, rfl, .inl (.inl upd_same), rfl, _, _, rfl, _, _, rfl, rfl, ?_⟩
      refine ⟨_, rfl, a, dy, _, rfl, ha2, ef_is_for _ _ _ _ _, _, rfl, _, rfl, a, g, h, E, t, b, i, rfl, at2, s2.seq hb, _, rfl, ?_⟩
      cases c : E.isFor t i with
      | true =>
        refine iteT ⟨_, rfl, ?_⟩
        have hp : placeI S.entries t i = (j : Int) := by
          have h1 : S.entries.findIdx? (fun e => e.isFor t i) = some j := by
            rw [List.findIdx?_eq_some_iff_getElem]
            obtain ⟨hlt, he⟩ := List.getElem?_eq_some_iff.mp hE
            refine ⟨hlt, by rw [he]; exact c, fun m hm => ?_⟩
            have := hno m hm S.entries[m] (List.getElem?_eq_getElem (by omega))
            simp [this]
          unfold placeI
          rw [h1]
        have q := kk _ s2
        rw [hp] at q
        exact q
      | false =>
        refine iteF ⟨_, _, rfl, s2, fun m hm y hy => ?_⟩
        by_cases hmj : m = j
        · subst hmj
          rw [hE] at hy
          cases hy
          exact c
        · exact hno m (by omega) y hy
    · rintro σ H1 ⟨v, w, rfl, s1, hno⟩
      have hln := st.len
      have hp : placeI S.entries t i = -1 := by
        refine place_none (List.find?_eq_none.mpr fun x hx => ?_)
        obtain ⟨m, hm⟩ := List.getElem?_of_mem hx
        have hlt : m < S.entries.length := (List.getElem?_eq_some_iff.mp hm).1
        rw [hno m (by rw [List.length_map]; omega) x hm]
        exact Bool.false_ne_true
      have q := kk _ s1
      rw [hp] at q
      exact q
theorem sum_sizes (l : List Vabldj.Entry) : (l.map fun e => ((Vabldj.Entry.size e : Nat) : Int)).sum = ((Vabldj.load l : Nat) : Int) := by
  induction l with
  | nil => rfl
  | cons e r ih =>
    rw [List.map_cons, List.sum_cons, ih, load_cons]
    omega
theorem ok_Store_load (T : Txt K mg CE CS CO) (D : DefM K CS "load" "Store.load" s_Store_load ["self"]) (m_Entry_size : PromM P w K mg base 1 CE "size" ["self"] (sp_Entry_size CE)) :
    PromM P w K mg base 2 CS "load" ["self"] (sp_Store_load CE CS) := by
  have sc := sc_Store_load
  refine D.prom sc (fun vs H Q E h => ?_) (fun f cdv A outer s H vs Q E hr h => ?_)
  · obtain ⟨L, s, l, as, S, rfl, _⟩ := h
    rfl
  · obtain ⟨L, s, l, as, S, rfl, st, hlen, kk⟩ := h
    refine ⟨_, (pss_one (ps_ret (pe_callB (cr_sum rfl) rfl T.n_sum boot_sum (pa_cons (pe_lc rfl sc.nd (pi_list (pe_fld (pv 0) rfl)) (own := [("entry", 1)]) (blkOk_by (by kernel_rfl)) (fun _ _ _ _ _ => pg_name (i := 1) sc.nd rfl (Or.inl rfl)) (fun _ _ _ _ _ => pts_nil) (fun _ _ _ _ _ => (pe_methP0 m_Entry_size T.c_Entry (hr.mono (by decide)) (pv 1)))) pa_nil)))), ?_⟩
    obtain ⟨dx, ob⟩ := st.ob
    have hln := st.len
    have hs := sizeLine_eq
    refine ⟨_, rfl, s, CS, dx, _, _, rfl, ob, T.c_Store, T.s_entries, sf_entries _ _, l, rfl, ⟨_, SqL.of st.ls⟩, fun D hD => lc_list (K := K) (a := l) (xs := as.map V.ref)
      (fun i H' => Same H H' ∧ H' D = some (.lst ((S.entries.take i).map fun e => V.int ((Vabldj.Entry.size e : Nat) : Int)))) ⟨Same.new hD, upd_same⟩ (fun i H' _ ⟨s1, _⟩ => SqL.of (s1 _ _ st.ls)) ?_ ?_⟩
    · rintro i x H1 hx ⟨s1, hD1⟩
      obtain ⟨a, ha, rfl⟩ : ∃ a, as[i]? = some a ∧ x = V.ref a := by
        rw [List.getElem?_map] at hx
        cases e : as[i]? with
        | none => rw [e] at hx; cases hx
        | some a => rw [e] at hx; exact ⟨a, rfl, (Option.some.inj hx).symm⟩
      obtain ⟨E, hE, r⟩ := pd_get st.ents ha
      obtain ⟨_, g, h, at1, _⟩ := r.same s1
      obtain ⟨⟨dy, ha1⟩, _⟩ := id at1
      refine ⟨rfl, _, rfl, a, dy, _, rfl, ha1, ef_size _ _ _ _ _, a, g, h, E, rfl, at1, _, hD1, ?_, ?_, ?_⟩
      · rw [List.length_map, List.length_take]
        omega
      · intro c u e
        rw [upd_ne (ne_of_none e hD)]
        exact s1 c u e
      · rw [upd_same, take_snoc hE, List.map_append]
        rfl
    · rintro H1 ⟨s1, hD1⟩
      rw [List.length_map, hln, List.take_length] at hD1
      refine ⟨D, S.entries.map fun e => ((Vabldj.Entry.size e : Nat) : Int), rfl, SqL.of (by rw [hD1, List.map_map]; rfl), ?_⟩
      rw [sum_sizes]
      exact kk H1 s1
theorem take_dropLast {α : Type} (l : List α) : l.dropLast = l.take (l.length - 1) := List.dropLast_eq_take
theorem ok_Store_drop (T : Txt K mg CE CS CO) (D : DefM K CS "drop_over_room" "Store.drop_over_room" s_Store_drop_over_room ["self"]) (m_Store_load : PromM P w K mg base 2 CS "load" ["self"] (sp_Store_load CE CS))
    (m_Entry_size : PromM P w K mg base 1 CE "size" ["self"] (sp_Entry_size CE)) :
    PromM P w K mg base 3 CS "drop_over_room" ["self"] (sp_Store_drop CE CS) := by
  have sc := sc_Store_drop_over_room
  refine D.prom sc (fun vs H Q E h => ?_) (fun f cdv A outer s H vs Q E hr h => ?_)
  · obtain ⟨L, s, l, as, S, rfl, _⟩ := h
    rfl
  · obtain ⟨L, s, l, as, S, rfl, st, hlen, kk⟩ := h
    refine ⟨_, (pss_cons (ps_set (i := 1) sc.nd rfl (Or.inl rfl) (pe_methP0 m_Store_load T.c_Store (hr.mono (by decide)) (pv 0)))
      (pss_cons (ps_set (i := 2) sc.nd rfl (Or.inl rfl) pe_int)
      (pss_cons (ps_while PassesOwn.never (pt_cmpR op_gt (pv 1) (pe_fld (pv 0) rfl) (nomark _)) (pss_cons (ps_aug (i := 1) sc.nd rfl (Or.inl rfl) (pe_methP0 m_Entry_size T.c_Entry (hr.mono (by decide)) (pe_bm0 PySem.F.plainAttrs_list PySem.F.slot_list_pop PySem.F.type_list_pop mt_pop (pe_fld (pv 0) rfl))) ip_sub)
      (pss_one (ps_aug (i := 2) sc.nd rfl (Or.inl rfl) pe_int ip_add))))
      (pss_one (ps_ret (pv 2)))))), ?_⟩
    have hln := st.len
    obtain ⟨dx0, ob0⟩ := st.ob
    refine ⟨_, rfl, s, dx0, _, rfl, ob0, sf_load _ _, L, s, l, _, _, rfl, st, hlen, fun H0 s0 => ?_⟩
    have st0 := st.same s0
    refine ⟨fun m σ H1 => m ≤ S.entries.length ∧ σ = [some (.ref s), some (.int ((Vabldj.load (S.entries.take m) : Nat) : Int)), some (.int ((S.entries.length - m : Nat) : Int))] ∧ (∀ b o, H b = some o → b ≠ l → H1 b = some o) ∧ StoreAt CE CS H1 L s l (as.take m) { S with entries := S.entries.take m } ∧
      Vabldj.fitting S.room (S.entries.take m) = Vabldj.fitting S.room S.entries, ⟨S.entries.length, Nat.le_refl _, ?_, fun _ _ e _ => s0 _ _ e, ?_, ?_⟩, ?_⟩
    · rw [Nat.sub_self, List.take_length]
      rfl
    · rw [List.take_length, ← hln, List.take_length]
      exact st0
    · rw [List.take_length]
    · rintro m σ H2 ⟨hm, rfl, fr1, st2, fit1⟩
      obtain ⟨dx2, ob2⟩ := st2.ob
      refine ⟨_, rfl, _, rfl, s, CS, dx2, _, _, rfl, ob2, T.c_Store, T.s_room, sf_room _ _, _, _, rfl, rfl, _, rfl, ite2 (fun c => ?_) (fun c => ?_)⟩
      · have c' : S.room < Vabldj.load (S.entries.take m) := by simp at c; omega
        have hm0 : 0 < m := by
          rcases Nat.eq_zero_or_pos m with z | z
          · subst z
            rw [List.take_zero, load_nil] at c'
            omega
          · exact z
        have elen : (as.take m).length = m := by rw [List.length_take]; omega
        obtain ⟨a0, ha0⟩ : ∃ a, (as.take m)[m - 1]? = some a := ⟨_, List.getElem?_eq_getElem (by omega)⟩
        have hlast : ((as.take m).map V.ref)[((as.take m).map V.ref).length - 1]? = some (V.ref a0) := by
          rw [List.length_map, elen, List.getElem?_map, ha0]
          rfl
        refine ⟨fun σ' H' => ∃ m', m' < m ∧ (m' ≤ S.entries.length ∧ σ' = [some (.ref s), some (.int ((Vabldj.load (S.entries.take m') : Nat) : Int)), some (.int ((S.entries.length - m' : Nat) : Int))] ∧ (∀ b o, H b = some o → b ≠ l → H' b = some o) ∧ StoreAt CE CS H' L s l (as.take m') { S with entries := S.entries.take m' } ∧
          Vabldj.fitting S.room (S.entries.take m') = Vabldj.fitting S.room S.entries), fun _ _ h => h, ?_⟩
        obtain ⟨E0, hE0, r0⟩ := pd_get st2.ents ha0
        have fr3 : ∀ b o, H2 b = some o → b ≠ l → (upd H2 l (.lst ((as.take m).map V.ref).dropLast)) b = some o := fun b o e hb => by rw [upd_ne hb]; exact e
        obtain ⟨_, g0, h0, at0, _⟩ := r0.off st2.mem st2.ls fr3
        obtain ⟨⟨dy, hy⟩, _⟩ := id at0
        have hE1 : S.entries[m - 1]? = some E0 := by
          have hE0' : (S.entries.take m)[m - 1]? = some E0 := hE0
          rw [List.getElem?_take_of_lt (by omega)] at hE0'
          exact hE0'
        have eload : Vabldj.load (S.entries.take m) = Vabldj.load (S.entries.take (m - 1)) + E0.size := by
          have e1 := take_snoc hE1
          rw [show m - 1 + 1 = m by omega] at e1
          rw [e1, load_append, load_cons, load_nil]
          omega
        refine ⟨_, rfl, _, rfl, s, CS, dx2, _, _, rfl, ob2, T.c_Store, T.s_entries, sf_entries _ _, .inl ⟨rfl, _, SqL.of st2.ls⟩, l, _, _, rfl, rfl, st2.ls, hlast, a0, dy, _, rfl, hy, ef_size _ _ _ _ _, a0, g0, h0, E0, rfl, at0, _, _, rfl, rfl, ?_⟩
        refine ⟨_, rfl, _, _, rfl, rfl, m - 1, by omega, by omega, ?_, fun b o e hb => ?_, ?_, ?_⟩
        · have e1 : ((S.entries.length - m : Nat) : Int) + 1 = ((S.entries.length - (m - 1) : Nat) : Int) := by omega
          have e2 : ((Vabldj.load (S.entries.take m) : Nat) : Int) - ((E0.size : Nat) : Int) = ((Vabldj.load (S.entries.take (m - 1)) : Nat) : Int) := by omega
          show [some (V.ref s), some (V.int (((Vabldj.load (S.entries.take m) : Nat) : Int) - ((E0.size : Nat) : Int))), some (V.int (((S.entries.length - m : Nat) : Int) + 1))] = _
          rw [e1, e2]
        · rw [upd_ne hb]
          exact fr1 b o e hb
        · have e1 : (as.take m).dropLast = as.take (m - 1) := by rw [take_dropLast, elen, List.take_take, Nat.min_eq_left (by omega)]
          have e2 : ((as.take m).map V.ref).dropLast = (as.take (m - 1)).map V.ref := by rw [← List.map_dropLast, e1]
          have e3 : (S.entries.take m).take (m - 1) = S.entries.take (m - 1) := by rw [List.take_take, Nat.min_eq_left (by omega)]
          have e4 : (as.take m).take (m - 1) = as.take (m - 1) := by rw [List.take_take, Nat.min_eq_left (by omega)]
          refine st2.write (as' := as.take (m - 1)) (es' := S.entries.take (m - 1)) (fun b o e hb => by rw [upd_ne hb]; exact e) (by rw [upd_same, e2]) (st.nd.sublist (List.take_sublist _ _)) ?_
          have p := pd_take (m - 1) st2.ents
          rw [e4] at p
          have p' : Paired (EntR CE H2 L) (as.take (m - 1)) ((S.entries.take m).take (m - 1)) := p
          rw [e3] at p'
          exact p'
        · have e3 : (S.entries.take m).dropLast = S.entries.take (m - 1) := by rw [take_dropLast, List.length_take, List.take_take, Nat.min_eq_left (by omega)]; congr 1; omega
          rw [← e3, ← fits_less _ _ c']
          exact fit1
      · have c' : Vabldj.load (S.entries.take m) ≤ S.room := by simp at c; omega
        have e1 : S.entries.take m = Vabldj.fitting S.room S.entries := by rw [← fit1, fits_all _ _ c']
        have e2 : (Vabldj.fitting S.room S.entries).length = m := by rw [← e1, List.length_take]; omega
        have q := kk H2
        rw [e2] at q
        refine ⟨_, rfl, q ?_ fr1⟩
        rw [← e1]
        exact st2
/-- what is paired with those that are kept of a list -/
theorem filter_snoc {α : Type} (p : α → Bool) {l : List α} {i : Nat} {x : α} (h : l[i]? = some x) : (l.take (i + 1)).filter p = (l.take i).filter p ++ (if p x = true then [x] else []) := by
  rw [take_snoc h, List.filter_append]
  congr 1
  cases c : p x with
  | true => rw [List.filter_cons, if_pos c]; rfl
  | false => rw [List.filter_cons, if_neg (by rw [c]; exact Bool.false_ne_true)]; rfl
theorem pd_snoc {α β : Type} {F : α → β → Prop} : ∀ {xs : List α} {ys : List β} {x : α} {y : β}, Paired F xs ys → F x y → Paired F (xs ++ [x]) (ys ++ [y])
  | _, _, _, _, .nil, f => .cons f .nil
  | _, _, _, _, .cons r t, f => .cons r (pd_snoc t f)
theorem ok_Store_take_out_cut (T : Txt K mg CE CS CO) (D : DefM K CS "take_out_cut" "Store.take_out_cut" s_Store_take_out_cut ["self"]) (m_Entry_is_whole : PromM P w K mg base 1 CE "is_whole" ["self"] (sp_Entry_is_whole CE)) :
    PromM P w K mg base 2 CS "take_out_cut" ["self"] (sp_Store_take_out_cut CE CS) := by
  have sc := sc_Store_take_out_cut
  refine D.prom sc (fun vs H Q E h => ?_) (fun f cdv A outer s H vs Q E hr h => ?_)
  · obtain ⟨L, s, l, as, S, rfl, _⟩ := h
    rfl
  · obtain ⟨L, s, l, as, S, rfl, st, hlen, kk⟩ := h
    refine ⟨_, (pss_cons (ps_setLc (i := 1) (own := [("entry", 2)]) rfl sc.nd rfl rfl (sw_true rfl rfl rfl rfl) (pi_list (pe_fld (pv 0) rfl)) (blkOk_by (by kernel_rfl)) (fun _ _ _ _ _ => pg_name (i := 2) sc.nd rfl (Or.inl rfl)) (fun _ _ _ _ _ => (pts_one (pt_val (pe_methP0 m_Entry_is_whole T.c_Entry (hr.mono (by decide)) (pv 2))))) (fun _ _ _ _ _ => (pv 2)))
      (pss_cons (ps_set (i := 3) sc.nd rfl (Or.inl rfl) (pe_op op_sub (pe_callB call_len_seq rfl T.n_len PySem.boot_len (pa_cons (pe_fld (pv 0) rfl) pa_nil)) (pe_callB call_len_seq rfl T.n_len PySem.boot_len (pa_cons (pv 1) pa_nil))))
      (pss_cons (ps_fld (pv 0) (pv 1) rfl)
      (pss_one (ps_ret (pv 3)))))), ?_⟩
    obtain ⟨dx, ob⟩ := st.ob
    have hln := st.len
    have hs := sizeLine_eq
    refine ⟨_, rfl, s, CS, dx, _, _, rfl, ob, T.c_Store, T.s_entries, sf_entries _ _, l, rfl, ⟨_, SqL.of st.ls⟩, fun D hD => lc_list (K := K) (a := l) (xs := as.map V.ref)
      (fun i H' => Same H H' ∧ ∃ bs : List Addr, H' D = some (.lst (bs.map V.ref)) ∧ bs.Sublist (as.take i) ∧ Paired (EntR CE H L) bs ((S.entries.take i).filter fun e => e.whole)) ⟨Same.new hD, [], upd_same, List.Sublist.refl _, .nil⟩ (fun i H' _ ⟨s1, _⟩ => SqL.of (s1 _ _ st.ls)) ?_ ?_⟩
    · rintro i x H1 hx ⟨s1, bs, hD1, sb, pr⟩
      obtain ⟨a, ha, rfl⟩ : ∃ a, as[i]? = some a ∧ x = V.ref a := by
        rw [List.getElem?_map] at hx
        cases e : as[i]? with
        | none => rw [e] at hx; cases hx
        | some a => rw [e] at hx; exact ⟨a, rfl, (Option.some.inj hx).symm⟩
      obtain ⟨E, hE, r⟩ := pd_get st.ents ha
      obtain ⟨_, g, h, at1, _⟩ := r.same s1
      obtain ⟨⟨dy, ha1⟩, _⟩ := id at1
      have fs := filter_snoc (fun e : Vabldj.Entry => e.whole) hE
      refine ⟨rfl, _, rfl, a, dy, _, rfl, ha1, ef_is_whole _ _ _ _ _, a, g, h, E, rfl, at1, _, rfl, ite2 (fun c => ?_) (fun c => ?_)⟩
      · rw [if_pos c] at fs
        have bl : bs.length ≤ i := by
          have := sb.length_le
          rw [List.length_take] at this
          omega
        have il : i < as.length := (List.getElem?_eq_some_iff.mp ha).1
        refine ⟨_, rfl, _, hD1, by rw [List.length_map]; omega, ?_, bs ++ [a], ?_, ?_, ?_⟩
        · intro b u e
          rw [upd_ne (ne_of_none e hD)]
          exact s1 b u e
        · rw [upd_same, List.map_append]
          rfl
        · rw [take_snoc ha]
          exact List.Sublist.append sb (List.Sublist.refl _)
        · rw [fs]
          exact pd_snoc pr r
      · rw [if_neg c, List.append_nil] at fs
        refine ⟨s1, bs, hD1, ?_, ?_⟩
        · rw [take_snoc ha]
          exact sb.trans (List.sublist_append_left _ _)
        · rw [fs]
          exact pr
    · rintro H1 ⟨s1, bs, hD1, sb, pr⟩
      rw [List.length_map] at sb pr
      rw [List.take_length] at sb
      rw [hln, List.take_length] at pr
      have ob1 := s1 _ _ ob
      have sD : s ≠ D := ne_of_none ob hD
      refine ⟨_, rfl, s, CS, dx, _, _, rfl, ob1, T.c_Store, T.s_entries, sf_entries _ _, l, _, rfl, .inl (SqL.of (s1 _ _ st.ls)), _, rfl, D, _, rfl, .inl (SqL.of hD1), _, _, rfl, rfl, ?_⟩
      refine ⟨_, rfl, _, rfl, s, CS, dx, _, rfl, ob1, T.c_Store, T.s_entries, (by show 2 < 1000; decide), ?_⟩
      rw [sf_put_entries]
      refine ⟨_, rfl, ?_⟩
      have el : bs.length = (S.entries.filter fun e => e.whole).length := pd_len pr
      have le : bs.length ≤ S.entries.length := by rw [el]; exact List.length_filter_le _ _
      have q := kk (upd H1 s (.ins CS dx (sf S.room D))) D bs ⟨dx, upd_same⟩ (by rw [upd_ne sD.symm]; exact hD1) hD sb pr fun b o e hb => by rw [upd_ne hb]; exact s1 _ _ e
      have e0 : (((as.map V.ref).length : Nat) : Int) - (((bs.map V.ref).length : Nat) : Int) = ((S.entries.length - (S.entries.filter fun e => e.whole).length : Nat) : Int) := by
        rw [List.length_map, List.length_map, hln, ← el]
        omega
      show Q (V.int ((((as.map V.ref).length : Nat) : Int) - (((bs.map V.ref).length : Nat) : Int))) _
      rw [e0]
      exact q
theorem ok_Store_keep (T : Txt K mg CE CS CO) (D : DefM K CS "keep" "Store.keep" s_Store_keep ["self", "entry"]) (m_Entry_size : PromM P w K mg base 1 CE "size" ["self"] (sp_Entry_size CE))
    (m_Store_drop_over_room : PromM P w K mg base 3 CS "drop_over_room" ["self"] (sp_Store_drop CE CS)) : PromM P w K mg base 4 CS "keep" ["self", "entry"] (sp_Store_keep CE CS) := by
  have sc := sc_Store_keep
  refine D.prom sc (fun vs H Q E h => ?_) (fun f cdv A outer s H vs Q E hr h => ?_)
  · obtain ⟨L, s, l, as, S, e, E, rfl, _⟩ := h
    rfl
  · obtain ⟨L, s, l, as, S, e, E, rfl, st, r, ne, hlen, kk⟩ := h
    refine ⟨_, (pss_cons (ps_if (pt_cmpR op_gt (pe_methP0 m_Entry_size T.c_Entry (hr.mono (by decide)) (pv 1)) (pe_fld (pv 0) rfl) (nomark _)) (pss_one (ps_ret pe_int)) pss_nil)
      (pss_cons (ps_expr (pe_bm PySem.F.plainAttrs_list PySem.F.slot_list_insert PySem.F.type_list_insert mt_insert0 (pe_fld (pv 0) rfl) (pa_cons pe_int (pa_cons (pv 1) pa_nil))))
      (pss_one (ps_ret (pe_methP0 m_Store_drop_over_room T.c_Store (hr.mono (by decide)) (pv 0)))))), ?_⟩
    obtain ⟨dx, ob⟩ := st.ob
    obtain ⟨_, g, h, at1, _⟩ := id r
    obtain ⟨⟨dy, he⟩, _⟩ := id at1
    have hln := st.len
    have hs := sizeLine_eq
    refine ⟨_, rfl, e, dy, _, rfl, he, ef_size _ _ _ _ _, e, g, h, E, rfl, at1, _, rfl, s, CS, dx, _, _, rfl, ob, T.c_Store, T.s_room, sf_room _ _, _, _, rfl, rfl, _, rfl, ite2 (fun c => ?_) (fun c => ?_)⟩
    · have c' : S.room < E.size := by simp at c; omega
      have ek : Vabldj.keep S E = (S, 0) := by unfold Vabldj.keep; rw [if_pos c']
      rw [ek] at kk
      exact kk H as st (fun a ha => .inr ha) fun _ _ e _ => e
    · have c' : ¬ S.room < E.size := by simp at c; omega
      have ek : Vabldj.keep S E = ({ S with entries := Vabldj.fitting S.room (E :: S.entries) }, S.entries.length + 1 - (Vabldj.fitting S.room (E :: S.entries)).length) := by unfold Vabldj.keep; rw [if_neg c']
      rw [ek] at kk
      refine ⟨_, rfl, s, CS, dx, _, _, rfl, ob, T.c_Store, T.s_entries, sf_entries _ _, .inl ⟨rfl, _, SqL.of st.ls⟩, _, rfl, l, _, _, rfl, rfl, st.ls, by rw [List.length_map]; omega, ?_⟩
      have fr : ∀ b o, H b = some o → b ≠ l → (upd H l (.lst (V.ref e :: as.map V.ref))) b = some o := fun b o q hb => by rw [upd_ne hb]; exact q
      have st1 := st.write (as' := e :: as) (es' := E :: S.entries) fr upd_same (List.nodup_cons.mpr ⟨ne, st.nd⟩) (.cons r st.ents)
      obtain ⟨dx1, ob1⟩ := st1.ob
      refine ⟨_, rfl, s, dx1, _, rfl, ob1, sf_drop _ _, L, s, l, _, _, rfl, st1, ?_, fun H2 st2 fr2 => ?_⟩
      · show (E :: S.entries).length ≤ 3000
        rw [List.length_cons]
        omega
      · refine kk H2 _ st2 (fun a ha => ?_) fun b o q hb => fr2 b o (fr b o q hb) hb
        have := List.mem_of_mem_take ha
        exact List.mem_cons.mp this
end
end Ac

set_option Elab.async false
set_option linter.all false
set_option maxRecDepth 100000
set_option maxHeartbeats 2000000
namespace Ac
open PySem PySem.Spec PyProof.Rows L2
/-! ### the object: two stores, switches, counts -/
def oF (n f : Addr) (S : Vabldj.State) : List (Str × V) := [("near", .ref n), ("far", .ref f), ("far_is_there", .bl S.there), ("sends", .bl S.sends), ("keeps_failing", .bl S.failing), ("worked", .int (S.worked : Int)), ("from_near", .int (S.fromNear : Int)), ("from_far", .int (S.fromFar : Int)),
  ("sent", .int (S.sent : Int)), ("dropped", .int (S.dropped : Int)), ("spoilt", .int (S.spoilt : Int))]
section
variable (n f : Addr) (S : Vabldj.State)
theorem oF_near : (oF n f S).lookup ("near" : Str) = some (.ref n) := by kernel_rfl
theorem oF_far : (oF n f S).lookup ("far" : Str) = some (.ref f) := by kernel_rfl
theorem oF_there : (oF n f S).lookup ("far_is_there" : Str) = some (.bl S.there) := by kernel_rfl
theorem oF_sends : (oF n f S).lookup ("sends" : Str) = some (.bl S.sends) := by kernel_rfl
theorem oF_failing : (oF n f S).lookup ("keeps_failing" : Str) = some (.bl S.failing) := by kernel_rfl
theorem oF_worked : (oF n f S).lookup ("worked" : Str) = some (.int (S.worked : Int)) := by kernel_rfl
theorem oF_from_near : (oF n f S).lookup ("from_near" : Str) = some (.int (S.fromNear : Int)) := by kernel_rfl
theorem oF_from_far : (oF n f S).lookup ("from_far" : Str) = some (.int (S.fromFar : Int)) := by kernel_rfl
theorem oF_sent : (oF n f S).lookup ("sent" : Str) = some (.int (S.sent : Int)) := by kernel_rfl
theorem oF_dropped : (oF n f S).lookup ("dropped" : Str) = some (.int (S.dropped : Int)) := by kernel_rfl
theorem oF_spoilt : (oF n f S).lookup ("spoilt" : Str) = some (.int (S.spoilt : Int)) := by kernel_rfl
theorem put_there (b : Bool) : putF "far_is_there" (.bl b) (oF n f S) = oF n f { S with there := b } := by kernel_rfl
theorem put_sends (b : Bool) : putF "sends" (.bl b) (oF n f S) = oF n f { S with sends := b } := by kernel_rfl
theorem put_failing (b : Bool) : putF "keeps_failing" (.bl b) (oF n f S) = oF n f { S with failing := b } := by kernel_rfl
theorem put_worked (k : Nat) : putF "worked" (.int (k : Int)) (oF n f S) = oF n f { S with worked := k } := by kernel_rfl
theorem put_from_near (k : Nat) : putF "from_near" (.int (k : Int)) (oF n f S) = oF n f { S with fromNear := k } := by kernel_rfl
theorem put_from_far (k : Nat) : putF "from_far" (.int (k : Int)) (oF n f S) = oF n f { S with fromFar := k } := by kernel_rfl
theorem put_sent (k : Nat) : putF "sent" (.int (k : Int)) (oF n f S) = oF n f { S with sent := k } := by kernel_rfl
theorem put_dropped (k : Nat) : putF "dropped" (.int (k : Int)) (oF n f S) = oF n f { S with dropped := k } := by kernel_rfl
theorem put_spoilt (k : Nat) : putF "spoilt" (.int (k : Int)) (oF n f S) = oF n f { S with spoilt := k } := by kernel_rfl
theorem oF_stores (A B : Vabldj.Store) : oF n f { S with near := A, far := B } = oF n f S := by kernel_rfl
theorem oF_no (m : Str) (h : m ∉ (["near", "far", "far_is_there", "sends", "keeps_failing", "worked", "from_near", "from_far", "sent", "dropped", "spoilt"] : List Str)) : (oF n f S).lookup m = none := by
  simp only [List.mem_cons, List.not_mem_nil, or_false, not_or] at h
  obtain ⟨h1, h2, h3, h4, h5, h6, h7, h8, h9, h10, h11⟩ := h
  unfold oF
  simp only [List.lookup_cons, beq_eq_false_iff_ne.mpr h1, beq_eq_false_iff_ne.mpr h2, beq_eq_false_iff_ne.mpr h3, beq_eq_false_iff_ne.mpr h4, beq_eq_false_iff_ne.mpr h5, beq_eq_false_iff_ne.mpr h6, beq_eq_false_iff_ne.mpr h7, beq_eq_false_iff_ne.mpr h8, beq_eq_false_iff_ne.mpr h9, beq_eq_false_iff_ne.mpr h10, beq_eq_false_iff_ne.mpr h11]
  rfl
end
/-- a store behind a write of what is none of its own -/
theorem StoreAt.frame {CE CS : Addr} {H H' : Hp} {L : List Addr} {s l : Addr} {as : List Addr} {S : Vabldj.Store} (x : StoreAt CE CS H L s l as S) (M : Addr → Prop) (k : ∀ b o, H b = some o → ¬ M b → H' b = some o) (hs : ¬ M s) (hl : ¬ M l) (ha : ∀ a ∈ as, ¬ M a)
    (hL : ∀ b xs, H b = some (.lst xs) → M b → b ∈ L) : StoreAt CE CS H' L s l as S := by
  obtain ⟨dx, e⟩ := x.ob
  refine ⟨⟨dx, k _ _ e hs⟩, k _ _ x.ls hl, x.mem, x.nd, pd_map x.ents fun a b hm r => ?_⟩
  exact r.keep (fun o q => k _ _ q (ha a hm)) fun c xs hc q => ⟨hc, k _ _ q fun z => hc (hL c xs q z)⟩
theorem StoreAt.isIns {CE CS : Addr} {H : Hp} {L : List Addr} {s l : Addr} {as : List Addr} {S : Vabldj.Store} (x : StoreAt CE CS H L s l as S) {a : Addr} (ha : a ∈ as) : ∃ dx fs, H a = some (.ins CE dx fs) := by
  obtain ⟨i, hi⟩ := List.getElem?_of_mem ha
  obtain ⟨E, _, r⟩ := pd_get x.ents hi
  exact r.ins
/-- .. of the object itself -/
theorem StoreAt.offO {CE CS CO : Addr} {H H' : Hp} {L : List Addr} {s l : Addr} {as : List Addr} {S : Vabldj.Store} {p dx : Addr} {fs : List (Str × V)} (x : StoreAt CE CS H L s l as S) (eO : CE ≠ CO) (sO : CS ≠ CO) (hp : H p = some (.ins CO dx fs))
    (k : ∀ b o, H b = some o → b ≠ p → H' b = some o) : StoreAt CE CS H' L s l as S := by
  obtain ⟨ds, e⟩ := x.ob
  refine x.frame (fun b => b = p) (fun b o q hb => k b o q hb) (fun z => ?_) (fun z => ?_) (fun a ha z => ?_) fun b xs q z => ?_
  · rw [z, hp] at e
    injection e with e
    injection e with e1
    exact sO e1.symm
  · have := x.ls
    rw [z, hp] at this
    cases this
  · obtain ⟨da, fa, q⟩ := x.isIns ha
    rw [z, hp] at q
    injection q with q
    injection q with q1
    exact eO q1.symm
  · rw [z, hp] at q
    cases q
/-- .. of the other store's list -/
theorem StoreAt.offL {CE CS : Addr} {H H' : Hp} {L : List Addr} {s l m : Addr} {as : List Addr} {S : Vabldj.Store} {xs : List V} (x : StoreAt CE CS H L s l as S) (hm : m ∈ L) (hn : l ≠ m) (hp : H m = some (.lst xs)) (k : ∀ b o, H b = some o → b ≠ m → H' b = some o) : StoreAt CE CS H' L s l as S := by
  obtain ⟨ds, e⟩ := x.ob
  refine x.frame (fun b => b = m) (fun b o q hb => k b o q hb) (fun z => ?_) hn (fun a ha z => ?_) fun b xs q z => z ▸ hm
  · rw [z, hp] at e
    cases e
  · obtain ⟨da, fa, q⟩ := x.isIns ha
    rw [z, hp] at q
    cases q
theorem none_of_keep {H H' : Hp} {p : Addr} (k : ∀ b o, H b = some o → b ≠ p → H' b = some o) (hp : ∃ o, H' p = some o) : ∀ b, H' b = none → H b = none := fun b e => by
  obtain ⟨o, hp⟩ := hp
  have hb : b ≠ p := fun z => by rw [z, hp] at e; cases e
  cases q : H b with
  | none => rfl
  | some u => rw [k b u q hb] at e; cases e
theorem none_of_keep2 {H H' : Hp} {p q : Addr} (k : ∀ b o, H b = some o → b ≠ p → b ≠ q → H' b = some o) (hp : ∃ o, H' p = some o) (hq : ∃ o, H' q = some o) : ∀ b, H' b = none → H b = none := fun b e => by
  obtain ⟨o, hp⟩ := hp
  obtain ⟨o', hq⟩ := hq
  have h1 : b ≠ p := fun z => by rw [z, hp] at e; cases e
  have h2 : b ≠ q := fun z => by rw [z, hq] at e; cases e
  cases c : H b with
  | none => rfl
  | some u => rw [k b u c h1 h2] at e; cases e
structure SessAt (CE CS CO : Addr) (M : List Addr) (H : Hp) (p n f lN lF : Addr) (aN aF : List Addr) (S : Vabldj.State) : Prop where
  ob : ∃ dx, H p = some (.ins CO dx (oF n f S))
  near : StoreAt CE CS H (lN :: lF :: M) n lN aN S.near
  far : StoreAt CE CS H (lN :: lF :: M) f lF aF S.far
  nf : n ≠ f
  ll : lN ≠ lF
  dis : ∀ a, a ∈ aN → a ∉ aF
  tr : ∀ b, b ∈ M → ∃ o, H b = some o
theorem tr_of {M : List Addr} {H H' : Hp} (t : ∀ b, b ∈ M → ∃ o, H b = some o) (new : ∀ b, H' b = none → H b = none) : ∀ b, b ∈ M → ∃ o, H' b = some o := fun b hb => by
  obtain ⟨o, e⟩ := t b hb
  cases q : H' b with
  | none => rw [new b q] at e; cases e
  | some u => exact ⟨u, rfl⟩
/-- a number or a switch of the object is written -/
theorem SessAt.put {CE CS CO : Addr} {M : List Addr} {H H' : Hp} {p n f lN lF : Addr} {aN aF : List Addr} {S S' : Vabldj.State} (x : SessAt CE CS CO M H p n f lN lF aN aF S) (eO : CE ≠ CO) (sO : CS ≠ CO) (k : ∀ b o, H b = some o → b ≠ p → H' b = some o) (hp : ∃ dx, H' p = some (.ins CO dx (oF n f S')))
    (hn : S'.near = S.near) (hf : S'.far = S.far) : SessAt CE CS CO M H' p n f lN lF aN aF S' := by
  obtain ⟨dx, e⟩ := x.ob
  exact ⟨hp, by rw [hn]; exact x.near.offO eO sO e k, by rw [hf]; exact x.far.offO eO sO e k, x.nf, x.ll, x.dis, tr_of x.tr (none_of_keep k (let ⟨_, q⟩ := hp; ⟨_, q⟩))⟩
theorem SessAt.same {CE CS CO : Addr} {M : List Addr} {H H' : Hp} {p n f lN lF : Addr} {aN aF : List Addr} {S : Vabldj.State} (x : SessAt CE CS CO M H p n f lN lF aN aF S) (k : Same H H') : SessAt CE CS CO M H' p n f lN lF aN aF S := by
  obtain ⟨dx, e⟩ := x.ob
  exact ⟨⟨dx, k _ _ e⟩, x.near.same k, x.far.same k, x.nf, x.ll, x.dis, tr_of x.tr fun b e => k.free e⟩
/-- the store that is meant -/
def pick {α : Type} (far : Bool) (x y : α) : α := if far then y else x
/-- its entries are others now; the object and the other store are as they were -/
theorem SessAt.store {CE CS CO : Addr} {M : List Addr} {H H' : Hp} {p n f lN lF : Addr} {aN aF : List Addr} {S : Vabldj.State} (x : SessAt CE CS CO M H p n f lN lF aN aF S) (far : Bool) {as' : List Addr} {T : Vabldj.Store} (y : StoreAt CE CS H' (lN :: lF :: M) (pick far n f) (pick far lN lF) as' T)
    (k : ∀ b o, H b = some o → b ≠ pick far lN lF → H' b = some o) (sub : ∀ a, a ∈ as' → a ∈ pick far aN aF ∨ H a = none ∨ (a ∉ aN ∧ a ∉ aF)) : SessAt CE CS CO M H' p n f lN lF (pick far as' aN) (pick far aF as') (S.withStore far T) := by
  obtain ⟨dx, e⟩ := x.ob
  cases far with
  | false =>
    refine ⟨⟨dx, ?_⟩, y, x.far.offL (by simp) x.ll.symm x.near.ls k, x.nf, x.ll, fun a ha hb => ?_, tr_of x.tr (none_of_keep k ⟨_, y.ls⟩)⟩
    · have q := k p _ e fun z => by rw [z] at e; have := x.near.ls; rw [show pick false lN lF = lN from rfl] at e; rw [e] at this; cases this
      exact q
    · rcases sub a ha with h | h | h
      · exact x.dis a h hb
      · obtain ⟨da, fa, q⟩ := x.far.isIns hb
        rw [h] at q
        cases q
      · exact h.2 hb
  | true =>
    refine ⟨⟨dx, ?_⟩, x.near.offL (by simp) x.ll x.far.ls k, y, x.nf, x.ll, fun a ha hb => ?_, tr_of x.tr (none_of_keep k ⟨_, y.ls⟩)⟩
    · have q := k p _ e fun z => by rw [z] at e; have := x.far.ls; rw [show pick true lN lF = lF from rfl] at e; rw [e] at this; cases this
      exact q
    · rcases sub a hb with h | h | h
      · exact x.dis a ha h
      · obtain ⟨da, fa, q⟩ := x.near.isIns ha
        rw [h] at q
        cases q
      · exact h.1 ha
theorem ins_ne {H : Hp} {a b C C' dx dy : Addr} {fs gs : List (Str × V)} (h : H a = some (.ins C dx fs)) (h' : H b = some (.ins C' dy gs)) (ne : C ≠ C') : a ≠ b := fun z => by
  rw [z, h'] at h
  injection h with h
  injection h with h1
  exact ne h1.symm
theorem ins_lst {H : Hp} {a b C dx : Addr} {fs : List (Str × V)} {xs : List V} (h : H a = some (.ins C dx fs)) (h' : H b = some (.lst xs)) : a ≠ b := fun z => by
  rw [z, h'] at h
  cases h
/-- a store behind a write of the other store's object and list -/
theorem StoreAt.off2 {CE CS : Addr} {H H' : Hp} {L : List Addr} {s l m r dr : Addr} {as : List Addr} {S : Vabldj.Store} {xs : List V} {fs : List (Str × V)} (x : StoreAt CE CS H L s l as S) (eS : CE ≠ CS) (hm : m ∈ L) (hn : l ≠ m) (hr : s ≠ r) (hp : H m = some (.lst xs)) (hq : H r = some (.ins CS dr fs))
    (k : ∀ b o, H b = some o → b ≠ r → b ≠ m → H' b = some o) : StoreAt CE CS H' L s l as S := by
  obtain ⟨ds, e⟩ := x.ob
  refine x.frame (fun b => b = r ∨ b = m) (fun b o q hb => k b o q (fun z => hb (.inl z)) fun z => hb (.inr z)) ?_ ?_ (fun a ha => ?_) fun b xs q z => ?_
  · rintro (z | z)
    · exact hr z
    · exact ins_lst e hp z
  · rintro (z | z)
    · exact ins_lst hq x.ls z.symm
    · exact hn z
  · obtain ⟨da, fa, q⟩ := x.isIns ha
    rintro (z | z)
    · exact ins_ne q hq eS z
    · exact ins_lst q hp z
  · rcases z with z | z
    · rw [z, hq] at q
      cases q
    · exact z ▸ hm
/-- .. where the store's own object may be another, too -/
theorem SessAt.store2 {CE CS CO : Addr} {M : List Addr} {H H' : Hp} {p n f lN lF : Addr} {aN aF : List Addr} {S : Vabldj.State} (x : SessAt CE CS CO M H p n f lN lF aN aF S) (eS : CE ≠ CS) (sO : CS ≠ CO) (far : Bool) {as' : List Addr} {T : Vabldj.Store} (y : StoreAt CE CS H' (lN :: lF :: M) (pick far n f) (pick far lN lF) as' T)
    (k : ∀ b o, H b = some o → b ≠ Ac.pick far n f → b ≠ Ac.pick far lN lF → H' b = some o) (sub : ∀ a, a ∈ as' → a ∈ Ac.pick far aN aF ∨ H a = none ∨ (a ∉ aN ∧ a ∉ aF)) : SessAt CE CS CO M H' p n f lN lF (Ac.pick far as' aN) (Ac.pick far aF as') (S.withStore far T) := by
  obtain ⟨dx, e⟩ := x.ob
  obtain ⟨dn, en⟩ := x.near.ob
  obtain ⟨df, ef⟩ := x.far.ob
  cases far with
  | false =>
    refine ⟨⟨dx, k p _ e (ins_ne e en sO.symm) (ins_lst e x.near.ls)⟩, y, x.far.off2 eS (by simp) x.ll.symm x.nf.symm x.near.ls en k, x.nf, x.ll, fun a ha hb => ?_, tr_of x.tr (none_of_keep2 k (let ⟨_, q⟩ := y.ob; ⟨_, q⟩) ⟨_, y.ls⟩)⟩
    rcases sub a ha with h | h | h
    · exact x.dis a h hb
    · obtain ⟨da, fa, q⟩ := x.far.isIns hb
      rw [h] at q
      cases q
    · exact h.2 hb
  | true =>
    refine ⟨⟨dx, k p _ e (ins_ne e ef sO.symm) (ins_lst e x.far.ls)⟩, x.near.off2 eS (by simp) x.ll x.nf x.far.ls ef k, y, x.nf, x.ll, fun a ha hb => ?_, tr_of x.tr (none_of_keep2 k (let ⟨_, q⟩ := y.ob; ⟨_, q⟩) ⟨_, y.ls⟩)⟩
    rcases sub a hb with h | h | h
    · exact x.dis a ha h
    · obtain ⟨da, fa, q⟩ := x.near.isIns ha
      rw [h] at q
      cases q
    · exact h.1 ha
/-- a store's room is another -/
theorem StoreAt.room {CE CS : Addr} {H H' : Hp} {L : List Addr} {s l : Addr} {as : List Addr} {S : Vabldj.Store} {m : Nat} (x : StoreAt CE CS H L s l as S) (eS : CE ≠ CS) (k : ∀ b o, H b = some o → b ≠ s → H' b = some o) (hs : ∃ dx, H' s = some (.ins CS dx (sf m l))) : StoreAt CE CS H' L s l as { S with room := m } := by
  obtain ⟨ds, e⟩ := x.ob
  refine ⟨hs, k _ _ x.ls (ins_lst e x.ls).symm, x.mem, x.nd, pd_map x.ents fun a b hm r => ?_⟩
  obtain ⟨da, fa, q⟩ := r.ins
  exact r.keep (fun o q' => k _ _ q' (ins_ne q e eS)) fun c xs hc q' => ⟨hc, k _ _ q' fun z => by rw [z, e] at q'; cases q'⟩
theorem SessAt.pick {CE CS CO : Addr} {M : List Addr} {H : Hp} {p n f lN lF : Addr} {aN aF : List Addr} {S : Vabldj.State} (x : SessAt CE CS CO M H p n f lN lF aN aF S) (far : Bool) : StoreAt CE CS H (lN :: lF :: M) (Ac.pick far n f) (Ac.pick far lN lF) (Ac.pick far aN aF) (S.store far) := by
  cases far with
  | false => exact x.near
  | true => exact x.far
/-! ### what the object owns; what a call leaves as it was -/
/-- a list of the caller's, none of the object's, is written -/
theorem SessAt.foreign {CE CS CO : Addr} {M : List Addr} {H H' : Hp} {p n f lN lF : Addr} {aN aF : List Addr} {S : Vabldj.State} {t : Addr} {xs : List V} (x : SessAt CE CS CO M H p n f lN lF aN aF S) (hm : t ∈ M) (ht : H t = some (.lst xs)) (n1 : t ≠ lN) (n2 : t ≠ lF)
    (k : ∀ b o, H b = some o → b ≠ t → H' b = some o) (ht' : ∃ o, H' t = some o) : SessAt CE CS CO M H' p n f lN lF aN aF S := by
  obtain ⟨dx, e⟩ := x.ob
  exact ⟨⟨dx, k _ _ e (ins_lst e ht)⟩, x.near.offL (List.mem_cons_of_mem _ (List.mem_cons_of_mem _ hm)) n1.symm ht k, x.far.offL (List.mem_cons_of_mem _ (List.mem_cons_of_mem _ hm)) n2.symm ht k, x.nf, x.ll, x.dis, tr_of x.tr (none_of_keep k ht')⟩
/-- while the stores are empty any lists of the caller's may be named -/
theorem SessAt.name {CE CS CO : Addr} {M M' : List Addr} {H : Hp} {p n f lN lF : Addr} {aN aF : List Addr} {S : Vabldj.State} (x : SessAt CE CS CO M H p n f lN lF aN aF S) (e1 : S.near.entries = []) (e2 : S.far.entries = []) (tr : ∀ b, b ∈ M' → ∃ o, H b = some o) : SessAt CE CS CO M' H p n f lN lF aN aF S := by
  have h1 := x.near.ents
  have h2 := x.far.ents
  rw [e1] at h1
  rw [e2] at h2
  refine ⟨x.ob, ⟨x.near.ob, x.near.ls, by simp, x.near.nd, ?_⟩, ⟨x.far.ob, x.far.ls, by simp, x.far.nd, ?_⟩, x.nf, x.ll, x.dis, tr⟩
  · rw [e1]
    cases h1
    exact .nil
  · rw [e2]
    cases h2
    exact .nil
def Own (p n f lN lF : Addr) (aN aF : List Addr) (b : Addr) : Prop := b = p ∨ b = n ∨ b = f ∨ b = lN ∨ b = lF ∨ b ∈ aN ∨ b ∈ aF
def Sess (CE CS CO : Addr) (M : List Addr) (H : Hp) (p : Addr) (F : Addr → Prop) (S : Vabldj.State) : Prop := ∃ n f lN lF aN aF, SessAt CE CS CO M H p n f lN lF aN aF S ∧ F = Own p n f lN lF aN aF
structure Ext (F : Addr → Prop) (H : Hp) (F' : Addr → Prop) (H' : Hp) : Prop where
  keep : ∀ b o, H b = some o → ¬ F b → H' b = some o
  own : ∀ b, F' b → F b ∨ H b = none
  new : ∀ b, H' b = none → H b = none
theorem Ext.refl (F : Addr → Prop) (H : Hp) : Ext F H F H := ⟨fun _ _ e _ => e, fun _ h => .inl h, fun _ e => e⟩
theorem Ext.trans {F F' F'' : Addr → Prop} {H H' H'' : Hp} (a : Ext F H F' H') (b : Ext F' H' F'' H'') : Ext F H F'' H'' := by
  refine ⟨fun c o e hc => b.keep c o (a.keep c o e hc) fun z => ?_, fun c hc => ?_, fun c e => a.new c (b.new c e)⟩
  · rcases a.own c z with h | h
    · exact hc h
    · rw [e] at h
      cases h
  · rcases b.own c hc with h | h
    · exact a.own c h
    · exact .inr (a.new c h)
theorem Ext.of_same {F : Addr → Prop} {H H' : Hp} (k : Same H H') : Ext F H F H' := ⟨fun _ _ e _ => k _ _ e, fun _ h => .inl h, fun _ e => k.free e⟩
theorem ext_of {H H' : Hp} {p n f lN lF : Addr} {aN aF aN' aF' : List Addr} (k : ∀ b o, H b = some o → b ≠ p → b ≠ n → b ≠ f → b ≠ lN → b ≠ lF → b ∉ aN → b ∉ aF → H' b = some o) (sN : ∀ a, a ∈ aN' → a ∈ aN ∨ H a = none) (sF : ∀ a, a ∈ aF' → a ∈ aF ∨ H a = none)
    (new : ∀ b, H' b = none → H b = none) : Ext (Own p n f lN lF aN aF) H (Own p n f lN lF aN' aF') H' := by
  refine ⟨fun b o e hb => k b o e (fun z => hb (.inl z)) (fun z => hb (.inr (.inl z))) (fun z => hb (.inr (.inr (.inl z)))) (fun z => hb (.inr (.inr (.inr (.inl z))))) (fun z => hb (.inr (.inr (.inr (.inr (.inl z)))))) (fun z => hb (.inr (.inr (.inr (.inr (.inr (.inl z))))))) fun z => hb (.inr (.inr (.inr (.inr (.inr (.inr z)))))), fun b hb => ?_, new⟩
  rcases hb with h | h | h | h | h | h | h
  · exact .inl (.inl h)
  · exact .inl (.inr (.inl h))
  · exact .inl (.inr (.inr (.inl h)))
  · exact .inl (.inr (.inr (.inr (.inl h))))
  · exact .inl (.inr (.inr (.inr (.inr (.inl h)))))
  · rcases sN b h with h | h
    · exact .inl (.inr (.inr (.inr (.inr (.inr (.inl h))))))
    · exact .inr h
  · rcases sF b h with h | h
    · exact .inl (.inr (.inr (.inr (.inr (.inr (.inr h))))))
    · exact .inr h
/-- what a call answers, and makes of the object -/
def Post (CE CS CO : Addr) (M : List Addr) (H : Hp) (F : Addr → Prop) (p : Addr) (S' : Vabldj.State) (ans : List Int) (Q : VK) : Prop :=
  ∀ (H' : Hp) (F' : Addr → Prop) (r : Addr), Sess CE CS CO M H' p F' S' → Ext F H F' H' → H r = none → H' r = some (.lst (ans.map V.int)) → Q (.ref r) H'
/-- one store and the object have changed -/
theorem ext_store {CE CS CO : Addr} {M : List Addr} {H H' : Hp} {p n f lN lF : Addr} {aN aF as' : List Addr} {S' : Vabldj.State} (far : Bool) (y : SessAt CE CS CO M H' p n f lN lF (pick far as' aN) (pick far aF as') S')
    (k : ∀ b o, H b = some o → b ≠ p → b ≠ pick far n f → b ≠ pick far lN lF → H' b = some o) (sub : ∀ a, a ∈ as' → a ∈ pick far aN aF ∨ H a = none) : Ext (Own p n f lN lF aN aF) H (Own p n f lN lF (pick far as' aN) (pick far aF as')) H' := by
  refine ext_of (fun b o e h1 h2 h3 h4 h5 _ _ => k b o e h1 ?_ ?_) ?_ ?_ fun b e => ?_
  · cases far with
    | false => exact h2
    | true => exact h3
  · cases far with
    | false => exact h4
    | true => exact h5
  · cases far with
    | false => exact sub
    | true => exact fun a ha => .inl ha
  · cases far with
    | false => exact fun a ha => .inl ha
    | true => exact sub
  · obtain ⟨d1, o1⟩ := y.ob
    obtain ⟨d2, o2⟩ := (y.pick far).ob
    have o3 := (y.pick far).ls
    have n1 : b ≠ p := fun z => by rw [z, o1] at e; cases e
    have n2 : b ≠ Ac.pick far n f := fun z => by rw [z, o2] at e; cases e
    have n3 : b ≠ Ac.pick far lN lF := fun z => by rw [z, o3] at e; cases e
    cases q : H b with
    | none => rfl
    | some u => rw [k b u q n1 n2 n3] at e; cases e
/-- a new list is handed back -/
theorem Post.ret {CE CS CO : Addr} {M : List Addr} {H H1 : Hp} {F F1 : Addr → Prop} {p r : Addr} {S' : Vabldj.State} {ans : List Int} {Q : VK} (h : Post CE CS CO M H F p S' ans Q) (x : Sess CE CS CO M H1 p F1 S') (e : Ext F H F1 H1) (hr : H1 r = none) : Q (.ref r) (upd H1 r (.lst (ans.map V.int))) := by
  obtain ⟨n, f, lN, lF, aN, aF, y, rfl⟩ := x
  have s1 : Same H1 (upd H1 r (.lst (ans.map V.int))) := Same.new hr
  exact h _ _ r ⟨n, f, lN, lF, aN, aF, y.same s1, rfl⟩ (e.trans (Ext.of_same s1)) (e.new r hr) upd_same
/-- one store has a new list -/
theorem SessAt.relist {CE CS CO : Addr} {M : List Addr} {H H' : Hp} {p n f lN lF : Addr} {aN aF : List Addr} {S : Vabldj.State} (x : SessAt CE CS CO M H p n f lN lF aN aF S) (eS : CE ≠ CS) (sO : CS ≠ CO) (far : Bool) {l' : Addr} {as' : List Addr} {es' : List Vabldj.Entry}
    (ob' : ∃ dx, H' (Ac.pick far n f) = some (.ins CS dx (sf (S.store far).room l'))) (hl' : H' l' = some (.lst (as'.map V.ref))) (h0 : H l' = none) (sub : as'.Sublist (Ac.pick far aN aF)) (r : Paired (EntR CE H (lN :: lF :: M)) as' es')
    (k : ∀ b o, H b = some o → b ≠ Ac.pick far n f → H' b = some o) :
    SessAt CE CS CO M H' p n f (Ac.pick far l' lN) (Ac.pick far lF l') (Ac.pick far as' aN) (Ac.pick far aF as') (S.withStore far { S.store far with entries := es' }) := by
  obtain ⟨dx, e⟩ := x.ob
  obtain ⟨dn, en⟩ := x.near.ob
  obtain ⟨df, ef'⟩ := x.far.ob
  have nl : ∀ b o, H b = some o → b ≠ l' := fun b o q => ne_of_none q h0
  cases far with
  | false =>
    have kr : ∀ a E, EntR CE H (lN :: lF :: M) a E → EntR CE H' (l' :: lF :: M) a E := fun a E r => by
      obtain ⟨da, fa, q⟩ := r.ins
      refine r.keep (fun o q' => k _ _ q' (ins_ne q en eS)) fun b xs hb q' => ⟨fun z => ?_, k _ _ q' (ins_lst en q').symm⟩
      rcases List.mem_cons.mp z with z | z
      · exact nl _ _ q' z
      · exact hb (List.mem_cons_of_mem _ z)
    refine ⟨⟨dx, k p _ e (ins_ne e en sO.symm)⟩, ⟨ob', hl', List.mem_cons_self, x.near.nd.sublist sub, pd_map r fun a b _ r => kr a b r⟩, ⟨⟨df, k _ _ ef' x.nf.symm⟩, k _ _ x.far.ls (ins_lst en x.far.ls).symm, List.mem_cons_of_mem _ List.mem_cons_self, x.far.nd, pd_map x.far.ents fun a b _ r => kr a b r⟩, x.nf, (nl _ _ x.far.ls).symm, fun a ha hb => x.dis a (sub.subset ha) hb, tr_of x.tr (none_of_keep k (let ⟨_, q⟩ := ob'; ⟨_, q⟩))⟩
  | true =>
    have kr : ∀ a E, EntR CE H (lN :: lF :: M) a E → EntR CE H' (lN :: l' :: M) a E := fun a E r => by
      obtain ⟨da, fa, q⟩ := r.ins
      refine r.keep (fun o q' => k _ _ q' (ins_ne q ef' eS)) fun b xs hb q' => ⟨fun z => ?_, k _ _ q' (ins_lst ef' q').symm⟩
      rcases List.mem_cons.mp z with z | z
      · exact hb (z ▸ List.mem_cons_self)
      · rcases List.mem_cons.mp z with z | z
        · exact nl _ _ q' z
        · exact hb (List.mem_cons_of_mem _ (List.mem_cons_of_mem _ z))
    refine ⟨⟨dx, k p _ e (ins_ne e ef' sO.symm)⟩, ⟨⟨dn, k _ _ en x.nf⟩, k _ _ x.near.ls (ins_lst ef' x.near.ls).symm, List.mem_cons_self, x.near.nd, pd_map x.near.ents fun a b _ r => kr a b r⟩, ⟨ob', hl', List.mem_cons_of_mem _ List.mem_cons_self, x.far.nd.sublist sub, pd_map r fun a b _ r => kr a b r⟩, x.nf, nl _ _ x.near.ls, fun a ha hb => x.dis a ha (sub.subset hb), tr_of x.tr (none_of_keep k (let ⟨_, q⟩ := ob'; ⟨_, q⟩))⟩
theorem ext_relist {H H' : Hp} {p n f lN lF l' : Addr} {aN aF as' : List Addr} (far : Bool) (k : ∀ b o, H b = some o → b ≠ p → b ≠ pick far n f → H' b = some o) (h0 : H l' = none) (sub : as'.Sublist (pick far aN aF)) (hp : ∃ o, H' p = some o) (hs : ∃ o, H' (pick far n f) = some o) :
    Ext (Own p n f lN lF aN aF) H (Own p n f (pick far l' lN) (pick far lF l') (pick far as' aN) (pick far aF as')) H' := by
  refine ⟨fun b o e hb => k b o e (fun z => hb (.inl z)) (fun z => hb ?_), fun b hb => ?_, none_of_keep2 k hp hs⟩
  · cases far with
    | false => exact .inr (.inl z)
    | true => exact .inr (.inr (.inl z))
  · cases far with
    | false =>
      rcases hb with h | h | h | h | h | h | h
      · exact .inl (.inl h)
      · exact .inl (.inr (.inl h))
      · exact .inl (.inr (.inr (.inl h)))
      · exact .inr (by rw [show b = l' from h]; exact h0)
      · exact .inl (.inr (.inr (.inr (.inr (.inl h)))))
      · exact .inl (.inr (.inr (.inr (.inr (.inr (.inl (sub.subset h)))))))
      · exact .inl (.inr (.inr (.inr (.inr (.inr (.inr h))))))
    | true =>
      rcases hb with h | h | h | h | h | h | h
      · exact .inl (.inl h)
      · exact .inl (.inr (.inl h))
      · exact .inl (.inr (.inr (.inl h)))
      · exact .inl (.inr (.inr (.inr (.inl h))))
      · exact .inr (by rw [show b = l' from h]; exact h0)
      · exact .inl (.inr (.inr (.inr (.inr (.inr (.inl h))))))
      · exact .inl (.inr (.inr (.inr (.inr (.inr (.inr (sub.subset h)))))))
end Ac

set_option Elab.async false
set_option linter.all false
set_option maxRecDepth 100000
set_option maxHeartbeats 2000000
namespace Ac
open PySem PySem.Spec PyProof.Rows L2
section
variable {P : Program} {w : World} {K : PySem.W.Frag} {mg : Str → Option Value} {base : Heap} {CE CS CO : Addr} {M : List Addr}
abbrev s_Session_init : Stmt := inClass (top 43) 0
theorem sc_Session_init : FnScope ["self"] ["self"] (defScope s_Session_init) := ⟨rfl, rfl, rfl, by decide +kernel, rfl, by decide +kernel, by decide +kernel⟩
abbrev s_Session_store_of : Stmt := inClass (top 43) 1
theorem sc_Session_store_of : FnScope ["self", "number"] ["self", "number"] (defScope s_Session_store_of) := ⟨rfl, rfl, rfl, by decide +kernel, rfl, by decide +kernel, by decide +kernel⟩
abbrev s_Session_set_room : Stmt := inClass (top 43) 2
theorem sc_Session_set_room : FnScope ["self", "number", "n", "store", "dropped"] ["self", "number", "n"] (defScope s_Session_set_room) := ⟨rfl, rfl, rfl, by decide +kernel, rfl, by decide +kernel, by decide +kernel⟩
abbrev s_Session_set_there : Stmt := inClass (top 43) 3
theorem sc_Session_set_there : FnScope ["self", "b"] ["self", "b"] (defScope s_Session_set_there) := ⟨rfl, rfl, rfl, by decide +kernel, rfl, by decide +kernel, by decide +kernel⟩
abbrev s_Session_set_send : Stmt := inClass (top 43) 4
theorem sc_Session_set_send : FnScope ["self", "b"] ["self", "b"] (defScope s_Session_set_send) := ⟨rfl, rfl, rfl, by decide +kernel, rfl, by decide +kernel, by decide +kernel⟩
abbrev s_Session_set_failing : Stmt := inClass (top 43) 5
theorem sc_Session_set_failing : FnScope ["self", "b"] ["self", "b"] (defScope s_Session_set_failing) := ⟨rfl, rfl, rfl, by decide +kernel, rfl, by decide +kernel, by decide +kernel⟩
abbrev s_Session_counts : Stmt := inClass (top 43) 18
theorem sc_Session_counts : FnScope ["self", "answered", "happened"] ["self"] (defScope s_Session_counts) := ⟨rfl, rfl, rfl, by decide +kernel, rfl, by decide +kernel, by decide +kernel⟩
def sp_Session_init (CE CS CO : Addr) : Sp := fun vs H Q _ => ∃ (p dx : Addr), vs = [.ref p] ∧ H p = some (.ins CO dx []) ∧
  ∀ (H' : Hp) (F' : Addr → Prop), Sess CE CS CO [] H' p F' Vabldj.start → (∀ c u, H c = some u → c ≠ p → H' c = some u) → (∀ b, F' b → b = p ∨ H b = none) → Q .non H'
theorem oF_make (n f : Addr) : putF "spoilt" (.int 0) (putF "dropped" (.int 0) (putF "sent" (.int 0) (putF "from_far" (.int 0) (putF "from_near" (.int 0) (putF "worked" (.int 0) (putF "keeps_failing" (.bl false) (putF "sends" (.bl true) (putF "far_is_there" (.bl true) (putF "far" (.ref f) (putF "near" (.ref n) [])))))))))) = oF n f Vabldj.start := by kernel_rfl
theorem ok_Session_init (T : Txt K mg CE CS CO) (D : DefI K mg CO "Session" "Session.__init__" s_Session_init ["self"]) (i_Store : PromI P w K mg base 1 CS "Store" ["self"] (sp_Store_init CS)) :
    PromI P w K mg base 3 CO "Session" ["self"] (sp_Session_init CE CS CO) := by
  have sc := sc_Session_init
  refine D.prom sc (fun vs H Q E h => ?_) (fun f cdv A outer s H vs Q E hr h => ?_)
  · obtain ⟨p, dx, rfl, _⟩ := h
    rfl
  · obtain ⟨p, dx, rfl, hp, k⟩ := h
    refine ⟨_, (pss_cons (ps_fld (pv 0) (pe_makeP0 i_Store (hr.mono (by decide))) rfl)
      (pss_cons (ps_fld (pv 0) (pe_makeP0 i_Store (hr.mono (by decide))) rfl)
      (pss_cons (ps_fld (pv 0) pe_bl rfl)
      (pss_cons (ps_fld (pv 0) pe_bl rfl)
      (pss_cons (ps_fld (pv 0) pe_bl rfl)
      (pss_cons (ps_fld (pv 0) pe_int rfl)
      (pss_cons (ps_fld (pv 0) pe_int rfl)
      (pss_cons (ps_fld (pv 0) pe_int rfl)
      (pss_cons (ps_fld (pv 0) pe_int rfl)
      (pss_cons (ps_fld (pv 0) pe_int rfl)
      (pss_one (ps_fld (pv 0) pe_int rfl)))))))))))), ?_⟩
    intro n dn hn hdn hnd
    refine ⟨n, dn, rfl, upd_same, fun H1 lN ⟨d1, hob1⟩ hl1 hlf1 kp1 => ⟨rfl, ?_⟩⟩
    have s1 : Same H H1 := Same.made hn hdn kp1
    have p1 := s1 _ _ hp
    have lf1 : H lN = none := by
      have q := hlf1
      by_cases z : lN = n
      · rw [z]; exact hn
      · rw [upd_ne z] at q
        by_cases z2 : lN = dn
        · rw [z2]; exact hdn
        · rw [upd_ne z2] at q
          exact q
    have pn : p ≠ n := ne_of_none hp hn
    have pl : p ≠ lN := ne_of_none hp lf1
    refine ⟨_, rfl, p, CO, dx, _, rfl, p1, T.c_Session, T.o_near, (by show 0 < 1000; decide), ?_⟩
    generalize e2 : upd H1 p (.ins CO dx (putF "near" (.ref n) [])) = H2
    have p2 : H2 p = some (.ins CO dx (putF "near" (.ref n) [])) := by rw [← e2]; exact upd_same
    have k2 : ∀ c u, H1 c = some u → c ≠ p → H2 c = some u := fun c u e hc => by rw [← e2, upd_ne hc]; exact e
    intro f df hf hdf hfd
    refine ⟨f, df, rfl, upd_same, fun H3 lF ⟨d3, hob3⟩ hl3 hlf3 kp3 => ⟨rfl, ?_⟩⟩
    have s3 : Same H2 H3 := Same.made hf hdf kp3
    have p3 := s3 _ _ p2
    have lf3 : H2 lF = none := by
      have q := hlf3
      by_cases z : lF = f
      · rw [z]; exact hf
      · rw [upd_ne z] at q
        by_cases z2 : lF = df
        · rw [z2]; exact hdf
        · rw [upd_ne z2] at q
          exact q
    have n2 := k2 _ _ hob1 pn.symm
    have l2 := k2 _ _ hl1 pl.symm
    have hnf : n ≠ f := ne_of_none n2 hf
    have hll : lN ≠ lF := ne_of_none l2 lf3
    have pf : p ≠ f := ne_of_none p2 hf
    have plF : p ≠ lF := ne_of_none p2 lf3
    have n3 := s3 _ _ n2
    have l3 := s3 _ _ l2
    have fr1 : ∀ c, H2 c = none → H c = none := fun c e => by
      have hc : c ≠ p := fun z => by rw [z, p2] at e; cases e
      cases q : H c with
      | none => rfl
      | some u => rw [k2 c u (s1 _ _ q) hc] at e; cases e
    refine ⟨_, rfl, p, CO, dx, _, rfl, p3, T.c_Session, T.o_far, (by show 1 < 1000; decide), ?_⟩
    refine ⟨_, rfl, p, CO, dx, _, rfl, upd_same, T.c_Session, T.o_far_is_there, (by show 2 < 1000; decide), ?_⟩
    refine ⟨_, rfl, p, CO, dx, _, rfl, upd_same, T.c_Session, T.o_sends, (by show 3 < 1000; decide), ?_⟩
    refine ⟨_, rfl, p, CO, dx, _, rfl, upd_same, T.c_Session, T.o_keeps_failing, (by show 4 < 1000; decide), ?_⟩
    refine ⟨_, rfl, p, CO, dx, _, rfl, upd_same, T.c_Session, T.o_worked, (by show 5 < 1000; decide), ?_⟩
    refine ⟨_, rfl, p, CO, dx, _, rfl, upd_same, T.c_Session, T.o_from_near, (by show 6 < 1000; decide), ?_⟩
    refine ⟨_, rfl, p, CO, dx, _, rfl, upd_same, T.c_Session, T.o_from_far, (by show 7 < 1000; decide), ?_⟩
    refine ⟨_, rfl, p, CO, dx, _, rfl, upd_same, T.c_Session, T.o_sent, (by show 8 < 1000; decide), ?_⟩
    refine ⟨_, rfl, p, CO, dx, _, rfl, upd_same, T.c_Session, T.o_dropped, (by show 9 < 1000; decide), ?_⟩
    refine ⟨_, rfl, p, CO, dx, _, rfl, upd_same, T.c_Session, T.o_spoilt, (by show 10 < 1000; decide), ?_⟩
    rw [oF_make n f]
    generalize e4 : upd _ p (.ins CO dx (oF n f Vabldj.start)) = H4
    have p4 : H4 p = some (.ins CO dx (oF n f Vabldj.start)) := by rw [← e4]; exact upd_same
    have k4 : ∀ c u, H3 c = some u → c ≠ p → H4 c = some u := fun c u e hc => by
      rw [← e4]
      simp only [upd_ne hc]
      exact e
    have n4 := k4 _ _ n3 pn.symm
    have l4 := k4 _ _ l3 pl.symm
    have f4 := k4 _ _ hob3 pf.symm
    have m4 := k4 _ _ hl3 plF.symm
    refine k H4 (Own p n f lN lF [] []) ⟨n, f, lN, lF, [], [], ⟨⟨dx, p4⟩, ⟨⟨d1, n4⟩, l4, by simp, List.nodup_nil, .nil⟩, ⟨⟨d3, f4⟩, m4, by simp, List.nodup_nil, .nil⟩, hnf, hll, (fun a ha => nomatch ha), (fun b hb => nomatch hb)⟩, rfl⟩ (fun c u e hc => k4 c u (s3 _ _ (k2 _ _ (s1 _ _ e) hc)) hc) fun b hb => ?_
    rcases hb with h | h | h | h | h | h | h
    · exact .inl h
    · rw [h]; exact .inr hn
    · rw [h]; exact .inr (fr1 _ hf)
    · rw [h]; exact .inr lf1
    · rw [h]; exact .inr (fr1 _ lf3)
    · cases h
    · cases h
def sp_Session_store_of (CO : Addr) : Sp := fun vs H Q _ => ∃ (p dx n f : Addr) (S : Vabldj.State) (t : Int), vs = [.ref p, .int t] ∧ H p = some (.ins CO dx (oF n f S)) ∧ Q (.ref (if t = 0 then n else f)) H
theorem ok_Session_store_of (T : Txt K mg CE CS CO) (D : DefM K CO "store_of" "Session.store_of" s_Session_store_of ["self", "number"]) : PromM P w K mg base 1 CO "store_of" ["self", "number"] (sp_Session_store_of CO) := by
  have sc := sc_Session_store_of
  refine D.prom sc (fun vs H Q E h => ?_) (fun f cdv A outer s H vs Q E hr h => ?_)
  · obtain ⟨p, dx, n, f, S, t, rfl, _⟩ := h
    rfl
  · obtain ⟨p, dx, n, f, S, t, rfl, ob, q⟩ := h
    refine ⟨_, (pss_one (ps_ret (pe_ifExp (pt_cmpR op_eq (pv 1) pe_int (nomark _)) (pe_fld (pv 0) rfl) (pe_fld (pv 0) rfl)))), ?_⟩
    refine ⟨_, rfl, rfl, _, rfl, ite2 (fun c => ?_) (fun c => ?_)⟩
    · have c' : t = 0 := by simpa using c
      rw [if_pos c'] at q
      exact ⟨_, rfl, p, CO, dx, _, _, rfl, ob, T.c_Session, T.o_near, oF_near _ _ _, q⟩
    · have c' : ¬ t = 0 := by simpa using c
      rw [if_neg c'] at q
      exact ⟨_, rfl, p, CO, dx, _, _, rfl, ob, T.c_Session, T.o_far, oF_far _ _ _, q⟩
def sp_Session_set_there (CE CS CO : Addr) (M : List Addr) : Sp := fun vs H Q _ => ∃ (F : Addr → Prop) (p : Addr) (S : Vabldj.State) (b : Int), vs = [.ref p, .int b] ∧ (b = 0 ∨ b = 1) ∧ Sess CE CS CO M H p F S ∧ Post CE CS CO M H F p (Vabldj.step S (.there b)).1 (VabldjNeutral.encode (Vabldj.step S (.there b)).2) Q
theorem ok_Session_set_there (T : Txt K mg CE CS CO) (D : DefM K CO "set_there" "Session.set_there" s_Session_set_there ["self", "b"]) :
    PromM P w K mg base 1 CO "set_there" ["self", "b"] (sp_Session_set_there CE CS CO M) := by
  have sc := sc_Session_set_there
  refine D.prom sc (fun vs H Q E h => ?_) (fun f cdv A outer s H vs Q E hr h => ?_)
  · obtain ⟨F, p, S, b, rfl, _⟩ := h
    rfl
  · obtain ⟨F, p, S, b, rfl, c', x, k⟩ := h
    refine ⟨_, (pss_cons (ps_fld (pv 0) (pe_cmpR op_eq (pv 1) pe_int (nomark _)) rfl)
      (pss_one (ps_ret (pe_lst (pa_cons pe_int pa_nil))))), ?_⟩
    obtain ⟨n, f, lN, lF, aN, aF, y, rfl⟩ := x
    obtain ⟨dx, ob⟩ := y.ob
    refine ⟨_, rfl, rfl, _, rfl, p, CO, dx, _, rfl, ob, T.c_Session, T.o_far_is_there, (by show 11 < 1000; decide), by show 1 ≤ sizeLine; decide, fun r hr => ?_⟩
    rw [put_there] at hr ⊢
    have es : Vabldj.step S (.there b) = ({ S with there := decide (V.int b = V.int 1) }, Vabldj.told 0 []) := by
      show Vabldj.onTruth S b _ = _
      unfold Vabldj.onTruth Vabldj.truthOf
      rcases c' with rfl | rfl
      · rfl
      · rfl
    rw [es] at k
    have fr : ∀ c u, H c = some u → c ≠ p → (upd H p (.ins CO dx (oF n f { S with there := decide (V.int b = V.int 1) }))) c = some u := fun c u e hc => by rw [upd_ne hc]; exact e
    exact k.ret ⟨n, f, lN, lF, aN, aF, y.put T.eO T.sO fr ⟨dx, upd_same⟩ rfl rfl, rfl⟩ (ext_of (fun c u e hc _ _ _ _ _ _ => fr c u e hc) (fun _ h => .inl h) (fun _ h => .inl h) (none_of_keep fr ⟨_, upd_same⟩)) hr
def sp_Session_set_send (CE CS CO : Addr) (M : List Addr) : Sp := fun vs H Q _ => ∃ (F : Addr → Prop) (p : Addr) (S : Vabldj.State) (b : Int), vs = [.ref p, .int b] ∧ (b = 0 ∨ b = 1) ∧ Sess CE CS CO M H p F S ∧ Post CE CS CO M H F p (Vabldj.step S (.send b)).1 (VabldjNeutral.encode (Vabldj.step S (.send b)).2) Q
theorem ok_Session_set_send (T : Txt K mg CE CS CO) (D : DefM K CO "set_send" "Session.set_send" s_Session_set_send ["self", "b"]) :
    PromM P w K mg base 1 CO "set_send" ["self", "b"] (sp_Session_set_send CE CS CO M) := by
  have sc := sc_Session_set_send
  refine D.prom sc (fun vs H Q E h => ?_) (fun f cdv A outer s H vs Q E hr h => ?_)
  · obtain ⟨F, p, S, b, rfl, _⟩ := h
    rfl
  · obtain ⟨F, p, S, b, rfl, c', x, k⟩ := h
    refine ⟨_, (pss_cons (ps_fld (pv 0) (pe_cmpR op_eq (pv 1) pe_int (nomark _)) rfl)
      (pss_one (ps_ret (pe_lst (pa_cons pe_int pa_nil))))), ?_⟩
    obtain ⟨n, f, lN, lF, aN, aF, y, rfl⟩ := x
    obtain ⟨dx, ob⟩ := y.ob
    refine ⟨_, rfl, rfl, _, rfl, p, CO, dx, _, rfl, ob, T.c_Session, T.o_sends, (by show 11 < 1000; decide), by show 1 ≤ sizeLine; decide, fun r hr => ?_⟩
    rw [put_sends] at hr ⊢
    have es : Vabldj.step S (.send b) = ({ S with sends := decide (V.int b = V.int 1) }, Vabldj.told 0 []) := by
      show Vabldj.onTruth S b _ = _
      unfold Vabldj.onTruth Vabldj.truthOf
      rcases c' with rfl | rfl
      · rfl
      · rfl
    rw [es] at k
    have fr : ∀ c u, H c = some u → c ≠ p → (upd H p (.ins CO dx (oF n f { S with sends := decide (V.int b = V.int 1) }))) c = some u := fun c u e hc => by rw [upd_ne hc]; exact e
    exact k.ret ⟨n, f, lN, lF, aN, aF, y.put T.eO T.sO fr ⟨dx, upd_same⟩ rfl rfl, rfl⟩ (ext_of (fun c u e hc _ _ _ _ _ _ => fr c u e hc) (fun _ h => .inl h) (fun _ h => .inl h) (none_of_keep fr ⟨_, upd_same⟩)) hr
def sp_Session_set_failing (CE CS CO : Addr) (M : List Addr) : Sp := fun vs H Q _ => ∃ (F : Addr → Prop) (p : Addr) (S : Vabldj.State) (b : Int), vs = [.ref p, .int b] ∧ (b = 0 ∨ b = 1) ∧ Sess CE CS CO M H p F S ∧ Post CE CS CO M H F p (Vabldj.step S (.failing b)).1 (VabldjNeutral.encode (Vabldj.step S (.failing b)).2) Q
theorem ok_Session_set_failing (T : Txt K mg CE CS CO) (D : DefM K CO "set_failing" "Session.set_failing" s_Session_set_failing ["self", "b"]) :
    PromM P w K mg base 1 CO "set_failing" ["self", "b"] (sp_Session_set_failing CE CS CO M) := by
  have sc := sc_Session_set_failing
  refine D.prom sc (fun vs H Q E h => ?_) (fun f cdv A outer s H vs Q E hr h => ?_)
  · obtain ⟨F, p, S, b, rfl, _⟩ := h
    rfl
  · obtain ⟨F, p, S, b, rfl, c', x, k⟩ := h
    refine ⟨_, (pss_cons (ps_fld (pv 0) (pe_cmpR op_eq (pv 1) pe_int (nomark _)) rfl)
      (pss_one (ps_ret (pe_lst (pa_cons pe_int pa_nil))))), ?_⟩
    obtain ⟨n, f, lN, lF, aN, aF, y, rfl⟩ := x
    obtain ⟨dx, ob⟩ := y.ob
    refine ⟨_, rfl, rfl, _, rfl, p, CO, dx, _, rfl, ob, T.c_Session, T.o_keeps_failing, (by show 11 < 1000; decide), by show 1 ≤ sizeLine; decide, fun r hr => ?_⟩
    rw [put_failing] at hr ⊢
    have es : Vabldj.step S (.failing b) = ({ S with failing := decide (V.int b = V.int 1) }, Vabldj.told 0 []) := by
      show Vabldj.onTruth S b _ = _
      unfold Vabldj.onTruth Vabldj.truthOf
      rcases c' with rfl | rfl
      · rfl
      · rfl
    rw [es] at k
    have fr : ∀ c u, H c = some u → c ≠ p → (upd H p (.ins CO dx (oF n f { S with failing := decide (V.int b = V.int 1) }))) c = some u := fun c u e hc => by rw [upd_ne hc]; exact e
    exact k.ret ⟨n, f, lN, lF, aN, aF, y.put T.eO T.sO fr ⟨dx, upd_same⟩ rfl rfl, rfl⟩ (ext_of (fun c u e hc _ _ _ _ _ _ => fr c u e hc) (fun _ h => .inl h) (fun _ h => .inl h) (none_of_keep fr ⟨_, upd_same⟩)) hr
/-- the stores are of no great length -/
def Bd (S : Vabldj.State) : Prop := S.near.entries.length ≤ 1500 ∧ S.far.entries.length ≤ 1500
theorem Bd.store {S : Vabldj.State} (h : Bd S) (far : Bool) : (S.store far).entries.length ≤ 1500 := by
  cases far with
  | false => exact h.1
  | true => exact h.2
theorem pick_of {t : Int} {n f : Addr} (c : t = 0 ∨ t = 1) : (if t = 0 then n else f) = pick (decide (t = 1)) n f := by
  rcases c with rfl | rfl
  · rfl
  · rfl
theorem storeOf_of {t : Int} (c : t = 0 ∨ t = 1) : Vabldj.storeOf t = .ok (decide (t = 1)) := by
  rcases c with rfl | rfl
  · rfl
  · rfl
theorem storeOf_no {t : Int} (c : ¬ (t = 0 ∨ t = 1)) : Vabldj.storeOf t = .error Vabldj.STORE := by
  unfold Vabldj.storeOf
  rw [if_neg (fun z => c (.inl z)), if_neg (fun z => c (.inr z))]
theorem add_nat (a b : Nat) : ((a : Int) + (b : Int)) = ((a + b : Nat) : Int) := by omega
def sp_Session_set_room (CE CS CO : Addr) (M : List Addr) : Sp := fun vs H Q _ => ∃ (F : Addr → Prop) (p : Addr) (S : Vabldj.State) (k m : Int), vs = [.ref p, .int k, .int m] ∧ (k = 0 ∨ k = 1) ∧ Sess CE CS CO M H p F S ∧ Bd S ∧ Post CE CS CO M H F p (Vabldj.step S (.room k m)).1 (VabldjNeutral.encode (Vabldj.step S (.room k m)).2) Q
theorem ok_Session_set_room (T : Txt K mg CE CS CO) (D : DefM K CO "set_room" "Session.set_room" s_Session_set_room ["self", "number", "n"])
    (m_Session_store_of : PromM P w K mg base 1 CO "store_of" ["self", "number"] (sp_Session_store_of CO)) (m_Store_drop_over_room : PromM P w K mg base 3 CS "drop_over_room" ["self"] (sp_Store_drop CE CS)) :
    PromM P w K mg base 4 CO "set_room" ["self", "number", "n"] (sp_Session_set_room CE CS CO M) := by
  have sc := sc_Session_set_room
  refine D.prom sc (fun vs H Q E h => ?_) (fun f cdv A outer s H vs Q E hr h => ?_)
  · obtain ⟨F, p, S, k, m, rfl, _⟩ := h
    rfl
  · obtain ⟨F, p, S, t, m, rfl, c', x, bd, k⟩ := h
    refine ⟨_, (pss_cons (ps_if (PW.pt (pw_or (pt_cmpR op_lt (pv 2) pe_int (nomark _)) (pw_or1 (pt_cmpR op_gt (pv 2) (pe_gi T.g_MOST_ROOM) (nomark _))))) (pss_one (ps_ret (pe_lst (pa_cons (pe_gi T.g_LIMIT) pa_nil)))) pss_nil)
      (pss_cons (ps_set (i := 3) sc.nd rfl (Or.inl rfl) (pe_methP m_Session_store_of T.c_Session (hr.mono (by decide)) (pv 0) (pa_cons (pv 1) pa_nil)))
      (pss_cons (ps_fld (pv 3) (pv 2) rfl)
      (pss_cons (ps_set (i := 4) sc.nd rfl (Or.inl rfl) (pe_methP0 m_Store_drop_over_room T.c_Store (hr.mono (by decide)) (pv 3)))
      (pss_cons (ps_fldaug (pv 0) (pv 4) in_add)
      (pss_one (ps_ret (pe_lst (pa_cons (pv 4) pa_nil))))))))), ?_⟩
    have es : Vabldj.step S (.room t m) = Vabldj.setRoom S m (decide (t = 1)) := by
      show Vabldj.onStore S t _ = _
      unfold Vabldj.onStore
      rw [storeOf_of c']
    rw [es] at k
    have lim : (m < 0 ∨ 1024 < m) → ∀ r, H r = none → Q (.ref r) (upd H r (.lst [V.int (-1)])) := fun z r hr => by
      have e2 : Vabldj.setRoom S m (decide (t = 1)) = (S, Vabldj.no Vabldj.LIMIT) := by
        unfold Vabldj.setRoom
        rw [if_pos z]
      rw [e2] at k
      exact k.ret x (Ext.refl F H) hr
    refine ⟨_, rfl, _, _, rfl, rfl, _, rfl, ite2 (fun d1 => ?_) (fun d1 => ⟨_, rfl, _, _, rfl, rfl, _, rfl, ?_⟩)⟩
    · exact iteT ⟨by show 1 ≤ sizeLine; decide, lim (.inl (by simpa using d1))⟩
    have d1' : ¬ m < 0 := by simpa using d1
    refine ite2 (fun d2 => ⟨by show 1 ≤ sizeLine; decide, lim (.inr (by simpa using d2))⟩) (fun d2 => ?_)
    have d2' : ¬ 1024 < m := by simpa using d2
    obtain ⟨n, f, lN, lF, aN, aF, y, rfl⟩ := x
    obtain ⟨dx, ob⟩ := y.ob
    refine ⟨_, rfl, p, dx, _, rfl, ob, oF_no _ _ _ _ (by decide +kernel), _, rfl, p, dx, n, f, S, t, rfl, ob, ?_⟩
    rw [pick_of c']
    generalize decide (t = 1) = far at k ⊢
    obtain ⟨j, rfl⟩ : ∃ j : Nat, m = (j : Int) := ⟨m.toNat, by omega⟩
    have e2 : Vabldj.setRoom S (j : Int) far = ({ S.withStore far { room := j, entries := Vabldj.fitting j (S.store far).entries } with dropped := S.dropped + ((S.store far).entries.length - (Vabldj.fitting j (S.store far).entries).length) }, Vabldj.told ((S.store far).entries.length - (Vabldj.fitting j (S.store far).entries).length) []) := by
      unfold Vabldj.setRoom
      rw [if_neg (by omega)]
      rfl
    rw [e2] at k
    have st := y.pick far
    obtain ⟨ds, eo⟩ := st.ob
    refine ⟨_, rfl, _, rfl, pick far n f, CS, ds, _, rfl, eo, T.c_Store, T.s_room, (by show 2 < 1000; decide), ?_⟩
    rw [sf_put_room]
    have fr1 : ∀ b o, H b = some o → b ≠ pick far n f → (upd H (pick far n f) (.ins CS ds (sf (j : Int) (pick far lN lF)))) b = some o := fun b o e hb => by rw [upd_ne hb]; exact e
    generalize e3 : upd H (pick far n f) (.ins CS ds (sf (j : Int) (pick far lN lF))) = H1 at fr1 ⊢
    have o1 : H1 (pick far n f) = some (.ins CS ds (sf (j : Int) (pick far lN lF))) := by rw [← e3]; exact upd_same
    have st1 : StoreAt CE CS H1 (lN :: lF :: M) (pick far n f) (pick far lN lF) (pick far aN aF) { S.store far with room := j } := st.room T.eS fr1 ⟨ds, o1⟩
    refine ⟨_, rfl, pick far n f, ds, _, rfl, o1, sf_drop _ _, (lN :: lF :: M), _, _, _, _, rfl, st1, Nat.le_trans (bd.store far) (by decide), fun H2 st2 fr2 => ?_⟩
    have fr : ∀ b o, H b = some o → b ≠ pick far n f → b ≠ pick far lN lF → H2 b = some o := fun b o e h1 h2 => fr2 b o (fr1 b o e h1) h2
    have y2 := y.store2 T.eS T.sO far st2 fr fun a ha => .inl (List.mem_of_mem_take ha)
    obtain ⟨dy, ob2⟩ := y2.ob
    refine ⟨_, rfl, p, CO, dy, _, _, rfl, ob2, T.c_Session, T.o_dropped, oF_dropped _ _ _, _, rfl, _, _, rfl, rfl, dy, _, ob2, (by show 11 < 1000; decide), ?_⟩
    rw [add_nat, put_dropped]
    refine ⟨_, rfl, by show 1 ≤ sizeLine; decide, fun r hr => ?_⟩
    have fr3 : ∀ c u, H2 c = some u → c ≠ p → (upd H2 p (.ins CO dy (oF n f { S.withStore far { room := j, entries := Vabldj.fitting j (S.store far).entries } with dropped := (S.withStore far { room := j, entries := Vabldj.fitting j (S.store far).entries }).dropped + ((S.store far).entries.length - (Vabldj.fitting j (S.store far).entries).length) }))) c = some u := fun c u e hc => by rw [upd_ne hc]; exact e
    have y3 := y2.put (S' := { S.withStore far { room := j, entries := Vabldj.fitting j (S.store far).entries } with dropped := (S.withStore far { room := j, entries := Vabldj.fitting j (S.store far).entries }).dropped + ((S.store far).entries.length - (Vabldj.fitting j (S.store far).entries).length) }) T.eO T.sO fr3 ⟨dy, upd_same⟩ rfl rfl
    have ed : (S.withStore far { room := j, entries := Vabldj.fitting j (S.store far).entries }).dropped = S.dropped := by cases far <;> rfl
    rw [ed] at y3 fr3 hr ⊢
    exact k.ret ⟨n, f, lN, lF, _, _, y3, rfl⟩ (ext_store far y3 (fun b o e h1 h2 h3 => fr3 b o (fr b o e h2 h3) h1) fun a ha => .inl (List.mem_of_mem_take ha)) hr
theorem vI_ints (l : List Nat) : vI l = (l.map Vabldj.num).map V.int := rfl
def sp_Session_counts (CE CS CO : Addr) (M : List Addr) : Sp := fun vs H Q _ => ∃ (F : Addr → Prop) (p : Addr) (S : Vabldj.State), vs = [.ref p] ∧ Sess CE CS CO M H p F S ∧ Bd S ∧ Post CE CS CO M H F p (Vabldj.step S .counts).1 (VabldjNeutral.encode (Vabldj.step S .counts).2) Q
theorem ok_Session_counts (T : Txt K mg CE CS CO) (D : DefM K CO "counts" "Session.counts" s_Session_counts ["self"]) (m_Store_load : PromM P w K mg base 2 CS "load" ["self"] (sp_Store_load CE CS)) :
    PromM P w K mg base 3 CO "counts" ["self"] (sp_Session_counts CE CS CO M) := by
  have sc := sc_Session_counts
  refine D.prom sc (fun vs H Q E h => ?_) (fun f cdv A outer s H vs Q E hr h => ?_)
  · obtain ⟨F, p, S, rfl, _⟩ := h
    rfl
  · obtain ⟨F, p, S, rfl, x, bd, k⟩ := h
    refine ⟨_, (pss_cons (ps_set (i := 1) sc.nd rfl (Or.inl rfl) (pe_lst (pa_cons (pe_fld (pv 0) rfl) (pa_cons (pe_fld (pv 0) rfl) (pa_cons (pe_fld (pv 0) rfl) pa_nil)))))
      (pss_cons (ps_set (i := 2) sc.nd rfl (Or.inl rfl) (pe_lst (pa_cons (pe_fld (pv 0) rfl) (pa_cons (pe_fld (pv 0) rfl) (pa_cons (pe_fld (pv 0) rfl) pa_nil)))))
      (pss_one (ps_ret (pe_op op_cat (pe_op op_cat (pe_op op_cat (pe_lst (pa_cons pe_int pa_nil)) (pv 1)) (pv 2)) (pe_lst (pa_cons (pe_methP0 m_Store_load T.c_Store (hr.mono (by decide)) (pe_fld (pv 0) rfl)) pa_nil))))))), ?_⟩
    obtain ⟨n, f, lN, lF, aN, aF, y, rfl⟩ := x
    obtain ⟨dx, ob⟩ := y.ob
    refine ⟨_, rfl, p, CO, dx, _, _, rfl, ob, T.c_Session, T.o_worked, oF_worked _ _ _, _, rfl, p, CO, dx, _, _, rfl, ob, T.c_Session, T.o_from_near, oF_from_near _ _ _, _, rfl, p, CO, dx, _, _, rfl, ob, T.c_Session, T.o_from_far, oF_from_far _ _ _, by show 3 ≤ sizeLine; decide, fun l1 h1 => ?_⟩
    have s1 : Same H (upd H l1 (.lst [.int (S.worked : Int), .int (S.fromNear : Int), .int (S.fromFar : Int)])) := Same.new h1
    generalize e1 : upd H l1 (.lst [.int (S.worked : Int), .int (S.fromNear : Int), .int (S.fromFar : Int)]) = H1 at s1
    have q1 : H1 l1 = some (.lst [.int (S.worked : Int), .int (S.fromNear : Int), .int (S.fromFar : Int)]) := by rw [← e1]; exact upd_same
    have ob1 := s1 _ _ ob
    refine ⟨_, rfl, p, CO, dx, _, _, rfl, ob1, T.c_Session, T.o_sent, oF_sent _ _ _, _, rfl, p, CO, dx, _, _, rfl, ob1, T.c_Session, T.o_dropped, oF_dropped _ _ _, _, rfl, p, CO, dx, _, _, rfl, ob1, T.c_Session, T.o_spoilt, oF_spoilt _ _ _, by show 3 ≤ sizeLine; decide, fun l2 h2 => ?_⟩
    have s2 : Same H1 (upd H1 l2 (.lst [.int (S.sent : Int), .int (S.dropped : Int), .int (S.spoilt : Int)])) := Same.new h2
    generalize e2 : upd H1 l2 (.lst [.int (S.sent : Int), .int (S.dropped : Int), .int (S.spoilt : Int)]) = H2 at s2
    have q2 : H2 l2 = some (.lst [.int (S.sent : Int), .int (S.dropped : Int), .int (S.spoilt : Int)]) := by rw [← e2]; exact upd_same
    refine ⟨by show 1 ≤ sizeLine; decide, fun l3 h3 => ⟨_, rfl, ?_⟩⟩
    have s3 : Same H2 (upd H2 l3 (.lst [.int 0])) := Same.new h3
    generalize e3 : upd H2 l3 (.lst [V.int 0]) = H3 at s3 ⊢
    have q3 : H3 l3 = some (.lst [.int 0]) := by rw [← e3]; exact upd_same
    refine ⟨l3, l1, _, _, rfl, rfl, q3, s3 _ _ (s2 _ _ q1), by show 4 ≤ sizeLine; decide, fun l4 h4 => ⟨_, rfl, ?_⟩⟩
    have s4 : Same H3 (upd H3 l4 (.lst ([.int 0] ++ [.int (S.worked : Int), .int (S.fromNear : Int), .int (S.fromFar : Int)]))) := Same.new h4
    generalize e4 : upd H3 l4 (.lst ([V.int 0] ++ [.int (S.worked : Int), .int (S.fromNear : Int), .int (S.fromFar : Int)])) = H4 at s4 ⊢
    have q4 : H4 l4 = some (.lst ([.int 0] ++ [.int (S.worked : Int), .int (S.fromNear : Int), .int (S.fromFar : Int)])) := by rw [← e4]; exact upd_same
    refine ⟨l4, l2, _, _, rfl, rfl, q4, s4 _ _ (s3 _ _ q2), by show 7 ≤ sizeLine; decide, fun l5 h5 => ?_⟩
    have s5 : Same H4 (upd H4 l5 (.lst (([.int 0] ++ [.int (S.worked : Int), .int (S.fromNear : Int), .int (S.fromFar : Int)]) ++ [.int (S.sent : Int), .int (S.dropped : Int), .int (S.spoilt : Int)]))) := Same.new h5
    generalize e5 : upd H4 l5 (.lst (([V.int 0] ++ [.int (S.worked : Int), .int (S.fromNear : Int), .int (S.fromFar : Int)]) ++ [.int (S.sent : Int), .int (S.dropped : Int), .int (S.spoilt : Int)])) = H5 at s5 ⊢
    have q5 : H5 l5 = some (.lst (([.int 0] ++ [.int (S.worked : Int), .int (S.fromNear : Int), .int (S.fromFar : Int)]) ++ [.int (S.sent : Int), .int (S.dropped : Int), .int (S.spoilt : Int)])) := by rw [← e5]; exact upd_same
    have s15 : Same H H5 := (((s1.trans s2).trans s3).trans s4).trans s5
    have y5 := y.same s15
    obtain ⟨d5, ob5⟩ := y5.ob
    obtain ⟨dn, en⟩ := y5.near.ob
    refine ⟨_, rfl, p, CO, d5, _, _, rfl, ob5, T.c_Session, T.o_near, oF_near _ _ _, n, dn, _, rfl, en, sf_load _ _, (lN :: lF :: M), n, lN, aN, S.near, rfl, y5.near, Nat.le_trans bd.1 (by decide), fun H6 s6 => ?_⟩
    refine ⟨by show 1 ≤ sizeLine; decide, fun l7 h7 => ?_⟩
    have s7 : Same H6 (upd H6 l7 (.lst [.int (Vabldj.load S.near.entries : Nat)])) := Same.new h7
    generalize e7 : upd H6 l7 (.lst [V.int (Vabldj.load S.near.entries : Nat)]) = H7 at s7 ⊢
    have q7 : H7 l7 = some (.lst [.int (Vabldj.load S.near.entries : Nat)]) := by rw [← e7]; exact upd_same
    refine ⟨l5, l7, _, _, rfl, rfl, s7 _ _ (s6 _ _ q5), q7, by show 8 ≤ sizeLine; decide, fun r hr => ?_⟩
    have s17 : Same H H7 := (s15.trans s6).trans s7
    exact k.ret ⟨n, f, lN, lF, aN, aF, y.same s17, rfl⟩ (Ext.of_same s17) hr
end
end Ac

set_option Elab.async false
set_option linter.all false
set_option maxRecDepth 100000
set_option maxHeartbeats 2000000
namespace Ac
open PySem PySem.Spec PyProof.Rows L2
section
variable {P : Program} {w : World} {K : PySem.W.Frag} {mg : Str → Option Value} {base : Heap} {CE CS CO : Addr} {M : List Addr}
abbrev s_Session_keep_in : Stmt := inClass (top 43) 11
theorem sc_Session_keep_in : FnScope ["self", "store", "tool", "given", "status", "output"] ["self", "store", "tool", "given", "status", "output"] (defScope s_Session_keep_in) := ⟨rfl, rfl, rfl, by decide +kernel, rfl, by decide +kernel, by decide +kernel⟩
abbrev s_Session_whole_place : Stmt := inClass (top 43) 7
theorem sc_Session_whole_place : FnScope ["self", "store", "tool", "given", "place"] ["self", "store", "tool", "given"] (defScope s_Session_whole_place) := ⟨rfl, rfl, rfl, by decide +kernel, rfl, by decide +kernel, by decide +kernel⟩
abbrev s_Session_answer_from_near : Stmt := inClass (top 43) 8
theorem sc_Session_answer_from_near : FnScope ["self", "place", "entry"] ["self", "place"] (defScope s_Session_answer_from_near) := ⟨rfl, rfl, rfl, by decide +kernel, rfl, by decide +kernel, by decide +kernel⟩
abbrev s_Session_answer_from_far : Stmt := inClass (top 43) 9
theorem sc_Session_answer_from_far : FnScope ["self", "place", "entry"] ["self", "place"] (defScope s_Session_answer_from_far) := ⟨rfl, rfl, rfl, by decide +kernel, rfl, by decide +kernel, by decide +kernel⟩
abbrev s_Session_work : Stmt := inClass (top 43) 10
theorem sc_Session_work : FnScope ["self", "tool", "given", "worked_out", "status", "output"] ["self", "tool", "given"] (defScope s_Session_work) := ⟨rfl, rfl, rfl, by decide +kernel, rfl, by decide +kernel, by decide +kernel⟩
def keepAt (far : Bool) (S : Vabldj.State) (E : Vabldj.Entry) : Vabldj.State := { S.withStore far (Vabldj.keep (S.store far) E).1 with dropped := S.dropped + (Vabldj.keep (S.store far) E).2 }
def mkE (t : Nat) (l : List Nat) (st : Nat) (out : List Nat) : Vabldj.Entry := { tool := t, input := l, status := st, length := out.length, bytes := out }
def sp_keep_in (K : PySem.W.Frag) (CE CS CO : Addr) (M : List Addr) : Sp := fun vs H Q _ => ∃ (p n f lN lF : Addr) (aN aF : List Addr) (S : Vabldj.State) (far : Bool) (t : Nat) (a : Addr) (l : List Nat) (st : Nat) (o : Addr) (out : List Nat), vs = [.ref p, .ref (pick far n f), .int t, .ref a, .int st, .ref o] ∧
  SessAt CE CS CO M H p n f lN lF aN aF S ∧ (S.store far).entries.length ≤ 2000 ∧ SqL K H a (vI l) ∧ SqL K H o (vI out) ∧ l.length ≤ 64 ∧ out.length ≤ 128 ∧
  ∀ H' as', SessAt CE CS CO M H' p n f lN lF (pick far as' aN) (pick far aF as') (keepAt far S (mkE t l st out)) → (∀ a, a ∈ as' → a ∈ pick far aN aF ∨ H a = none) → (∀ b u, H b = some u → b ≠ p → b ≠ pick far lN lF → H' b = some u) → Q .non H'
theorem wd (S : Vabldj.State) (far : Bool) (T : Vabldj.Store) : (S.withStore far T).dropped = S.dropped := by cases far <;> rfl
theorem ws (S : Vabldj.State) (far : Bool) (T : Vabldj.Store) : (S.withStore far T).spoilt = S.spoilt := by cases far <;> rfl
theorem ok_keep_in (T : Txt K mg CE CS CO) (D : DefM K CO "keep_in" "Session.keep_in" s_Session_keep_in ["self", "store", "tool", "given", "status", "output"]) (m_Store_keep : PromM P w K mg base 4 CS "keep" ["self", "entry"] (sp_Store_keep CE CS))
    (i_Entry : PromI P w K mg base 1 CE "Entry" ["self", "tool", "given", "status", "output"] (sp_Entry_init K CE)) : PromM P w K mg base 5 CO "keep_in" ["self", "store", "tool", "given", "status", "output"] (sp_keep_in K CE CS CO M) := by
  have sc := sc_Session_keep_in
  refine D.prom sc (fun vs H Q E h => ?_) (fun f cdv A outer s H vs Q E hr h => ?_)
  · obtain ⟨p, n, f, lN, lF, aN, aF, S, far, t, a, l, st, o, out, rfl, _⟩ := h
    rfl
  · obtain ⟨p, n, f, lN, lF, aN, aF, S, far, t, a, l, st, o, out, rfl, y, hlen, ha, ho, hl, hout, k⟩ := h
    refine ⟨_, (pss_one (ps_fldaug (pv 0) (pe_methP m_Store_keep T.c_Store (hr.mono (by decide)) (pv 1) (pa_cons (pe_makeP i_Entry (hr.mono (by decide)) (pa_cons (pv 2) (pa_cons (pv 3) (pa_cons (pv 4) (pa_cons (pv 5) pa_nil))))) pa_nil)) in_add)), ?_⟩
    obtain ⟨dx, ob⟩ := y.ob
    obtain ⟨ds, eo⟩ := (y.pick far).ob
    refine ⟨_, rfl, p, CO, dx, _, _, rfl, ob, T.c_Session, T.o_dropped, oF_dropped _ _ _, _, rfl, pick far n f, ds, _, rfl, eo, sf_keep _ _, _, rfl, _, rfl, _, rfl, _, rfl, fun e de he hde hed => ?_⟩
    have s0 : Same H (upd (upd H de (.own e)) e (.ins CE de [])) := fun b u q => by
      rw [upd_ne (ne_of_none q he), upd_ne (ne_of_none q hde)]
      exact q
    refine ⟨e, de, t, a, l, st, o, out, rfl, upd_same, s0.seq ha, s0.seq ho, hl, hout, fun H1 g h at1 hg hh kp => ⟨rfl, ?_⟩⟩
    have s1 : Same H H1 := Same.made he hde kp
    have y1 := y.same s1
    have nN : e ∉ aN := fun z => by
      obtain ⟨d1, f1, q⟩ := y.near.isIns z
      rw [he] at q
      cases q
    have nF : e ∉ aF := fun z => by
      obtain ⟨d1, f1, q⟩ := y.far.isIns z
      rw [he] at q
      cases q
    have nP : e ∉ pick far aN aF := by cases far with
      | false => exact nN
      | true => exact nF
    have inL : ∀ b, b ∈ (lN :: lF :: M) → ∃ u, H b = some u := fun b hb => by
      rcases List.mem_cons.mp hb with z | z
      · rw [z]; exact ⟨_, y.near.ls⟩
      · rcases List.mem_cons.mp z with z | z
        · rw [z]; exact ⟨_, y.far.ls⟩
        · exact y.tr b z
    have offL : ∀ b, (upd (upd H de (.own e)) e (.ins CE de [])) b = none → b ∉ (lN :: lF :: M) := fun b hb z => by
      obtain ⟨u, q⟩ := inL b z
      rw [s0 _ _ q] at hb
      cases hb
    refine ⟨(lN :: lF :: M), _, _, _, S.store far, e, mkE t l st out, rfl, y1.pick far, ⟨⟨hl, hout, Nat.le_refl _⟩, g, h, at1, offL g hg, offL h hh⟩, nP, hlen, fun H2 as' st2 sub fr => ?_⟩
    have y2 := y1.store far st2 fr fun b hb => (sub b hb).elim (fun z => .inr (.inr ⟨z ▸ nN, z ▸ nF⟩)) .inl
    obtain ⟨d2, ob2⟩ := y2.ob
    refine ⟨_, _, rfl, rfl, d2, _, ob2, (by show 11 < 1000; decide), ?_⟩
    rw [add_nat, put_dropped]
    have fr3 : ∀ c u, H2 c = some u → c ≠ p → (upd H2 p (.ins CO d2 (oF n f { S.withStore far (Vabldj.keep (S.store far) (mkE t l st out)).1 with dropped := S.dropped + (Vabldj.keep (S.store far) (mkE t l st out)).2 }))) c = some u := fun c u q hc => by rw [upd_ne hc]; exact q
    have y3 := y2.put (S' := keepAt far S (mkE t l st out)) T.eO T.sO fr3 ⟨d2, upd_same⟩ rfl rfl
    exact k _ as' y3 (fun b hb => (sub b hb).elim (fun z => .inr (z ▸ he)) .inl) fun b u q h1 h2 => fr3 b u (fr b u (s1 _ _ q) h2) h1
/-- the entry looked for: where, if it is whole; taken out, if it is cut -/
def wpS (far : Bool) (S : Vabldj.State) (t : Nat) (i : List Nat) : Vabldj.State × Int := match Vabldj.find (S.store far) t i with
  | none => (S, -1)
  | some e => if e.whole then (S, placeI (S.store far).entries t i) else ({ S.withStore far (Vabldj.without (S.store far) t i) with spoilt := S.spoilt + 1 }, -1)
def sp_whole_place (K : PySem.W.Frag) (CE CS CO : Addr) (M : List Addr) : Sp := fun vs H Q _ => ∃ (p n f lN lF : Addr) (aN aF : List Addr) (S : Vabldj.State) (far : Bool) (t : Nat) (a : Addr) (i : List Nat), vs = [.ref p, .ref (pick far n f), .int t, .ref a] ∧
  SessAt CE CS CO M H p n f lN lF aN aF S ∧ (S.store far).entries.length ≤ 2000 ∧ Keys (S.store far).entries ∧ SqL K H a (vI i) ∧
  ∀ H' as', SessAt CE CS CO M H' p n f lN lF (pick far as' aN) (pick far aF as') (wpS far S t i).1 → (∀ a, a ∈ as' → a ∈ pick far aN aF) → (∀ b u, H b = some u → b ≠ p → b ≠ pick far lN lF → H' b = some u) → Q (.int (wpS far S t i).2) H'
theorem pick_same {α : Type} (far : Bool) (x y : α) : pick far (pick far x y) x = x := by cases far <;> rfl
theorem pick_same2 {α : Type} (far : Bool) (x y : α) : pick far y (pick far x y) = y := by cases far <;> rfl
theorem ok_whole_place (T : Txt K mg CE CS CO) (D : DefM K CO "whole_place" "Session.whole_place" s_Session_whole_place ["self", "store", "tool", "given"]) (m_Store_place_of : PromM P w K mg base 2 CS "place_of" ["self", "tool", "given"] (sp_Store_place_of K CE CS))
    (m_Entry_is_whole : PromM P w K mg base 1 CE "is_whole" ["self"] (sp_Entry_is_whole CE)) (m_Store_take_out : PromM P w K mg base 1 CS "take_out" ["self", "place"] (sp_Store_take_out CE CS)) :
    PromM P w K mg base 3 CO "whole_place" ["self", "store", "tool", "given"] (sp_whole_place K CE CS CO M) := by
  have sc := sc_Session_whole_place
  refine D.prom sc (fun vs H Q E h => ?_) (fun f cdv A outer s H vs Q E hr h => ?_)
  · obtain ⟨p, n, f, lN, lF, aN, aF, S, far, t, a, i, rfl, _⟩ := h
    rfl
  · obtain ⟨p, n, f, lN, lF, aN, aF, S, far, t, a, i, rfl, y, hlen, keys, ha, k⟩ := h
    refine ⟨_, (pss_cons (ps_set (i := 4) sc.nd rfl (Or.inl rfl) (pe_methP m_Store_place_of T.c_Store (hr.mono (by decide)) (pv 1) (pa_cons (pv 2) (pa_cons (pv 3) pa_nil))))
      (pss_cons (ps_if (PW.pt (pw_or (pt_cmpR op_eq (pv 4) (pe_gi T.g_NOWHERE) (nomark _)) (pw_or1 (pt_val (pe_methP0 m_Entry_is_whole T.c_Entry (hr.mono (by decide)) (pe_ix ix_list (pe_fld (pv 1) rfl) (pv 4) (fun _ _ => rfl))))))) (pss_one (ps_ret (pv 4))) pss_nil)
      (pss_cons (ps_expr (pe_methP m_Store_take_out T.c_Store (hr.mono (by decide)) (pv 1) (pa_cons (pv 4) pa_nil)))
      (pss_cons (ps_fldaug (pv 0) pe_int in_add)
      (pss_one (ps_ret (pe_gi T.g_NOWHERE))))))), ?_⟩
    obtain ⟨ds, eo⟩ := (y.pick far).ob
    refine ⟨_, rfl, pick far n f, ds, _, rfl, eo, sf_place_of _ _, _, rfl, _, rfl, (lN :: lF :: M), _, _, _, S.store far, t, a, i, rfl, y.pick far, ha, fun H1 s1 => ?_⟩
    have y1 := y.same s1
    have st1 := y1.pick far
    cases hf : (S.store far).entries.find? (fun e => e.isFor t i) with
    | none =>
      have ep := place_none hf
      have ew : wpS far S t i = (S, -1) := by
        unfold wpS Vabldj.find
        rw [hf]
      rw [ep]
      rw [ew] at k
      refine ⟨_, rfl, rfl, _, rfl, ite2 (fun c => iteT ⟨_, rfl, ?_⟩) (fun c => absurd (by decide) c)⟩
      refine k H1 (pick far aN aF) ?_ (fun _ h => h) fun b u q _ _ => s1 _ _ q
      rw [pick_same, pick_same2]
      exact y1
    | some E =>
      obtain ⟨j, ep, hj, _, hfor, _⟩ := place_some hf
      rw [ep]
      obtain ⟨b, hb, r⟩ := pd_get2 st1.ents hj
      obtain ⟨_, g, h, at1, _⟩ := id r
      obtain ⟨⟨db, hbo⟩, _⟩ := id at1
      obtain ⟨d1, e1⟩ := st1.ob
      refine ⟨_, rfl, rfl, _, rfl, ite2 (fun c => absurd c (by simp)) (fun c => ?_)⟩
      refine ⟨_, rfl, pick far n f, CS, d1, _, _, rfl, e1, T.c_Store, T.s_entries, sf_entries _ _, _, rfl, pick far lN lF, _, _, V.ref b, rfl, rfl, SqL.of st1.ls, atI_nat (by rw [List.getElem?_map, hb]; rfl), b, db, _, rfl, hbo, ef_is_whole _ _ _ _ _, b, g, h, E, rfl, at1, _, rfl, ?_⟩
      cases cw : E.whole with
      | true =>
        have ew : wpS far S t i = (S, (j : Int)) := by
          unfold wpS Vabldj.find
          rw [hf]
          show (if E.whole = true then (S, placeI (S.store far).entries t i) else _) = _
          rw [if_pos cw, ep]
        rw [ew] at k
        refine iteT ⟨_, rfl, ?_⟩
        refine k H1 (pick far aN aF) ?_ (fun _ h => h) fun b u q _ _ => s1 _ _ q
        rw [pick_same, pick_same2]
        exact y1
      | false =>
        have ew : wpS far S t i = ({ S.withStore far { S.store far with entries := (S.store far).entries.eraseIdx j } with spoilt := S.spoilt + 1 }, -1) := by
          unfold wpS Vabldj.find
          rw [hf]
          show (if E.whole = true then _ else ({ S.withStore far (Vabldj.without (S.store far) t i) with spoilt := S.spoilt + 1 }, (-1 : Int))) = _
          rw [if_neg (by rw [cw]; exact Bool.false_ne_true)]
          unfold Vabldj.without
          rw [without_erase keys hj hfor]
        rw [ew] at k
        refine iteF ?_
        refine ⟨_, rfl, pick far n f, d1, _, rfl, e1, sf_take_out _ _, _, rfl, (lN :: lF :: M), _, _, _, S.store far, j, b, rfl, st1, hb, Nat.le_trans hlen (by decide), fun H2 st2 fr2 => ?_⟩
        have y2 := y1.store far st2 fr2 fun c hc => .inl (List.mem_of_mem_eraseIdx hc)
        obtain ⟨d2, ob2⟩ := y2.ob
        refine ⟨_, rfl, p, CO, d2, _, _, rfl, ob2, T.c_Session, T.o_spoilt, oF_spoilt _ _ _, _, _, rfl, rfl, d2, _, ob2, (by show 11 < 1000; decide), ?_⟩
        have ei : (((S.withStore far { S.store far with entries := (S.store far).entries.eraseIdx j }).spoilt : Nat) : Int) + 1 = ((S.spoilt + 1 : Nat) : Int) := by rw [ws]; omega
        rw [ei, put_spoilt]
        have fr3 : ∀ c u, H2 c = some u → c ≠ p → (upd H2 p (.ins CO d2 (oF n f { S.withStore far { S.store far with entries := (S.store far).entries.eraseIdx j } with spoilt := S.spoilt + 1 }))) c = some u := fun c u q hc => by rw [upd_ne hc]; exact q
        have y3 := y2.put (S' := { S.withStore far { S.store far with entries := (S.store far).entries.eraseIdx j } with spoilt := S.spoilt + 1 }) T.eO T.sO fr3 ⟨d2, upd_same⟩ rfl rfl
        exact k _ _ y3 (fun c hc => List.mem_of_mem_eraseIdx hc) fun c u q h1 h2 => fr3 c u (fr2 c u (s1 _ _ q) h2) h1
def sp_from_near (CE CS CO : Addr) (M : List Addr) : Sp := fun vs H Q _ => ∃ (p n f lN lF : Addr) (aN aF : List Addr) (S : Vabldj.State) (j : Nat) (E : Vabldj.Entry), vs = [.ref p, .int j] ∧ SessAt CE CS CO M H p n f lN lF aN aF S ∧ S.near.entries[j]? = some E ∧ S.near.entries.length ≤ 2000 ∧
  Post CE CS CO M H (Own p n f lN lF aN aF) p { S with near := { S.near with entries := E :: S.near.entries.eraseIdx j }, fromNear := S.fromNear + 1 } (1 :: (E.status : Int) :: zs E.bytes) Q
theorem ok_from_near (T : Txt K mg CE CS CO) (D : DefM K CO "answer_from_near" "Session.answer_from_near" s_Session_answer_from_near ["self", "place"]) (m_Store_move_to_front : PromM P w K mg base 2 CS "move_to_front" ["self", "place"] (sp_Store_move CE CS)) :
    PromM P w K mg base 3 CO "answer_from_near" ["self", "place"] (sp_from_near CE CS CO M) := by
  have sc := sc_Session_answer_from_near
  refine D.prom sc (fun vs H Q E h => ?_) (fun f cdv A outer s H vs Q E hr h => ?_)
  · obtain ⟨p, n, f, lN, lF, aN, aF, S, j, E, rfl, _⟩ := h
    rfl
  · obtain ⟨p, n, f, lN, lF, aN, aF, S, j, E, rfl, y, hj, hlen, k⟩ := h
    refine ⟨_, (pss_cons (ps_set (i := 2) sc.nd rfl (Or.inl rfl) (pe_ix ix_list (pe_fld (pe_fld (pv 0) rfl) rfl) (pv 1) (fun _ _ => rfl)))
      (pss_cons (ps_expr (pe_methP m_Store_move_to_front T.c_Store (hr.mono (by decide)) (pe_fld (pv 0) rfl) (pa_cons (pv 1) pa_nil)))
      (pss_cons (ps_fldaug (pv 0) pe_int in_add)
      (pss_one (ps_ret (pe_op op_cat (pe_lst (pa_cons (pe_gi T.g_FROM_NEAR) (pa_cons (pe_fld (pv 2) rfl) pa_nil))) (pe_fld (pv 2) rfl))))))), ?_⟩
    obtain ⟨dx, ob⟩ := y.ob
    obtain ⟨dn, en⟩ := y.near.ob
    obtain ⟨b, hb, r⟩ := pd_get2 y.near.ents hj
    obtain ⟨dd, fs0, hb0⟩ := r.ins
    refine ⟨_, rfl, p, CO, dx, _, _, rfl, ob, T.c_Session, T.o_near, oF_near _ _ _, n, CS, dn, _, _, rfl, en, T.c_Store, T.s_entries, sf_entries _ _, _, rfl, lN, _, _, V.ref b, rfl, rfl, SqL.of y.near.ls, atI_nat (by rw [List.getElem?_map, hb]; rfl), ?_⟩
    refine ⟨_, rfl, p, CO, dx, _, _, rfl, ob, T.c_Session, T.o_near, oF_near _ _ _, n, dn, _, rfl, en, sf_move _ _, _, rfl, (lN :: lF :: M), n, lN, aN, S.near, j, b, E, rfl, y.near, hb, hj, Nat.le_trans hlen (by decide), fun H1 st1 fr1 => ?_⟩
    have hbm : b ∈ aN := List.mem_of_getElem? hb
    have y1 := y.store false st1 fr1 fun c hc => .inl ((List.mem_cons.mp hc).elim (fun z => z ▸ hbm) fun z => List.mem_of_mem_eraseIdx z)
    obtain ⟨d1, ob1⟩ := y1.ob
    refine ⟨_, rfl, p, CO, d1, _, _, rfl, ob1, T.c_Session, T.o_from_near, oF_from_near _ _ _, _, _, rfl, rfl, d1, _, ob1, (by show 11 < 1000; decide), ?_⟩
    have ei : (((S.withStore false { S.near with entries := E :: S.near.entries.eraseIdx j }).fromNear : Nat) : Int) + 1 = ((S.fromNear + 1 : Nat) : Int) := rfl
    rw [ei, put_from_near]
    generalize e2 : upd H1 p _ = H2
    have o2 : ∃ o, H2 p = some o := by rw [← e2]; exact ⟨_, upd_same⟩
    have fr2 : ∀ c u, H1 c = some u → c ≠ p → H2 c = some u := fun c u q hc => by rw [← e2, upd_ne hc]; exact q
    have y2 := y1.put (H' := H2) (S' := { S with near := { S.near with entries := E :: S.near.entries.eraseIdx j }, fromNear := S.fromNear + 1 }) T.eO T.sO fr2 ⟨d1, by rw [← e2]; exact upd_same⟩ rfl rfl
    obtain ⟨E', hE', r2⟩ := pd_get y2.near.ents (i := 0) rfl
    cases hE'
    obtain ⟨⟨_, h2, h3⟩, g, h, ⟨⟨db, hbo⟩, hg, hh⟩, _⟩ := r2
    refine ⟨_, rfl, b, CE, db, _, _, rfl, hbo, T.c_Entry, T.e_status, ef_status _ _ _ _ _, by show 2 ≤ sizeLine; decide, fun r1 hr1 => ?_⟩
    have s3 : Same H2 (upd H2 r1 (.lst [.int 1, .int (E.status : Int)])) := Same.new hr1
    have hs := sizeLine_eq
    refine ⟨_, rfl, b, CE, db, _, _, rfl, s3 _ _ hbo, T.c_Entry, T.e_held, ef_held _ _ _ _ _, r1, h, _, _, rfl, rfl, upd_same, s3 _ _ hh, ?_, fun r hr => ?_⟩
    · rw [vI_length]
      show 2 + _ ≤ _
      omega
    · refine k.ret ⟨n, f, lN, lF, _, _, y2.same s3, rfl⟩ (Ext.trans ?_ (Ext.of_same s3)) hr
      exact ext_store false y2 (fun c u q h1 h2 h3 => fr2 c u (fr1 c u q h3) h1) fun c hc => .inl ((List.mem_cons.mp hc).elim (fun z => z ▸ hbm) fun z => List.mem_of_mem_eraseIdx z)
def sp_from_far (CE CS CO : Addr) (M : List Addr) : Sp := fun vs H Q _ => ∃ (p n f lN lF : Addr) (aN aF : List Addr) (S : Vabldj.State) (j : Nat) (E : Vabldj.Entry), vs = [.ref p, .int j] ∧ SessAt CE CS CO M H p n f lN lF aN aF S ∧ S.far.entries[j]? = some E ∧ E.whole = true ∧ S.near.entries.length ≤ 2000 ∧
  Post CE CS CO M H (Own p n f lN lF aN aF) p { keepAt false S E with fromFar := S.fromFar + 1 } (2 :: (E.status : Int) :: zs E.bytes) Q
theorem mkE_whole {E : Vabldj.Entry} (h : E.whole = true) : mkE E.tool E.input E.status E.bytes = E := by
  have e : E.bytes.length = E.length := by
    unfold Vabldj.Entry.whole at h
    simpa using h
  cases E
  unfold mkE
  simp_all
theorem ok_from_far (T : Txt K mg CE CS CO) (D : DefM K CO "answer_from_far" "Session.answer_from_far" s_Session_answer_from_far ["self", "place"]) (m_Session_keep_in : PromM P w K mg base 5 CO "keep_in" ["self", "store", "tool", "given", "status", "output"] (sp_keep_in K CE CS CO M)) :
    PromM P w K mg base 6 CO "answer_from_far" ["self", "place"] (sp_from_far CE CS CO M) := by
  have sc := sc_Session_answer_from_far
  refine D.prom sc (fun vs H Q E h => ?_) (fun f cdv A outer s H vs Q E hr h => ?_)
  · obtain ⟨p, n, f, lN, lF, aN, aF, S, j, E, rfl, _⟩ := h
    rfl
  · obtain ⟨p, n, f, lN, lF, aN, aF, S, j, E, rfl, y, hj, hw, hlen, k⟩ := h
    refine ⟨_, (pss_cons (ps_set (i := 2) sc.nd rfl (Or.inl rfl) (pe_ix ix_list (pe_fld (pe_fld (pv 0) rfl) rfl) (pv 1) (fun _ _ => rfl)))
      (pss_cons (ps_expr (pe_methP m_Session_keep_in T.c_Session (hr.mono (by decide)) (pv 0) (pa_cons (pe_fld (pv 0) rfl) (pa_cons (pe_fld (pv 2) rfl) (pa_cons (pe_fld (pv 2) rfl) (pa_cons (pe_fld (pv 2) rfl) (pa_cons (pe_fld (pv 2) rfl) pa_nil)))))))
      (pss_cons (ps_fldaug (pv 0) pe_int in_add)
      (pss_one (ps_ret (pe_op op_cat (pe_lst (pa_cons (pe_gi T.g_FROM_FAR) (pa_cons (pe_fld (pv 2) rfl) pa_nil))) (pe_fld (pv 2) rfl))))))), ?_⟩
    obtain ⟨dx, ob⟩ := y.ob
    obtain ⟨df, ef'⟩ := y.far.ob
    obtain ⟨b, hb, r⟩ := pd_get2 y.far.ents hj
    obtain ⟨⟨h1, h2, h3⟩, g, h, ⟨⟨db, hbo⟩, hg, hh⟩, ng, nh⟩ := r
    have hs := sizeLine_eq
    refine ⟨_, rfl, p, CO, dx, _, _, rfl, ob, T.c_Session, T.o_far, oF_far _ _ _, f, CS, df, _, _, rfl, ef', T.c_Store, T.s_entries, sf_entries _ _, _, rfl, lF, _, _, V.ref b, rfl, rfl, SqL.of y.far.ls, atI_nat (by rw [List.getElem?_map, hb]; rfl), ?_⟩
    refine ⟨_, rfl, p, dx, _, rfl, ob, oF_no _ _ _ _ (by decide +kernel), _, rfl, p, CO, dx, _, _, rfl, ob, T.c_Session, T.o_near, oF_near _ _ _, _, rfl, b, CE, db, _, _, rfl, hbo, T.c_Entry, T.e_tool, ef_tool _ _ _ _ _, _, rfl, b, CE, db, _, _, rfl, hbo, T.c_Entry, T.e_given, ef_given _ _ _ _ _,
      _, rfl, b, CE, db, _, _, rfl, hbo, T.c_Entry, T.e_status, ef_status _ _ _ _ _, _, rfl, b, CE, db, _, _, rfl, hbo, T.c_Entry, T.e_held, ef_held _ _ _ _ _, p, n, f, lN, lF, aN, aF, S, false, E.tool, g, E.input, E.status, h, E.bytes, rfl, y, hlen, SqL.of hg, SqL.of hh, h1, Nat.le_trans h3 h2, fun H1 as' y1 sub fr1 => ?_⟩
    rw [mkE_whole hw] at y1
    obtain ⟨d1, ob1⟩ := y1.ob
    refine ⟨_, rfl, p, CO, d1, _, _, rfl, ob1, T.c_Session, T.o_from_far, oF_from_far _ _ _, _, _, rfl, rfl, d1, _, ob1, (by show 11 < 1000; decide), ?_⟩
    have ei : (((keepAt false S E).fromFar : Nat) : Int) + 1 = ((S.fromFar + 1 : Nat) : Int) := rfl
    rw [ei, put_from_far]
    generalize e2 : upd H1 p _ = H2
    have fr2 : ∀ c u, H1 c = some u → c ≠ p → H2 c = some u := fun c u q hc => by rw [← e2, upd_ne hc]; exact q
    have y2 := y1.put (H' := H2) (S' := { keepAt false S E with fromFar := S.fromFar + 1 }) T.eO T.sO fr2 ⟨d1, by rw [← e2]; exact upd_same⟩ rfl rfl
    have fr : ∀ c u, H c = some u → c ≠ p → c ≠ lN → H2 c = some u := fun c u q h1 h2 => fr2 c u (fr1 c u q h1 h2) h1
    have bp : b ≠ p := ins_ne hbo ob T.eO
    have bl : b ≠ lN := ins_lst hbo y.near.ls
    have hp' : h ≠ p := (ins_lst ob hh).symm
    have hl' : h ≠ lN := fun z => nh (by simp [z])
    have hbo2 := fr _ _ hbo bp bl
    have hh2 := fr _ _ hh hp' hl'
    refine ⟨_, rfl, b, CE, db, _, _, rfl, hbo2, T.c_Entry, T.e_status, ef_status _ _ _ _ _, by show 2 ≤ sizeLine; decide, fun r1 hr1 => ?_⟩
    have s3 : Same H2 (upd H2 r1 (.lst [.int 2, .int (E.status : Int)])) := Same.new hr1
    refine ⟨_, rfl, b, CE, db, _, _, rfl, s3 _ _ hbo2, T.c_Entry, T.e_held, ef_held _ _ _ _ _, r1, h, _, _, rfl, rfl, upd_same, s3 _ _ hh2, ?_, fun r hr => ?_⟩
    · rw [vI_length]
      show 2 + _ ≤ _
      omega
    · refine k.ret ⟨n, f, lN, lF, _, _, y2.same s3, rfl⟩ (Ext.trans ?_ (Ext.of_same s3)) hr
      exact ext_store false y2 (fun c u q h1 h2 h3 => fr c u q h1 h3) sub
end
end Ac

set_option Elab.async false
set_option linter.all false
set_option maxRecDepth 100000
set_option maxHeartbeats 2000000
namespace Ac
open PySem PySem.Spec PyProof.Rows L2
/-! ### tests without a change of the heap -/
theorem tOr_pure {A B : TT} {σ : L2.St} {H : Hp} (a b : Bool) {Q : Bool → Hp → Prop} (hA : ∀ Q : Bool → Hp → Prop, Q a H → A σ H Q) (hB : a = false → ∀ Q : Bool → Hp → Prop, Q b H → B σ H Q) (h : Q (a || b) H) : tOr A B σ H Q := by
  refine hA _ ?_
  cases a with
  | true => exact iteT h
  | false => exact iteF (hB rfl Q h)
theorem tAnd_pure {A B : TT} {σ : L2.St} {H : Hp} (a b : Bool) {Q : Bool → Hp → Prop} (hA : ∀ Q : Bool → Hp → Prop, Q a H → A σ H Q) (hB : a = true → ∀ Q : Bool → Hp → Prop, Q b H → B σ H Q) (h : Q (a && b) H) : tAnd A B σ H Q := by
  refine hA _ ?_
  cases a with
  | false => exact iteF h
  | true => exact iteT (hB rfl Q h)
theorem if_or {A B : TT} {t u : TS} {D : Ends} {σ : L2.St} {H : Hp} (a b : Bool) (hA : ∀ Q : Bool → Hp → Prop, Q a H → A σ H Q) (hB : a = false → ∀ Q : Bool → Hp → Prop, Q b H → B σ H Q) (h : if (a || b) = true then t D σ H else u D σ H) : tIfS (tOr A B) t u D σ H := tOr_pure a b hA hB h
theorem if_and {A B : TT} {t u : TS} {D : Ends} {σ : L2.St} {H : Hp} (a b : Bool) (hA : ∀ Q : Bool → Hp → Prop, Q a H → A σ H Q) (hB : a = true → ∀ Q : Bool → Hp → Prop, Q b H → B σ H Q) (h : if (a && b) = true then t D σ H else u D σ H) : tIfS (tAnd A B) t u D σ H := tAnd_pure a b hA hB h
theorem sif_or {A B : TT} {t u r : TS} {D : Ends} {σ : L2.St} {H : Hp} (a b : Bool) (hA : ∀ Q : Bool → Hp → Prop, Q a H → A σ H Q) (hB : a = false → ∀ Q : Bool → Hp → Prop, Q b H → B σ H Q) (h : if (a || b) = true then t { D with nx := r D } σ H else u { D with nx := r D } σ H) : tSeq (tIfS (tOr A B) t u) r D σ H := tOr_pure a b hA hB h
theorem sif_and {A B : TT} {t u r : TS} {D : Ends} {σ : L2.St} {H : Hp} (a b : Bool) (hA : ∀ Q : Bool → Hp → Prop, Q a H → A σ H Q) (hB : a = true → ∀ Q : Bool → Hp → Prop, Q b H → B σ H Q) (h : if (a && b) = true then t { D with nx := r D } σ H else u { D with nx := r D } σ H) : tSeq (tIfS (tAnd A B) t u) r D σ H := tAnd_pure a b hA hB h
theorem seq_ext {K : PySem.W.Frag} {H H' : Hp} {a : Addr} {xs : List V} (h : SqL K H a xs) (k : ∀ o, H a = some o → H' a = some o) : SqL K H' a xs := by
  rcases h with (h | ⟨o, h⟩) | h
  · exact .inl (.inl (k _ h))
  · exact .inl (.inr ⟨o, k _ h⟩)
  · exact .inr h
theorem out_length (t : Nat) {l : List Nat} (h : l.length ≤ 64) : (Vabldj.outcome t l).output.length ≤ 128 := by
  unfold Vabldj.outcome
  split
  · show l.length ≤ 128
    omega
  · show l.reverse.length ≤ 128
    rw [List.length_reverse]
    omega
  · show (Vabldj.sorted l).length ≤ 128
    rw [sorted_length]
    omega
  · show 2 ≤ 128
    decide
  · show (l.flatMap fun x => [x, x]).length ≤ 128
    rw [List.length_flatMap]
    have : (l.map fun x => [x, x].length) = List.replicate l.length 2 := by simp [List.map_const']
    rw [this]
    simp
    omega
  · split
    · show 0 ≤ 128
      decide
    · show 1 ≤ 128
      decide
section
variable {P : Program} {w : World} {K : PySem.W.Frag} {mg : Str → Option Value} {base : Heap} {CE CS CO : Addr} {M : List Addr}
def sp_work (K : PySem.W.Frag) (CE CS CO : Addr) (M : List Addr) : Sp := fun vs H Q _ => ∃ (p n f lN lF : Addr) (aN aF : List Addr) (S : Vabldj.State) (t : Nat) (a : Addr) (l : List Nat), vs = [.ref p, .int t, .ref a] ∧ SessAt CE CS CO M H p n f lN lF aN aF S ∧ S.near.entries.length ≤ 2000 ∧ S.far.entries.length ≤ 2000 ∧ t ≤ 5 ∧ l.length ≤ 64 ∧
  SqL K H a (vI l) ∧ ¬ Own p n f lN lF aN aF a ∧
  Post CE CS CO M H (Own p n f lN lF aN aF) p (Vabldj.work S t l).1 (0 :: ((Vabldj.outcome t l).status : Int) :: zs (Vabldj.outcome t l).output) Q
theorem ok_work (T : Txt K mg CE CS CO) (D : DefM K CO "work" "Session.work" s_Session_work ["self", "tool", "given"]) (p_outcome : Prom P w K mg base 2 "outcome" ["tool", "given"] (sp_outcome K)) (m_Session_keep_in : PromM P w K mg base 5 CO "keep_in" ["self", "store", "tool", "given", "status", "output"] (sp_keep_in K CE CS CO M)) :
    PromM P w K mg base 6 CO "work" ["self", "tool", "given"] (sp_work K CE CS CO M) := by
  have sc := sc_Session_work
  refine D.prom sc (fun vs H Q E h => ?_) (fun f cdv A outer s H vs Q E hr h => ?_)
  · obtain ⟨p, n, f, lN, lF, aN, aF, S, t, a, l, rfl, _⟩ := h
    rfl
  · obtain ⟨p, n, f, lN, lF, aN, aF, S, t, a, l, rfl, y, hN, hF, ht, hl, ha, na, k⟩ := h
    refine ⟨_, (pss_cons (ps_set (i := 3) sc.nd rfl (Or.inl rfl) (pe_callP p_outcome (hr.mono (by decide)) (pa_cons (pv 1) (pa_cons (pv 2) pa_nil))))
      (pss_cons (ps_set (i := 4) sc.nd rfl (Or.inl rfl) (pe_ix ix_tup (pv 3) pe_int (fun _ _ => rfl)))
      (pss_cons (ps_set (i := 5) sc.nd rfl (Or.inl rfl) (pe_ix ix_tup (pv 3) pe_int (fun _ _ => rfl)))
      (pss_cons (ps_fldaug (pv 0) pe_int in_add)
      (pss_cons (ps_if (PW.pt (pw_or (pt_cmpR op_eq (pv 4) pe_int (nomark _)) (pw_or1 (pt_val (pe_fld (pv 0) rfl))))) (pss_cons (ps_expr (pe_methP m_Session_keep_in T.c_Session (hr.mono (by decide)) (pv 0) (pa_cons (pe_fld (pv 0) rfl) (pa_cons (pv 1) (pa_cons (pv 2) (pa_cons (pv 4) (pa_cons (pv 5) pa_nil)))))))
      (pss_one (ps_if (PW.pt (pw_and (pt_val (pe_fld (pv 0) rfl)) (pw_and1 (pt_val (pe_fld (pv 0) rfl))))) (pss_cons (ps_expr (pe_methP m_Session_keep_in T.c_Session (hr.mono (by decide)) (pv 0) (pa_cons (pe_fld (pv 0) rfl) (pa_cons (pv 1) (pa_cons (pv 2) (pa_cons (pv 4) (pa_cons (pv 5) pa_nil)))))))
      (pss_one (ps_fldaug (pv 0) pe_int in_add))) pss_nil))) pss_nil)
      (pss_one (ps_ret (pe_op op_cat (pe_lst (pa_cons (pe_gi T.g_WORKED) (pa_cons (pv 4) pa_nil))) (pv 5))))))))), ?_⟩
    generalize eo : Vabldj.outcome t l = o at k
    have ol : o.output.length ≤ 128 := by rw [← eo]; exact out_length t hl
    have hs := sizeLine_eq
    -- worked_out = outcome(tool, given)
    refine ⟨_, rfl, _, rfl, t, a, l, rfl, ht, ha, hl, fun H1 w1 q1 s1 hw hq oa => ?_⟩
    rw [eo] at oa
    obtain ⟨oa1, oa2⟩ := oa
    have y1 := y.same s1
    -- status = worked_out[0]; output = worked_out[1]
    refine ⟨_, rfl, w1, _, _, .int (o.status : Int), rfl, rfl, .inl (.inl oa1), rfl, ?_⟩
    refine ⟨_, rfl, w1, _, _, .ref q1, rfl, rfl, .inl (.inl oa1), rfl, ?_⟩
    -- self.worked += 1
    obtain ⟨d1, ob1⟩ := y1.ob
    refine ⟨_, rfl, p, CO, d1, _, _, rfl, ob1, T.c_Session, T.o_worked, oF_worked _ _ _, _, _, rfl, rfl, d1, _, ob1, (by show 11 < 1000; decide), ?_⟩
    have ei : ((S.worked : Nat) : Int) + 1 = ((S.worked + 1 : Nat) : Int) := rfl
    rw [ei, put_worked]
    generalize e2 : upd H1 p _ = H2
    have o2 : ∃ u, H2 p = some u := by rw [← e2]; exact ⟨_, upd_same⟩
    have fr2 : ∀ c u, H1 c = some u → c ≠ p → H2 c = some u := fun c u q hc => by rw [← e2, upd_ne hc]; exact q
    have y2 := y1.put (H' := H2) (S' := { S with worked := S.worked + 1 }) T.eO T.sO fr2 ⟨d1, by rw [← e2]; exact upd_same⟩ rfl rfl
    have x2 : Ext (Own p n f lN lF aN aF) H (Own p n f lN lF aN aF) H2 := (Ext.of_same s1).trans (ext_of (fun c u q hc _ _ _ _ _ _ => fr2 c u q hc) (fun _ h => .inl h) (fun _ h => .inl h) (none_of_keep fr2 o2))
    have nq : ∀ {F : Addr → Prop}, (∀ b, F b → Own p n f lN lF aN aF b ∨ H b = none) → True := fun _ => trivial
    have oq1 : H1 q1 = some (.lst (vI o.output)) := oa2
    have qp : q1 ≠ p := fun z => by rw [z, ob1] at oq1; cases oq1
    have q2 : H2 q1 = some (.lst (vI o.output)) := fr2 _ _ oq1 qp
    have qN : q1 ≠ lN := fun z => by have := y.near.ls; rw [← z, hq] at this; cases this
    have qF : q1 ≠ lF := fun z => by have := y.far.ls; rw [← z, hq] at this; cases this
    have a2 : SqL K H2 a (vI l) := seq_ext ha fun u q => x2.keep a u q na
    obtain ⟨d2, ob2⟩ := y2.ob
    -- the end
    have fin : ∀ (H3 : Hp) (aN' aF' : List Addr) (σ4 : V), SessAt CE CS CO M H3 p n f lN lF aN' aF' (Vabldj.work S t l).1 → Ext (Own p n f lN lF aN aF) H (Own p n f lN lF aN' aF') H3 → H3 q1 = some (.lst (vI o.output)) →
        ∀ r1, H3 r1 = none → ∀ r, (upd H3 r1 (.lst [.int 0, .int (o.status : Int)])) r = none → Q (.ref r) (upd (upd H3 r1 (.lst [.int 0, .int (o.status : Int)])) r (.lst ([.int 0, .int (o.status : Int)] ++ vI o.output))) := fun H3 aN' aF' _ y3 x3 q3 r1 hr1 r hr => by
      have s3 : Same H3 (upd H3 r1 (.lst [.int 0, .int (o.status : Int)])) := Same.new hr1
      exact k.ret ⟨n, f, lN, lF, aN', aF', y3.same s3, rfl⟩ (x3.trans (Ext.of_same s3)) hr
    have eE : Vabldj.entryOf t l o = mkE t l o.status o.output := rfl
    -- if status == 0 or self.keeps_failing
    dsimp only
    refine sif_or (decide (V.int (o.status : Int) = V.int 0)) S.failing (fun Q h => ⟨_, rfl, rfl, _, rfl, h⟩) (fun _ Q h => ⟨_, rfl, p, CO, d2, _, _, rfl, ob2, T.c_Session, T.o_keeps_failing, oF_failing _ _ _, _, rfl, h⟩) ?_
    refine ite2 (fun c => ?_) (fun c => ?_)
    · have c' : o.status = 0 ∨ S.failing = true := by
        simp at c
        rcases c with c | c
        · exact .inl (by omega)
        · exact .inr c
      -- self.keep_in(self.near, ..)
      refine ⟨_, rfl, p, d2, _, rfl, ob2, oF_no _ _ _ _ (by decide +kernel), _, rfl, p, CO, d2, _, _, rfl, ob2, T.c_Session, T.o_near, oF_near _ _ _, _, rfl, _, rfl, _, rfl, _, rfl, p, n, f, lN, lF, aN, aF, _, false, t, a, l, o.status, q1, o.output, rfl, y2, hN, a2, SqL.of q2, hl, ol, fun H3 as3 y3 sub3 fr3 => ?_⟩
      have x3 : Ext (Own p n f lN lF aN aF) H (Own p n f lN lF as3 aF) H3 := x2.trans (ext_store false y3 (fun b u q h1 _ h3 => fr3 b u q h1 h3) sub3)
      have q3 : H3 q1 = some (.lst (vI o.output)) := fr3 _ _ q2 qp qN
      obtain ⟨d3, ob3⟩ := y3.ob
      -- if self.far_is_there and self.sends
      dsimp only
      refine if_and S.there S.sends (fun Q h => ⟨_, rfl, p, CO, d3, _, _, rfl, ob3, T.c_Session, T.o_far_is_there, oF_there _ _ _, _, rfl, h⟩) (fun _ Q h => ⟨_, rfl, p, CO, d3, _, _, rfl, ob3, T.c_Session, T.o_sends, oF_sends _ _ _, _, rfl, h⟩) ?_
      refine ite2 (fun c2 => ?_) (fun c2 => ?_)
      · -- self.keep_in(self.far, ..); self.sent += 1
        have a3 : SqL K H3 a (vI l) := seq_ext ha fun u q => x3.keep a u q na
        refine ⟨_, rfl, p, d3, _, rfl, ob3, oF_no _ _ _ _ (by decide +kernel), _, rfl, p, CO, d3, _, _, rfl, ob3, T.c_Session, T.o_far, oF_far _ _ _, _, rfl, _, rfl, _, rfl, _, rfl, p, n, f, lN, lF, as3, aF, _, true, t, a, l, o.status, q1, o.output, rfl, y3, hF, a3, SqL.of q3, hl, ol, fun H4 as4 y4 sub4 fr4 => ?_⟩
        have x4 : Ext (Own p n f lN lF aN aF) H (Own p n f lN lF as3 as4) H4 := x3.trans (ext_store true y4 (fun b u q h1 _ h3 => fr4 b u q h1 h3) sub4)
        have q4 : H4 q1 = some (.lst (vI o.output)) := fr4 _ _ q3 qp qF
        obtain ⟨d4, ob4⟩ := y4.ob
        refine ⟨_, rfl, p, CO, d4, _, _, rfl, ob4, T.c_Session, T.o_sent, oF_sent _ _ _, _, _, rfl, rfl, d4, _, ob4, (by show 11 < 1000; decide), ?_⟩
        have ei4 : (((keepAt true (keepAt false { S with worked := S.worked + 1 } (mkE t l o.status o.output)) (mkE t l o.status o.output)).sent : Nat) : Int) + 1 = ((S.sent + 1 : Nat) : Int) := rfl
        rw [ei4, put_sent]
        generalize e5 : upd H4 p _ = H5
        have o5 : ∃ u, H5 p = some u := by rw [← e5]; exact ⟨_, upd_same⟩
        have fr5 : ∀ c u, H4 c = some u → c ≠ p → H5 c = some u := fun c u q hc => by rw [← e5, upd_ne hc]; exact q
        have ew : (Vabldj.work S t l).1 = { keepAt true (keepAt false { S with worked := S.worked + 1 } (mkE t l o.status o.output)) (mkE t l o.status o.output) with sent := S.sent + 1 } := by
          unfold Vabldj.work
          rw [eo]
          show (if o.status = 0 ∨ S.failing = true then _ else _) = _
          rw [if_pos c']
          show (if (S.there && S.sends) = true then _ else _) = _
          rw [if_pos c2]
          rfl
        have y5 := y4.put (H' := H5) (S' := (Vabldj.work S t l).1) T.eO T.sO fr5 ⟨d4, by rw [← e5, ew]; exact upd_same⟩ (by rw [ew]) (by rw [ew])
        have x5 : Ext (Own p n f lN lF aN aF) H (Own p n f lN lF as3 as4) H5 := x4.trans (ext_of (fun c u q hc _ _ _ _ _ _ => fr5 c u q hc) (fun _ h => .inl h) (fun _ h => .inl h) (none_of_keep fr5 o5))
        have q5 := fr5 _ _ q4 qp
        exact ⟨_, rfl, by show 2 ≤ sizeLine; decide, fun r1 hr1 => ⟨_, rfl, r1, q1, _, _, rfl, rfl, upd_same, (Same.new hr1) _ _ q5, by rw [vI_length]; show 2 + _ ≤ _; omega, fun r hr => fin H5 as3 as4 .non y5 x5 q5 r1 hr1 r hr⟩⟩
      · have ew : (Vabldj.work S t l).1 = keepAt false { S with worked := S.worked + 1 } (mkE t l o.status o.output) := by
          unfold Vabldj.work
          rw [eo]
          show (if o.status = 0 ∨ S.failing = true then _ else _) = _
          rw [if_pos c']
          show (if (S.there && S.sends) = true then _ else _) = _
          rw [if_neg c2]
          rfl
        have y5 : SessAt CE CS CO M H3 p n f lN lF as3 aF (Vabldj.work S t l).1 := by rw [ew]; exact y3
        exact ⟨_, rfl, by show 2 ≤ sizeLine; decide, fun r1 hr1 => ⟨_, rfl, r1, q1, _, _, rfl, rfl, upd_same, (Same.new hr1) _ _ q3, by rw [vI_length]; show 2 + _ ≤ _; omega, fun r hr => fin H3 as3 aF .non y5 x3 q3 r1 hr1 r hr⟩⟩
    · have c' : ¬ (o.status = 0 ∨ S.failing = true) := by
        simp at c
        rintro (z | z)
        · exact c.1 (by omega)
        · rw [z] at c
          cases c.2
      have ew : (Vabldj.work S t l).1 = { S with worked := S.worked + 1 } := by
        unfold Vabldj.work
        rw [eo]
        show (if o.status = 0 ∨ S.failing = true then _ else _) = _
        rw [if_neg c']
      have y5 : SessAt CE CS CO M H2 p n f lN lF aN aF (Vabldj.work S t l).1 := by rw [ew]; exact y2
      exact ⟨_, rfl, by show 2 ≤ sizeLine; decide, fun r1 hr1 => ⟨_, rfl, r1, q1, _, _, rfl, rfl, upd_same, (Same.new hr1) _ _ q2, by rw [vI_length]; show 2 + _ ≤ _; omega, fun r hr => fin H2 aN aF .non y5 x2 q2 r1 hr1 r hr⟩⟩
end
end Ac

set_option Elab.async false
set_option linter.all false
set_option maxRecDepth 100000
set_option maxHeartbeats 2000000
namespace Ac
open PySem PySem.Spec PyProof.Rows L2
/-! ### doing, over the specification alone -/
theorem wpS_cases (far : Bool) (S : Vabldj.State) (t : Nat) (i : List Nat) :
    (∃ (E : Vabldj.Entry) (j : Nat), Vabldj.find (S.store far) t i = some E ∧ E.whole = true ∧ wpS far S t i = (S, (j : Int)) ∧ (S.store far).entries[j]? = some E ∧ E.isFor t i = true) ∨
    ((wpS far S t i).2 = -1 ∧ ((Vabldj.find (S.store far) t i = none ∧ (wpS far S t i).1 = S) ∨ ∃ E, Vabldj.find (S.store far) t i = some E ∧ E.whole = false ∧ (wpS far S t i).1 = { S.withStore far (Vabldj.without (S.store far) t i) with spoilt := S.spoilt + 1 })) := by
  cases hf : Vabldj.find (S.store far) t i with
  | none =>
    have e : wpS far S t i = (S, -1) := by unfold wpS; rw [hf]
    exact .inr ⟨by rw [e], .inl ⟨rfl, by rw [e]⟩⟩
  | some E =>
    cases hw : E.whole with
    | true =>
      obtain ⟨j, ep, hj, _, hfor, _⟩ := place_some (show (S.store far).entries.find? (fun e => e.isFor t i) = some E from hf)
      refine .inl ⟨E, j, rfl, hw, ?_, hj, hfor⟩
      unfold wpS
      rw [hf]
      show (if E.whole = true then (S, placeI (S.store far).entries t i) else _) = _
      rw [if_pos hw, ep]
    | false =>
      have e : wpS far S t i = ({ S.withStore far (Vabldj.without (S.store far) t i) with spoilt := S.spoilt + 1 }, -1) := by
        unfold wpS
        rw [hf]
        show (if E.whole = true then _ else _) = _
        rw [if_neg (by rw [hw]; exact Bool.false_ne_true)]
      exact .inr ⟨by rw [e], .inr ⟨E, rfl, hw, by rw [e]⟩⟩
theorem do_near {S : Vabldj.State} {t : Nat} {i : List Nat} {E : Vabldj.Entry} {j : Nat} (keys : Keys S.near.entries) (hf : Vabldj.find S.near t i = some E) (hw : E.whole = true) (hj : S.near.entries[j]? = some E) (hfor : E.isFor t i = true) :
    Vabldj.doIt S t i = ({ S with near := { S.near with entries := E :: S.near.entries.eraseIdx j }, fromNear := S.fromNear + 1 }, Vabldj.ofEntry 1 E) := by
  unfold Vabldj.doIt
  rw [hf]
  show (if E.whole = true then _ else _) = _
  rw [if_pos hw]
  unfold Vabldj.without
  rw [without_erase keys hj hfor]
theorem do_ask {S : Vabldj.State} {t : Nat} {i : List Nat} (h : (Vabldj.find S.near t i = none ∧ (wpS false S t i).1 = S) ∨ ∃ E, Vabldj.find S.near t i = some E ∧ E.whole = false ∧ (wpS false S t i).1 = { S.withStore false (Vabldj.without S.near t i) with spoilt := S.spoilt + 1 }) :
    Vabldj.doIt S t i = Vabldj.askFar (wpS false S t i).1 t i := by
  unfold Vabldj.doIt
  rcases h with ⟨hf, e⟩ | ⟨E, hf, hw, e⟩
  · rw [hf, e]
  · rw [hf, e]
    show (if E.whole = true then _ else _) = _
    rw [if_neg (by rw [hw]; exact Bool.false_ne_true)]
    rfl
theorem ask_far {S : Vabldj.State} {t : Nat} {i : List Nat} {E : Vabldj.Entry} (ht : S.there = true) (hf : Vabldj.find S.far t i = some E) (hw : E.whole = true) : Vabldj.askFar S t i = ({ keepAt false S E with fromFar := S.fromFar + 1 }, Vabldj.ofEntry 2 E) := by
  unfold Vabldj.askFar
  rw [if_pos ht, hf]
  show (if E.whole = true then _ else _) = _
  rw [if_pos hw]
  rfl
theorem ask_work {S : Vabldj.State} {t : Nat} {i : List Nat} (ht : S.there = true) (h : (Vabldj.find S.far t i = none ∧ (wpS true S t i).1 = S) ∨ ∃ E, Vabldj.find S.far t i = some E ∧ E.whole = false ∧ (wpS true S t i).1 = { S.withStore true (Vabldj.without S.far t i) with spoilt := S.spoilt + 1 }) :
    Vabldj.askFar S t i = Vabldj.work (wpS true S t i).1 t i := by
  unfold Vabldj.askFar
  rw [if_pos ht]
  rcases h with ⟨hf, e⟩ | ⟨E, hf, hw, e⟩
  · rw [hf, e]
  · rw [hf, e]
    show (if E.whole = true then _ else _) = _
    rw [if_neg (by rw [hw]; exact Bool.false_ne_true)]
    rfl
theorem ask_not {S : Vabldj.State} {t : Nat} {i : List Nat} (ht : ¬ S.there = true) : Vabldj.askFar S t i = Vabldj.work S t i := by
  unfold Vabldj.askFar
  rw [if_neg ht]
theorem work_got (S : Vabldj.State) (t : Nat) (i : List Nat) : (Vabldj.work S t i).2 = { origin := 0, outcome := Vabldj.outcome t i } := rfl
theorem erase_le {α : Type} (l : List α) (p : α → Bool) : (l.filter p).length ≤ l.length := List.length_filter_le _ _
theorem wpS_near (S : Vabldj.State) (t : Nat) (i : List Nat) : (wpS false S t i).1.far = S.far ∧ (wpS false S t i).1.there = S.there ∧ (wpS false S t i).1.near.entries.length ≤ S.near.entries.length := by
  rcases wpS_cases false S t i with ⟨E, j, _, _, e, _⟩ | ⟨_, ⟨_, e⟩ | ⟨E, _, _, e⟩⟩
  · rw [e]
    exact ⟨rfl, rfl, Nat.le_refl _⟩
  · rw [e]
    exact ⟨rfl, rfl, Nat.le_refl _⟩
  · rw [e]
    exact ⟨rfl, rfl, erase_le _ _⟩
theorem wpS_far (S : Vabldj.State) (t : Nat) (i : List Nat) : (wpS true S t i).1.near = S.near ∧ (wpS true S t i).1.there = S.there ∧ (wpS true S t i).1.far.entries.length ≤ S.far.entries.length := by
  rcases wpS_cases true S t i with ⟨E, j, _, _, e, _⟩ | ⟨_, ⟨_, e⟩ | ⟨E, _, _, e⟩⟩
  · rw [e]
    exact ⟨rfl, rfl, Nat.le_refl _⟩
  · rw [e]
    exact ⟨rfl, rfl, Nat.le_refl _⟩
  · rw [e]
    exact ⟨rfl, rfl, erase_le _ _⟩
/-! ### looked at -/
theorem toolOf_ok {t : Int} (h : toolR t = 0) : Vabldj.toolOf t = .ok t.toNat ∧ 0 ≤ t ∧ t ≤ 5 := by
  have h' := toolR_0.mp h
  refine ⟨?_, h'⟩
  unfold Vabldj.toolOf
  rw [if_pos h']
theorem toolOf_no {t : Int} (h : ¬ toolR t = 0) : Vabldj.toolOf t = .error Vabldj.TOOL ∧ toolR t = -2 := by
  have h' : ¬ (0 ≤ t ∧ t ≤ 5) := fun z => h (toolR_0.mpr z)
  refine ⟨?_, if_neg h'⟩
  unfold Vabldj.toolOf
  rw [if_neg h']
theorem inputOf_ok {ns : List Int} (h : inputR ns = 0) : Vabldj.inputOf ns = .ok (ns.map fun n => n.toNat) ∧ ns.length ≤ 64 ∧ zs (ns.map fun n => n.toNat) = ns := by
  unfold inputR at h
  by_cases c : 64 < ns.length ∨ ns.all (fun n => decide (0 ≤ n) && decide (n ≤ 255)) = false
  · rw [if_pos c] at h
    exact absurd h (by decide)
  · refine ⟨?_, ?_, ?_⟩
    · unfold Vabldj.inputOf
      rw [if_neg c]
    · exact Nat.le_of_not_lt fun z => c (.inl z)
    · have al : ns.all (fun n => decide (0 ≤ n) && decide (n ≤ 255)) = true := by
        cases q : ns.all (fun n => decide (0 ≤ n) && decide (n ≤ 255)) with
        | true => rfl
        | false => exact absurd (.inr q) c
      unfold zs
      rw [List.map_map]
      have e : ∀ x ∈ ns, ((fun (n : Nat) => (n : Int)) ∘ fun (n : Int) => n.toNat) x = id x := fun x hx => by
        have := List.all_eq_true.mp al x hx
        simp at this
        show ((x.toNat : Nat) : Int) = x
        omega
      rw [List.map_congr_left e, List.map_id]
theorem inputOf_no {ns : List Int} (h : ¬ inputR ns = 0) : Vabldj.inputOf ns = .error Vabldj.INPUT ∧ inputR ns = -3 := by
  unfold inputR at h ⊢
  by_cases c : 64 < ns.length ∨ ns.all (fun n => decide (0 ≤ n) && decide (n ≤ 255)) = false
  · refine ⟨?_, if_pos c⟩
    unfold Vabldj.inputOf
    rw [if_pos c]
  · rw [if_neg c] at h
    exact absurd rfl h
theorem onAction_no {S : Vabldj.State} {t : Int} {ns : List Int} {f : Nat → List Nat → Vabldj.State × Vabldj.Answer} (h : ¬ actionR t ns = 0) : Vabldj.onAction S t ns f = (S, Vabldj.no (actionR t ns)) := by
  unfold actionR at h ⊢
  unfold Vabldj.onAction
  by_cases c : toolR t = 0
  · rw [if_pos c] at h ⊢
    rw [(toolOf_ok c).1, (inputOf_no h).1, (inputOf_no h).2]
    rfl
  · rw [if_neg c]
    rw [(toolOf_no c).1, (toolOf_no c).2]
    rfl
theorem actionR_0 {t : Int} {ns : List Int} (h : actionR t ns = 0) : toolR t = 0 ∧ inputR ns = 0 := by
  unfold actionR at h
  by_cases c : toolR t = 0
  · rw [if_pos c] at h
    exact ⟨c, h⟩
  · rw [if_neg c] at h
    exact absurd h c
theorem onAction_ok {S : Vabldj.State} {t : Int} {ns : List Int} {f : Nat → List Nat → Vabldj.State × Vabldj.Answer} (h : actionR t ns = 0) : Vabldj.onAction S t ns f = f t.toNat (ns.map fun n => n.toNat) := by
  obtain ⟨h1, h2⟩ := actionR_0 h
  unfold Vabldj.onAction
  rw [(toolOf_ok h1).1, (inputOf_ok h2).1]
theorem storedR_cases (n t : Int) (ns : List Int) {S : Vabldj.State} {f : Bool → Nat → List Nat → Vabldj.State × Vabldj.Answer} :
    (¬ storedR n t ns = 0 ∧ (Vabldj.onStore S n fun far => Vabldj.onAction S t ns fun x m => f far x m) = (S, Vabldj.no (storedR n t ns))) ∨
    (storedR n t ns = 0 ∧ (n = 0 ∨ n = 1) ∧ actionR t ns = 0 ∧ (Vabldj.onStore S n fun far => Vabldj.onAction S t ns fun x m => f far x m) = f (decide (n = 1)) t.toNat (ns.map fun n => n.toNat)) := by
  unfold storedR Vabldj.onStore
  by_cases c : storeR n = 0
  · rw [if_pos c]
    have c' := storeR_0.mp c
    rw [storeOf_of c']
    by_cases d : actionR t ns = 0
    · exact .inr ⟨d, c', d, onAction_ok d⟩
    · exact .inl ⟨d, onAction_no d⟩
  · rw [if_neg c]
    have c' : ¬ (n = 0 ∨ n = 1) := fun z => c (storeR_0.mpr z)
    rw [storeOf_no c']
    refine .inl ⟨c, ?_⟩
    rw [show storeR n = -4 from if_neg c']
    rfl
theorem stored_ok {S : Vabldj.State} {n t : Int} {ns : List Int} {f : Bool → Nat → List Nat → Vabldj.State × Vabldj.Answer} (cv : n = 0 ∨ n = 1) (ca : actionR t ns = 0) :
    (Vabldj.onStore S n fun far => Vabldj.onAction S t ns fun x m => f far x m) = f (decide (n = 1)) t.toNat (ns.map fun n => n.toNat) := by
  unfold Vabldj.onStore
  rw [storeOf_of cv]
  exact onAction_ok ca
theorem stored_0 {n t : Int} {ns : List Int} (h : storedR n t ns = 0) : (n = 0 ∨ n = 1) ∧ actionR t ns = 0 := by
  unfold storedR at h
  by_cases c : storeR n = 0
  · rw [if_pos c] at h
    exact ⟨storeR_0.mp c, h⟩
  · rw [if_neg c] at h
    exact absurd h c
theorem pd_set2 {α β : Type} {F G : α → β → Prop} : ∀ {xs : List α} {ys : List β} {j : Nat} {x : α} {y : β}, Paired F xs ys → xs.Nodup → xs[j]? = some x → (∀ a b, a ≠ x → F a b → G a b) → G x y → Paired G xs (ys.set j y)
  | _, _, _, _, _, .nil, _, e, _, _ => by simp at e
  | _, _, 0, _, _, .cons r t, nd, e, f, g => by
    simp at e
    subst e
    have nd' := List.nodup_cons.mp nd
    exact .cons g (pd_map t fun a b hm r => f a b (fun z => nd'.1 (z ▸ hm)) r)
  | _, _, j + 1, x, _, .cons r t, nd, e, f, g => by
    have nd' := List.nodup_cons.mp nd
    have e' := e
    rw [List.getElem?_cons_succ] at e'
    refine .cons (f _ _ (fun z => nd'.1 (z ▸ List.mem_of_getElem? e')) r) (pd_set2 t nd'.2 e' f g)
/-- one entry of the store is written -/
theorem StoreAt.entry {CE CS : Addr} {H H' : Hp} {L : List Addr} {s l a : Addr} {as : List Addr} {S : Vabldj.Store} {j : Nat} {E' : Vabldj.Entry} (x : StoreAt CE CS H L s l as S) (eS : CE ≠ CS) (hj : as[j]? = some a) (k : ∀ b o, H b = some o → b ≠ a → H' b = some o) (r : EntR CE H' L a E') :
    StoreAt CE CS H' L s l as { S with entries := S.entries.set j E' } := by
  obtain ⟨ds, e⟩ := x.ob
  obtain ⟨da, fa, q⟩ := x.isIns (List.mem_of_getElem? hj)
  refine ⟨⟨ds, k _ _ e (ins_ne q e eS).symm⟩, k _ _ x.ls (ins_lst q x.ls).symm, x.mem, x.nd, pd_set2 x.ents x.nd hj (fun c E hc rc => ?_) r⟩
  exact rc.keep (fun o q' => k _ _ q' hc) fun b xs hb q' => ⟨hb, k _ _ q' (ins_lst q q').symm⟩
theorem StoreAt.offE {CE CS : Addr} {H H' : Hp} {L : List Addr} {s l a : Addr} {as : List Addr} {S : Vabldj.Store} {da : Addr} {fa : List (Str × V)} (x : StoreAt CE CS H L s l as S) (eS : CE ≠ CS) (q : H a = some (.ins CE da fa)) (na : a ∉ as) (k : ∀ b o, H b = some o → b ≠ a → H' b = some o) :
    StoreAt CE CS H' L s l as S := by
  obtain ⟨ds, e⟩ := x.ob
  refine x.frame (fun b => b = a) (fun b o q hb => k b o q hb) (ins_ne q e eS).symm (ins_lst q x.ls).symm (fun c hc z => na (z ▸ hc)) fun b xs q' z => ?_
  rw [z, q] at q'
  cases q'
theorem SessAt.entry {CE CS CO : Addr} {M : List Addr} {H H' : Hp} {p n f lN lF : Addr} {aN aF : List Addr} {S : Vabldj.State} {a : Addr} {j : Nat} {E' : Vabldj.Entry} (x : SessAt CE CS CO M H p n f lN lF aN aF S) (eS : CE ≠ CS) (eO : CE ≠ CO) (far : Bool) (hj : (Ac.pick far aN aF)[j]? = some a) (k : ∀ b o, H b = some o → b ≠ a → H' b = some o)
    (r : EntR CE H' (lN :: lF :: M) a E') : SessAt CE CS CO M H' p n f lN lF aN aF (S.withStore far { S.store far with entries := (S.store far).entries.set j E' }) := by
  obtain ⟨dx, e⟩ := x.ob
  obtain ⟨da, fa, q⟩ := (x.pick far).isIns (List.mem_of_getElem? hj)
  have hp := k _ _ e (ins_ne q e eO).symm
  cases far with
  | false =>
    exact ⟨⟨dx, hp⟩, x.near.entry eS hj k r, x.far.offE eS q (x.dis a (List.mem_of_getElem? hj)) k, x.nf, x.ll, x.dis, tr_of x.tr (none_of_keep k (let ⟨_, _, q⟩ := r.ins; ⟨_, q⟩))⟩
  | true =>
    exact ⟨⟨dx, hp⟩, x.near.offE eS q (fun z => x.dis a z (List.mem_of_getElem? hj)) k, x.far.entry eS hj k r, x.nf, x.ll, x.dis, tr_of x.tr (none_of_keep k (let ⟨_, _, q⟩ := r.ins; ⟨_, q⟩))⟩
section
variable {P : Program} {w : World} {K : PySem.W.Frag} {mg : Str → Option Value} {base : Heap} {CE CS CO : Addr} {M : List Addr}
abbrev s_Session_do : Stmt := inClass (top 43) 6
theorem sc_Session_do : FnScope ["self", "tool", "given", "place"] ["self", "tool", "given"] (defScope s_Session_do) := ⟨rfl, rfl, rfl, by decide +kernel, rfl, by decide +kernel, by decide +kernel⟩
abbrev s_Session_cut : Stmt := inClass (top 43) 12
theorem sc_Session_cut : FnScope ["self", "number", "tool", "n", "given", "store", "place", "entry"] ["self", "number", "tool", "n", "given"] (defScope s_Session_cut) := ⟨rfl, rfl, rfl, by decide +kernel, rfl, by decide +kernel, by decide +kernel⟩
def sp_do (K : PySem.W.Frag) (CE CS CO : Addr) (M : List Addr) : Sp := fun vs H Q _ => ∃ (F : Addr → Prop) (p : Addr) (S : Vabldj.State) (t : Int) (a : Addr) (ns : List Int), vs = [.ref p, .int t, .ref a] ∧ actionR t ns = 0 ∧ Sess CE CS CO M H p F S ∧ Bd S ∧ Keys S.near.entries ∧ Keys S.far.entries ∧ SqL K H a (ns.map V.int) ∧ ¬ F a ∧
  Post CE CS CO M H F p (Vabldj.step S (.do_ t ns)).1 (VabldjNeutral.encode (Vabldj.step S (.do_ t ns)).2) Q
theorem ok_do (T : Txt K mg CE CS CO) (D : DefM K CO "do" "Session.do" s_Session_do ["self", "tool", "given"]) (m_Session_whole_place : PromM P w K mg base 3 CO "whole_place" ["self", "store", "tool", "given"] (sp_whole_place K CE CS CO M))
    (m_Session_answer_from_near : PromM P w K mg base 3 CO "answer_from_near" ["self", "place"] (sp_from_near CE CS CO M)) (m_Session_answer_from_far : PromM P w K mg base 6 CO "answer_from_far" ["self", "place"] (sp_from_far CE CS CO M))
    (m_Session_work : PromM P w K mg base 6 CO "work" ["self", "tool", "given"] (sp_work K CE CS CO M)) : PromM P w K mg base 7 CO "do" ["self", "tool", "given"] (sp_do K CE CS CO M) := by
  have sc := sc_Session_do
  refine D.prom sc (fun vs H Q E h => ?_) (fun f cdv A outer s H vs Q E hr h => ?_)
  · obtain ⟨F, p, S, t, a, ns, rfl, _⟩ := h
    rfl
  · obtain ⟨F, p, S, t, a, ns, rfl, c', x, bd, kN, kF, ha, na, k⟩ := h
    refine ⟨_, (pss_cons (ps_set (i := 3) sc.nd rfl (Or.inl rfl) (pe_methP m_Session_whole_place T.c_Session (hr.mono (by decide)) (pv 0) (pa_cons (pe_fld (pv 0) rfl) (pa_cons (pv 1) (pa_cons (pv 2) pa_nil)))))
      (pss_cons (ps_if (pt_cmpR op_ne (pv 3) (pe_gi T.g_NOWHERE) (nomark _)) (pss_one (ps_ret (pe_methP m_Session_answer_from_near T.c_Session (hr.mono (by decide)) (pv 0) (pa_cons (pv 3) pa_nil)))) pss_nil)
      (pss_cons (ps_if (pt_val (pe_fld (pv 0) rfl)) (pss_cons (ps_set (i := 3) sc.nd rfl (Or.inl rfl) (pe_methP m_Session_whole_place T.c_Session (hr.mono (by decide)) (pv 0) (pa_cons (pe_fld (pv 0) rfl) (pa_cons (pv 1) (pa_cons (pv 2) pa_nil)))))
      (pss_one (ps_if (pt_cmpR op_ne (pv 3) (pe_gi T.g_NOWHERE) (nomark _)) (pss_one (ps_ret (pe_methP m_Session_answer_from_far T.c_Session (hr.mono (by decide)) (pv 0) (pa_cons (pv 3) pa_nil)))) pss_nil))) pss_nil)
      (pss_one (ps_ret (pe_methP m_Session_work T.c_Session (hr.mono (by decide)) (pv 0) (pa_cons (pv 1) (pa_cons (pv 2) pa_nil)))))))), ?_⟩
    have es : Vabldj.step S (.do_ t ns) = Vabldj.done (Vabldj.doIt S t.toNat (ns.map fun n => n.toNat)) := onAction_ok c'
    rw [es] at k
    obtain ⟨ct, ci⟩ := actionR_0 c'
    obtain ⟨_, t0, t5⟩ := toolOf_ok ct
    obtain ⟨_, hlen, hz⟩ := inputOf_ok ci
    generalize em : (ns.map fun n => n.toNat) = m at k hz
    obtain ⟨u, rfl⟩ : ∃ u : Nat, t = (u : Int) := ⟨t.toNat, by omega⟩
    have e0 : ((u : Int)).toNat = u := rfl
    rw [e0] at k
    have hml : m.length ≤ 64 := by rw [← em, List.length_map]; exact hlen
    have ha' : SqL K H a (vI m) := by
      unfold vI
      rw [hz]
      exact ha
    obtain ⟨n, f, lN, lF, aN, aF, y, rfl⟩ := x
    obtain ⟨dx, ob⟩ := y.ob
    -- place = self.whole_place(self.near, tool, given)
    refine ⟨_, rfl, p, dx, _, rfl, ob, oF_no _ _ _ _ (by decide +kernel), _, rfl, p, CO, dx, _, _, rfl, ob, T.c_Session, T.o_near, oF_near _ _ _, _, rfl, _, rfl, p, n, f, lN, lF, aN, aF, S, false, u, a, m, rfl, y, Nat.le_trans bd.1 (by decide), kN, ha', fun H1 as1 y1 sub1 fr1 => ?_⟩
    have x1 : Ext (Own p n f lN lF aN aF) H (Own p n f lN lF as1 aF) H1 := ext_store false y1 (fun b v q h1 _ h3 => fr1 b v q h1 h3) fun c hc => .inl (sub1 c hc)
    have a1 : SqL K H1 a (vI m) := seq_ext ha' fun v q => x1.keep a v q na
    have na1 : ¬ Own p n f lN lF as1 aF a := fun z => by
      rcases z with h | h | h | h | h | h | h
      · exact na (.inl h)
      · exact na (.inr (.inl h))
      · exact na (.inr (.inr (.inl h)))
      · exact na (.inr (.inr (.inr (.inl h))))
      · exact na (.inr (.inr (.inr (.inr (.inl h)))))
      · exact na (.inr (.inr (.inr (.inr (.inr (.inl (sub1 a h)))))))
      · exact na (.inr (.inr (.inr (.inr (.inr (.inr h))))))
    have w1 := wpS_near S u m
    rcases wpS_cases false S u m with ⟨E, j, hf, hw, e, hj, hfor⟩ | ⟨e, hc⟩
    · -- answered from near
      have ed := do_near kN hf hw hj hfor
      rw [ed] at k
      rw [e] at y1 ⊢
      refine ⟨_, rfl, rfl, _, rfl, ite2 (fun c => ?_) (fun c => absurd (by simp) c)⟩
      obtain ⟨d1, ob1⟩ := y1.ob
      refine ⟨_, rfl, p, d1, _, rfl, ob1, oF_no _ _ _ _ (by decide +kernel), _, rfl, p, n, f, lN, lF, as1, aF, S, j, E, rfl, y1, hj, Nat.le_trans bd.1 (by decide), fun H2 F2 r sx xx hr hl => k H2 F2 r sx (x1.trans xx) (x1.new r hr) hl⟩
    · rw [do_ask hc] at k
      rw [e]
      refine ⟨_, rfl, rfl, _, rfl, ite2 (fun c => absurd c (by decide)) (fun c => ?_)⟩
      generalize eS1 : (wpS false S u m).1 = S1 at k y1 w1
      obtain ⟨d1, ob1⟩ := y1.ob
      -- if self.far_is_there
      refine ⟨_, rfl, p, CO, d1, _, _, rfl, ob1, T.c_Session, T.o_far_is_there, oF_there _ _ _, _, rfl, ite2 (fun c2 => ?_) (fun c2 => ?_)⟩
      · refine ⟨_, rfl, p, d1, _, rfl, ob1, oF_no _ _ _ _ (by decide +kernel), _, rfl, p, CO, d1, _, _, rfl, ob1, T.c_Session, T.o_far, oF_far _ _ _, _, rfl, _, rfl, p, n, f, lN, lF, as1, aF, S1, true, u, a, m, rfl, y1, ?_, ?_, a1, fun H2 as2 y2 sub2 fr2 => ?_⟩
        · show S1.far.entries.length ≤ 2000
          rw [w1.1]
          exact Nat.le_trans bd.2 (by decide)
        · show Keys S1.far.entries
          rw [w1.1]
          exact kF
        have x2 : Ext (Own p n f lN lF as1 aF) H1 (Own p n f lN lF as1 as2) H2 := ext_store true y2 (fun b v q h1 _ h3 => fr2 b v q h1 h3) fun c hc => .inl (sub2 c hc)
        have x12 := x1.trans x2
        have a2 : SqL K H2 a (vI m) := seq_ext a1 fun v q => x2.keep a v q na1
        have w2 := wpS_far S1 u m
        rcases wpS_cases true S1 u m with ⟨E, j, hf, hw, e2, hj, hfor⟩ | ⟨e2, hc2⟩
        · have ed := ask_far c2 hf hw
          rw [ed] at k
          rw [e2] at y2 ⊢
          refine ⟨_, rfl, rfl, _, rfl, ite2 (fun c => ?_) (fun c => absurd (by simp) c)⟩
          obtain ⟨d2, ob2⟩ := y2.ob
          refine ⟨_, rfl, p, d2, _, rfl, ob2, oF_no _ _ _ _ (by decide +kernel), _, rfl, p, n, f, lN, lF, as1, as2, S1, j, E, rfl, y2, hj, hw, Nat.le_trans w1.2.2 (Nat.le_trans bd.1 (by decide)), fun H3 F3 r sx xx hr hl => k H3 F3 r sx (x12.trans xx) (x12.new r hr) hl⟩
        · rw [ask_work c2 hc2] at k
          rw [e2]
          refine ⟨_, rfl, rfl, _, rfl, ite2 (fun c => absurd c (by decide)) (fun c => ?_)⟩
          generalize eS2 : (wpS true S1 u m).1 = S2 at k y2 w2
          obtain ⟨d2, ob2⟩ := y2.ob
          have na2 : ¬ Own p n f lN lF as1 as2 a := fun z => by
            rcases z with h | h | h | h | h | h | h
            · exact na1 (.inl h)
            · exact na1 (.inr (.inl h))
            · exact na1 (.inr (.inr (.inl h)))
            · exact na1 (.inr (.inr (.inr (.inl h))))
            · exact na1 (.inr (.inr (.inr (.inr (.inl h)))))
            · exact na1 (.inr (.inr (.inr (.inr (.inr (.inl h))))))
            · exact na1 (.inr (.inr (.inr (.inr (.inr (.inr (sub2 a h)))))))
          refine ⟨_, rfl, p, d2, _, rfl, ob2, oF_no _ _ _ _ (by decide +kernel), _, rfl, _, rfl, p, n, f, lN, lF, as1, as2, S2, u, a, m, rfl, y2, ?_, ?_, by omega, hml, a2, na2, fun H3 F3 r sx xx hr hl => k H3 F3 r sx (x12.trans xx) (x12.new r hr) hl⟩
          · rw [w2.1]
            exact Nat.le_trans w1.2.2 (Nat.le_trans bd.1 (by decide))
          · refine Nat.le_trans w2.2.2 ?_
            rw [w1.1]
            exact Nat.le_trans bd.2 (by decide)
      · rw [ask_not c2] at k
        refine ⟨_, rfl, p, d1, _, rfl, ob1, oF_no _ _ _ _ (by decide +kernel), _, rfl, _, rfl, p, n, f, lN, lF, as1, aF, S1, u, a, m, rfl, y1, Nat.le_trans w1.2.2 (Nat.le_trans bd.1 (by decide)), ?_, by omega, hml, a1, na1, fun H3 F3 r sx xx hr hl => k H3 F3 r sx (x1.trans xx) (x1.new r hr) hl⟩
        rw [w1.1]
        exact Nat.le_trans bd.2 (by decide)
def sp_cut (K : PySem.W.Frag) (CE CS CO : Addr) (M : List Addr) : Sp := fun vs H Q _ => ∃ (F : Addr → Prop) (p : Addr) (S : Vabldj.State) (v t m : Int) (a : Addr) (ns : List Int), vs = [.ref p, .int v, .int t, .int m, .ref a] ∧ ((v = 0 ∨ v = 1) ∧ actionR t ns = 0) ∧ Sess CE CS CO M H p F S ∧ Keys S.near.entries ∧ Keys S.far.entries ∧ SqL K H a (ns.map V.int) ∧
  Post CE CS CO M H F p (Vabldj.step S (.cut v t m ns)).1 (VabldjNeutral.encode (Vabldj.step S (.cut v t m ns)).2) Q
theorem keys_pick {S : Vabldj.State} (a : Keys S.near.entries) (b : Keys S.far.entries) (far : Bool) : Keys (S.store far).entries := by
  cases far with
  | false => exact a
  | true => exact b
theorem ok_cut (T : Txt K mg CE CS CO) (D : DefM K CO "cut" "Session.cut" s_Session_cut ["self", "number", "tool", "n", "given"])
    (m_Session_store_of : PromM P w K mg base 1 CO "store_of" ["self", "number"] (sp_Session_store_of CO)) (m_Store_place_of : PromM P w K mg base 2 CS "place_of" ["self", "tool", "given"] (sp_Store_place_of K CE CS))
    (m_Entry_cut_to : PromM P w K mg base 1 CE "cut_to" ["self", "n"] (sp_Entry_cut_to CE)) : PromM P w K mg base 3 CO "cut" ["self", "number", "tool", "n", "given"] (sp_cut K CE CS CO M) := by
  have sc := sc_Session_cut
  refine D.prom sc (fun vs H Q E h => ?_) (fun f cdv A outer s H vs Q E hr h => ?_)
  · obtain ⟨F, p, S, v, t, m, a, ns, rfl, _⟩ := h
    rfl
  · obtain ⟨F, p, S, v, t, m, a, ns, rfl, ⟨cv, ca⟩, x, kN, kF, ha, k⟩ := h
    refine ⟨_, (pss_cons (ps_set (i := 5) sc.nd rfl (Or.inl rfl) (pe_methP m_Session_store_of T.c_Session (hr.mono (by decide)) (pv 0) (pa_cons (pv 1) pa_nil)))
      (pss_cons (ps_set (i := 6) sc.nd rfl (Or.inl rfl) (pe_methP m_Store_place_of T.c_Store (hr.mono (by decide)) (pv 5) (pa_cons (pv 2) (pa_cons (pv 4) pa_nil))))
      (pss_cons (ps_if (pt_cmpR op_eq (pv 6) (pe_gi T.g_NOWHERE) (nomark _)) (pss_one (ps_ret (pe_lst (pa_cons (pe_gi T.g_ABSENT) pa_nil)))) pss_nil)
      (pss_cons (ps_set (i := 7) sc.nd rfl (Or.inl rfl) (pe_ix ix_list (pe_fld (pv 5) rfl) (pv 6) (fun _ _ => rfl)))
      (pss_cons (ps_if (PW.pt (pw_or (pt_cmpR op_lt (pv 3) pe_int (nomark _)) (pw_or1 (pt_cmpR op_gt (pv 3) (pe_callB call_len_seq rfl T.n_len PySem.boot_len (pa_cons (pe_fld (pv 7) rfl) pa_nil)) (nomark _))))) (pss_one (ps_ret (pe_lst (pa_cons (pe_gi T.g_LIMIT) pa_nil)))) pss_nil)
      (pss_cons (ps_expr (pe_methP m_Entry_cut_to T.c_Entry (hr.mono (by decide)) (pv 7) (pa_cons (pv 3) pa_nil)))
      (pss_one (ps_ret (pe_lst (pa_cons pe_int pa_nil)))))))))), ?_⟩
    have es' : Vabldj.step S (.cut v t m ns) = Vabldj.cutIt S (decide (v = 1)) m t.toNat (ns.map fun n => n.toNat) := stored_ok (f := fun far x i => Vabldj.cutIt S far m x i) cv ca
    rw [es'] at k
    obtain ⟨ct, ci⟩ := actionR_0 ca
    obtain ⟨_, t0, t5⟩ := toolOf_ok ct
    obtain ⟨_, hlen, hz⟩ := inputOf_ok ci
    generalize em : (ns.map fun n => n.toNat) = i at k hz
    obtain ⟨u, rfl⟩ : ∃ u : Nat, t = (u : Int) := ⟨t.toNat, by omega⟩
    have e0 : ((u : Int)).toNat = u := rfl
    rw [e0] at k
    have ha' : SqL K H a (vI i) := by
      unfold vI
      rw [hz]
      exact ha
    obtain ⟨n, f, lN, lF, aN, aF, y, rfl⟩ := x
    obtain ⟨dx, ob⟩ := y.ob
    refine ⟨_, rfl, p, dx, _, rfl, ob, oF_no _ _ _ _ (by decide +kernel), _, rfl, p, dx, n, f, S, v, rfl, ob, ?_⟩
    rw [pick_of cv]
    generalize decide (v = 1) = far at k ⊢
    have keys := keys_pick kN kF far
    obtain ⟨ds, eo⟩ := (y.pick far).ob
    refine ⟨_, rfl, pick far n f, ds, _, rfl, eo, sf_place_of _ _, _, rfl, _, rfl, (lN :: lF :: M), _, _, _, S.store far, u, a, i, rfl, y.pick far, ha', fun H1 s1 => ?_⟩
    have y1 := y.same s1
    have x1 : Ext (Own p n f lN lF aN aF) H (Own p n f lN lF aN aF) H1 := Ext.of_same s1
    have st1 := y1.pick far
    cases hf : (S.store far).entries.find? (fun e => e.isFor u i) with
    | none =>
      have ec : Vabldj.cutIt S far m u i = (S, Vabldj.no Vabldj.ABSENT) := by
        unfold Vabldj.cutIt Vabldj.find
        rw [hf]
      rw [ec] at k
      rw [place_none hf]
      refine ⟨_, rfl, rfl, _, rfl, ite2 (fun c => ⟨by show 1 ≤ sizeLine; decide, fun r hr => ?_⟩) (fun c => absurd (by decide) c)⟩
      exact k.ret ⟨n, f, lN, lF, aN, aF, y1, rfl⟩ x1 hr
    | some E =>
      obtain ⟨j, ep, hj, _, hfor, _⟩ := place_some hf
      rw [ep]
      obtain ⟨b, hb, r⟩ := pd_get2 st1.ents hj
      obtain ⟨ok, g, h, at1, ng, nh⟩ := id r
      obtain ⟨⟨db, hbo⟩, hg, hh⟩ := id at1
      obtain ⟨d1, e1⟩ := st1.ob
      refine ⟨_, rfl, rfl, _, rfl, ite2 (fun c => absurd c (by simp)) (fun c => ?_)⟩
      refine ⟨_, rfl, pick far n f, CS, d1, _, _, rfl, e1, T.c_Store, T.s_entries, sf_entries _ _, _, rfl, pick far lN lF, _, _, V.ref b, rfl, rfl, SqL.of st1.ls, atI_nat (by rw [List.getElem?_map, hb]; rfl), ?_⟩
      dsimp only
      refine sif_or (decide (m < 0)) (decide (((vI E.bytes).length : Int) < m)) (fun Q h => ⟨_, rfl, _, _, rfl, rfl, _, rfl, h⟩) (fun _ Q h => ⟨_, rfl, _, rfl, b, CE, db, _, _, rfl, hbo, T.c_Entry, T.e_held, ef_held _ _ _ _ _, _, _, rfl, .inl (SqL.of hh), _, _, rfl, rfl, _, rfl, h⟩) ?_
      refine ite2 (fun c2 => ?_) (fun c2 => ?_)
      · have c3 : m < 0 ∨ (E.bytes.length : Int) < m := by
          rw [vI_length] at c2
          simpa using c2
        have ec : Vabldj.cutIt S far m u i = (S, Vabldj.no Vabldj.LIMIT) := by
          unfold Vabldj.cutIt Vabldj.find
          rw [hf]
          show (if m < 0 ∨ (E.bytes.length : Int) < m then _ else _) = _
          rw [if_pos c3]
        rw [ec] at k
        exact ⟨by show 1 ≤ sizeLine; decide, fun r hr => k.ret ⟨n, f, lN, lF, aN, aF, y1, rfl⟩ x1 hr⟩
      · have c3 : ¬ (m < 0 ∨ (E.bytes.length : Int) < m) := by
          rw [vI_length] at c2
          simpa using c2
        obtain ⟨z, rfl⟩ : ∃ z : Nat, m = (z : Int) := ⟨m.toNat, by omega⟩
        have ec : Vabldj.cutIt S far (z : Int) u i = (S.withStore far { S.store far with entries := (S.store far).entries.set j { E with bytes := E.bytes.take z } }, Vabldj.told 0 []) := by
          unfold Vabldj.cutIt Vabldj.find
          rw [hf]
          show (if ((z : Nat) : Int) < 0 ∨ (E.bytes.length : Int) < ((z : Nat) : Int) then _ else _) = _
          rw [if_neg c3]
          rw [show ((z : Int)).toNat = z from rfl, map_set (fun x => { x with bytes := x.bytes.take z }) keys hj hfor]
        rw [ec] at k
        refine ⟨_, rfl, b, db, _, rfl, hbo, ef_cut_to _ _ _ _ _, _, rfl, b, g, h, E, z, rfl, at1, fun H2 h' at2 hh' fr2 => ?_⟩
        have nh' : h' ∉ (lN :: lF :: M) := fun q => by
          rcases List.mem_cons.mp q with q | q
          · have := y1.near.ls
            rw [← q, hh'] at this
            cases this
          · rcases List.mem_cons.mp q with q | q
            · have := y1.far.ls
              rw [← q, hh'] at this
              cases this
            · obtain ⟨o, e⟩ := y1.tr h' q
              rw [hh'] at e
              cases e
        have ok' : EntOk { E with bytes := E.bytes.take z } := ⟨ok.1, ok.2.1, by
          show (E.bytes.take z).length ≤ E.length
          rw [List.length_take]
          exact Nat.le_trans (Nat.min_le_right _ _) ok.2.2⟩
        have y2 := y1.entry T.eS T.eO far hb fr2 ⟨ok', g, h', at2, ng, nh'⟩
        have hbm : b ∈ aN ∨ b ∈ aF := by
          have := List.mem_of_getElem? hb
          cases far with
          | false => exact .inl this
          | true => exact .inr this
        obtain ⟨⟨db2, hbo2⟩, _⟩ := at2
        have x2 : Ext (Own p n f lN lF aN aF) H1 (Own p n f lN lF aN aF) H2 := by
          refine ext_of (fun c o q _ _ _ _ _ h6 h7 => fr2 c o q fun z => ?_) (fun _ h => .inl h) (fun _ h => .inl h) (none_of_keep fr2 ⟨_, hbo2⟩)
          rcases hbm with q | q
          · exact h6 (z ▸ q)
          · exact h7 (z ▸ q)
        exact ⟨by show 1 ≤ sizeLine; decide, fun r hr => k.ret ⟨n, f, lN, lF, aN, aF, y2, rfl⟩ (x1.trans x2) hr⟩
end
end Ac

set_option Elab.async false
set_option linter.all false
set_option maxRecDepth 100000
set_option maxHeartbeats 4000000
namespace Ac
open PySem PySem.Spec PyProof.Rows L2
/-! ### forget, clean, share, has, list -/
section
variable {P : Program} {w : World} {K : PySem.W.Frag} {mg : Str → Option Value} {base : Heap} {CE CS CO : Addr} {M : List Addr}
abbrev s_Session_forget : Stmt := inClass (top 43) 13
theorem sc_Session_forget : FnScope ["self", "number", "tool", "given", "store", "place"] ["self", "number", "tool", "given"] (defScope s_Session_forget) := ⟨rfl, rfl, rfl, by decide +kernel, rfl, by decide +kernel, by decide +kernel⟩
abbrev s_Session_clean : Stmt := inClass (top 43) 14
theorem sc_Session_clean : FnScope ["self", "number", "taken"] ["self", "number"] (defScope s_Session_clean) := ⟨rfl, rfl, rfl, by decide +kernel, rfl, by decide +kernel, by decide +kernel⟩
abbrev s_Session_share : Stmt := inClass (top 43) 15
theorem sc_Session_share : FnScope ["self", "sent", "entry"] ["self"] (defScope s_Session_share) := ⟨rfl, rfl, rfl, by decide +kernel, rfl, by decide +kernel, by decide +kernel⟩
abbrev s_Session_has : Stmt := inClass (top 43) 16
theorem sc_Session_has : FnScope ["self", "number", "tool", "given", "store", "place"] ["self", "number", "tool", "given"] (defScope s_Session_has) := ⟨rfl, rfl, rfl, by decide +kernel, rfl, by decide +kernel, by decide +kernel⟩
abbrev s_Session_list_entries : Stmt := inClass (top 43) 17
theorem sc_Session_list_entries : FnScope ["self", "number", "told", "entry"] ["self", "number"] (defScope s_Session_list_entries) := ⟨rfl, rfl, rfl, by decide +kernel, rfl, by decide +kernel, by decide +kernel⟩
def sp_forget (K : PySem.W.Frag) (CE CS CO : Addr) (M : List Addr) : Sp := fun vs H Q _ => ∃ (F : Addr → Prop) (p : Addr) (S : Vabldj.State) (v t : Int) (a : Addr) (ns : List Int), vs = [.ref p, .int v, .int t, .ref a] ∧ ((v = 0 ∨ v = 1) ∧ actionR t ns = 0) ∧ Sess CE CS CO M H p F S ∧ Bd S ∧ Keys S.near.entries ∧ Keys S.far.entries ∧ SqL K H a (ns.map V.int) ∧
  Post CE CS CO M H F p (Vabldj.step S (.forget v t ns)).1 (VabldjNeutral.encode (Vabldj.step S (.forget v t ns)).2) Q
theorem ok_forget (T : Txt K mg CE CS CO) (D : DefM K CO "forget" "Session.forget" s_Session_forget ["self", "number", "tool", "given"])
    (m_Session_store_of : PromM P w K mg base 1 CO "store_of" ["self", "number"] (sp_Session_store_of CO)) (m_Store_place_of : PromM P w K mg base 2 CS "place_of" ["self", "tool", "given"] (sp_Store_place_of K CE CS))
    (m_Store_take_out : PromM P w K mg base 1 CS "take_out" ["self", "place"] (sp_Store_take_out CE CS)) : PromM P w K mg base 3 CO "forget" ["self", "number", "tool", "given"] (sp_forget K CE CS CO M) := by
  have sc := sc_Session_forget
  refine D.prom sc (fun vs H Q E h => ?_) (fun f cdv A outer s H vs Q E hr h => ?_)
  · obtain ⟨F, p, S, v, t, a, ns, rfl, _⟩ := h
    rfl
  · obtain ⟨F, p, S, v, t, a, ns, rfl, ⟨cv, ca⟩, x, bd, kN, kF, ha, k⟩ := h
    refine ⟨_, (pss_cons (ps_set (i := 4) sc.nd rfl (Or.inl rfl) (pe_methP m_Session_store_of T.c_Session (hr.mono (by decide)) (pv 0) (pa_cons (pv 1) pa_nil)))
      (pss_cons (ps_set (i := 5) sc.nd rfl (Or.inl rfl) (pe_methP m_Store_place_of T.c_Store (hr.mono (by decide)) (pv 4) (pa_cons (pv 2) (pa_cons (pv 3) pa_nil))))
      (pss_cons (ps_if (pt_cmpR op_eq (pv 5) (pe_gi T.g_NOWHERE) (nomark _)) (pss_one (ps_ret (pe_lst (pa_cons (pe_gi T.g_ABSENT) pa_nil)))) pss_nil)
      (pss_cons (ps_expr (pe_methP m_Store_take_out T.c_Store (hr.mono (by decide)) (pv 4) (pa_cons (pv 5) pa_nil)))
      (pss_one (ps_ret (pe_lst (pa_cons pe_int pa_nil)))))))), ?_⟩
    have es' : Vabldj.step S (.forget v t ns) = Vabldj.forgetIt S (decide (v = 1)) t.toNat (ns.map fun n => n.toNat) := stored_ok (f := fun far x i => Vabldj.forgetIt S far x i) cv ca
    rw [es'] at k
    obtain ⟨ct, ci⟩ := actionR_0 ca
    obtain ⟨_, t0, t5⟩ := toolOf_ok ct
    obtain ⟨_, hlen, hz⟩ := inputOf_ok ci
    generalize em : (ns.map fun n => n.toNat) = i at k hz
    obtain ⟨u, rfl⟩ : ∃ u : Nat, t = (u : Int) := ⟨t.toNat, by omega⟩
    have e0 : ((u : Int)).toNat = u := rfl
    rw [e0] at k
    have ha' : SqL K H a (vI i) := by
      unfold vI
      rw [hz]
      exact ha
    obtain ⟨n, f, lN, lF, aN, aF, y, rfl⟩ := x
    obtain ⟨dx, ob⟩ := y.ob
    refine ⟨_, rfl, p, dx, _, rfl, ob, oF_no _ _ _ _ (by decide +kernel), _, rfl, p, dx, n, f, S, v, rfl, ob, ?_⟩
    rw [pick_of cv]
    generalize decide (v = 1) = far at k ⊢
    have keys := keys_pick kN kF far
    obtain ⟨ds, eo⟩ := (y.pick far).ob
    refine ⟨_, rfl, pick far n f, ds, _, rfl, eo, sf_place_of _ _, _, rfl, _, rfl, (lN :: lF :: M), _, _, _, S.store far, u, a, i, rfl, y.pick far, ha', fun H1 s1 => ?_⟩
    have y1 := y.same s1
    have x1 : Ext (Own p n f lN lF aN aF) H (Own p n f lN lF aN aF) H1 := Ext.of_same s1
    have st1 := y1.pick far
    cases hf : (S.store far).entries.find? (fun e => e.isFor u i) with
    | none =>
      have ec : Vabldj.forgetIt S far u i = (S, Vabldj.no Vabldj.ABSENT) := by
        unfold Vabldj.forgetIt Vabldj.find
        rw [hf]
      rw [ec] at k
      rw [place_none hf]
      refine ⟨_, rfl, rfl, _, rfl, ite2 (fun c => ⟨by show 1 ≤ sizeLine; decide, fun r hr => ?_⟩) (fun c => absurd (by decide) c)⟩
      exact k.ret ⟨n, f, lN, lF, aN, aF, y1, rfl⟩ x1 hr
    | some E =>
      obtain ⟨j, ep, hj, _, hfor, _⟩ := place_some hf
      rw [ep]
      obtain ⟨b, hb, r⟩ := pd_get2 st1.ents hj
      obtain ⟨d1, e1⟩ := st1.ob
      have ec : Vabldj.forgetIt S far u i = (S.withStore far { S.store far with entries := (S.store far).entries.eraseIdx j }, Vabldj.told 0 []) := by
        unfold Vabldj.forgetIt Vabldj.find
        rw [hf]
        show (S.withStore far (Vabldj.without (S.store far) u i), Vabldj.told 0 []) = _
        unfold Vabldj.without
        rw [without_erase keys hj hfor]
      rw [ec] at k
      refine ⟨_, rfl, rfl, _, rfl, ite2 (fun c => absurd c (by simp)) (fun c => ?_)⟩
      refine ⟨_, rfl, pick far n f, d1, _, rfl, e1, sf_take_out _ _, _, rfl, (lN :: lF :: M), _, _, _, S.store far, j, b, rfl, st1, hb, Nat.le_trans (bd.store far) (by decide), fun H2 st2 fr2 => ?_⟩
      have y2 := y1.store far st2 fr2 fun c hc => .inl (List.mem_of_mem_eraseIdx hc)
      refine ⟨by show 1 ≤ sizeLine; decide, fun r hr => ?_⟩
      exact k.ret ⟨n, f, lN, lF, _, _, y2, rfl⟩ (x1.trans (ext_store far y2 (fun b o e _ _ h3 => fr2 b o e h3) fun c hc => .inl (List.mem_of_mem_eraseIdx hc))) hr
def sp_has (K : PySem.W.Frag) (CE CS CO : Addr) (M : List Addr) : Sp := fun vs H Q _ => ∃ (F : Addr → Prop) (p : Addr) (S : Vabldj.State) (v t : Int) (a : Addr) (ns : List Int), vs = [.ref p, .int v, .int t, .ref a] ∧ ((v = 0 ∨ v = 1) ∧ actionR t ns = 0) ∧ Sess CE CS CO M H p F S ∧ SqL K H a (ns.map V.int) ∧
  Post CE CS CO M H F p (Vabldj.step S (.has v t ns)).1 (VabldjNeutral.encode (Vabldj.step S (.has v t ns)).2) Q
theorem ok_has (T : Txt K mg CE CS CO) (D : DefM K CO "has" "Session.has" s_Session_has ["self", "number", "tool", "given"])
    (m_Session_store_of : PromM P w K mg base 1 CO "store_of" ["self", "number"] (sp_Session_store_of CO)) (m_Store_place_of : PromM P w K mg base 2 CS "place_of" ["self", "tool", "given"] (sp_Store_place_of K CE CS))
    (m_Entry_is_whole : PromM P w K mg base 1 CE "is_whole" ["self"] (sp_Entry_is_whole CE)) : PromM P w K mg base 3 CO "has" ["self", "number", "tool", "given"] (sp_has K CE CS CO M) := by
  have sc := sc_Session_has
  refine D.prom sc (fun vs H Q E h => ?_) (fun f cdv A outer s H vs Q E hr h => ?_)
  · obtain ⟨F, p, S, v, t, a, ns, rfl, _⟩ := h
    rfl
  · obtain ⟨F, p, S, v, t, a, ns, rfl, ⟨cv, ca⟩, x, ha, k⟩ := h
    refine ⟨_, (pss_cons (ps_set (i := 4) sc.nd rfl (Or.inl rfl) (pe_methP m_Session_store_of T.c_Session (hr.mono (by decide)) (pv 0) (pa_cons (pv 1) pa_nil)))
      (pss_cons (ps_set (i := 5) sc.nd rfl (Or.inl rfl) (pe_methP m_Store_place_of T.c_Store (hr.mono (by decide)) (pv 4) (pa_cons (pv 2) (pa_cons (pv 3) pa_nil))))
      (pss_cons (ps_if (pt_cmpR op_eq (pv 5) (pe_gi T.g_NOWHERE) (nomark _)) (pss_one (ps_ret (pe_lst (pa_cons (pe_gi T.g_HAS_NONE) pa_nil)))) pss_nil)
      (pss_one (ps_ret (pe_lst (pa_cons (pe_ifExp (pt_val (pe_methP0 m_Entry_is_whole T.c_Entry (hr.mono (by decide)) (pe_ix ix_list (pe_fld (pv 4) rfl) (pv 5) (fun _ _ => rfl)))) (pe_gi T.g_HAS_WHOLE) (pe_gi T.g_HAS_CUT)) (pa_cons (pv 5) pa_nil)))))))), ?_⟩
    have es' : Vabldj.step S (.has v t ns) = (S, Vabldj.hasIt S (decide (v = 1)) t.toNat (ns.map fun n => n.toNat)) := stored_ok (f := fun far x i => (S, Vabldj.hasIt S far x i)) cv ca
    rw [es'] at k
    obtain ⟨ct, ci⟩ := actionR_0 ca
    obtain ⟨_, t0, t5⟩ := toolOf_ok ct
    obtain ⟨_, hlen, hz⟩ := inputOf_ok ci
    generalize em : (ns.map fun n => n.toNat) = i at k hz
    obtain ⟨u, rfl⟩ : ∃ u : Nat, t = (u : Int) := ⟨t.toNat, by omega⟩
    have e0 : ((u : Int)).toNat = u := rfl
    rw [e0] at k
    have ha' : SqL K H a (vI i) := by
      unfold vI
      rw [hz]
      exact ha
    obtain ⟨n, f, lN, lF, aN, aF, y, rfl⟩ := x
    obtain ⟨dx, ob⟩ := y.ob
    refine ⟨_, rfl, p, dx, _, rfl, ob, oF_no _ _ _ _ (by decide +kernel), _, rfl, p, dx, n, f, S, v, rfl, ob, ?_⟩
    rw [pick_of cv]
    generalize decide (v = 1) = far at k ⊢
    obtain ⟨ds, eo⟩ := (y.pick far).ob
    refine ⟨_, rfl, pick far n f, ds, _, rfl, eo, sf_place_of _ _, _, rfl, _, rfl, (lN :: lF :: M), _, _, _, S.store far, u, a, i, rfl, y.pick far, ha', fun H1 s1 => ?_⟩
    have y1 := y.same s1
    have x1 : Ext (Own p n f lN lF aN aF) H (Own p n f lN lF aN aF) H1 := Ext.of_same s1
    have st1 := y1.pick far
    cases hf : (S.store far).entries.find? (fun e => e.isFor u i) with
    | none =>
      have ec : Vabldj.hasIt S far u i = Vabldj.told 0 [] := by
        unfold Vabldj.hasIt Vabldj.find
        dsimp only
        rw [hf]
      rw [ec] at k
      rw [place_none hf]
      refine ⟨_, rfl, rfl, _, rfl, ite2 (fun c => ⟨by show 1 ≤ sizeLine; decide, fun r hr => ?_⟩) (fun c => absurd (by decide) c)⟩
      exact k.ret ⟨n, f, lN, lF, aN, aF, y1, rfl⟩ x1 hr
    | some E =>
      obtain ⟨j, ep, hj, ej, hfor, _⟩ := place_some hf
      rw [ep]
      obtain ⟨b, hb, r⟩ := pd_get2 st1.ents hj
      obtain ⟨_, g, h, at1, _⟩ := id r
      obtain ⟨⟨db, hbo⟩, _⟩ := id at1
      obtain ⟨d1, e1⟩ := st1.ob
      have ec : Vabldj.hasIt S far u i = Vabldj.told (if E.whole then 1 else 2) [j] := by
        unfold Vabldj.hasIt Vabldj.find
        dsimp only
        rw [hf]
        show Vabldj.told (if E.whole then 1 else 2) [(S.store far).entries.findIdx fun x => x.isFor u i] = _
        rw [ej]
      rw [ec] at k
      refine ⟨_, rfl, rfl, _, rfl, ite2 (fun c => absurd c (by simp)) (fun c => ?_)⟩
      refine ⟨_, rfl, pick far n f, CS, d1, _, _, rfl, e1, T.c_Store, T.s_entries, sf_entries _ _, _, rfl, pick far lN lF, _, _, V.ref b, rfl, rfl, SqL.of st1.ls, atI_nat (by rw [List.getElem?_map, hb]; rfl), b, db, _, rfl, hbo, ef_is_whole _ _ _ _ _, b, g, h, E, rfl, at1, _, rfl, ?_⟩
      cases cw : E.whole with
      | true =>
        rw [cw] at k
        exact iteT ⟨_, rfl, by show 2 ≤ sizeLine; decide, fun r hr => k.ret ⟨n, f, lN, lF, aN, aF, y1, rfl⟩ x1 hr⟩
      | false =>
        rw [cw] at k
        exact iteF ⟨_, rfl, by show 2 ≤ sizeLine; decide, fun r hr => k.ret ⟨n, f, lN, lF, aN, aF, y1, rfl⟩ x1 hr⟩
def sp_clean (CE CS CO : Addr) (M : List Addr) : Sp := fun vs H Q _ => ∃ (F : Addr → Prop) (p : Addr) (S : Vabldj.State) (v : Int), vs = [.ref p, .int v] ∧ (v = 0 ∨ v = 1) ∧ Sess CE CS CO M H p F S ∧ Bd S ∧
  Post CE CS CO M H F p (Vabldj.step S (.clean v)).1 (VabldjNeutral.encode (Vabldj.step S (.clean v)).2) Q
theorem ok_clean (T : Txt K mg CE CS CO) (D : DefM K CO "clean" "Session.clean" s_Session_clean ["self", "number"])
    (m_Session_store_of : PromM P w K mg base 1 CO "store_of" ["self", "number"] (sp_Session_store_of CO)) (m_Store_take_out_cut : PromM P w K mg base 2 CS "take_out_cut" ["self"] (sp_Store_take_out_cut CE CS)) :
    PromM P w K mg base 3 CO "clean" ["self", "number"] (sp_clean CE CS CO M) := by
  have sc := sc_Session_clean
  refine D.prom sc (fun vs H Q E h => ?_) (fun f cdv A outer s H vs Q E hr h => ?_)
  · obtain ⟨F, p, S, v, rfl, _⟩ := h
    rfl
  · obtain ⟨F, p, S, v, rfl, cv, x, bd, k⟩ := h
    refine ⟨_, (pss_cons (ps_set (i := 2) sc.nd rfl (Or.inl rfl) (pe_methP0 m_Store_take_out_cut T.c_Store (hr.mono (by decide)) (pe_methP m_Session_store_of T.c_Session (hr.mono (by decide)) (pv 0) (pa_cons (pv 1) pa_nil))))
      (pss_cons (ps_fldaug (pv 0) (pv 2) in_add)
      (pss_one (ps_ret (pe_lst (pa_cons (pv 2) pa_nil)))))), ?_⟩
    have es' : Vabldj.step S (.clean v) = Vabldj.cleaned S (decide (v = 1)) := by
      show Vabldj.onStore S v _ = _
      unfold Vabldj.onStore
      rw [storeOf_of cv]
    rw [es'] at k
    obtain ⟨n, f, lN, lF, aN, aF, y, rfl⟩ := x
    obtain ⟨dx, ob⟩ := y.ob
    refine ⟨_, rfl, p, dx, _, rfl, ob, oF_no _ _ _ _ (by decide +kernel), _, rfl, p, dx, n, f, S, v, rfl, ob, ?_⟩
    rw [pick_of cv]
    generalize decide (v = 1) = far at k ⊢
    have st := y.pick far
    obtain ⟨ds, eo⟩ := st.ob
    generalize ez : (S.store far).entries.length - ((S.store far).entries.filter fun e => e.whole).length = z
    have ec : Vabldj.cleaned S far = ({ S.withStore far { S.store far with entries := (S.store far).entries.filter fun e => e.whole } with spoilt := S.spoilt + z }, Vabldj.told z []) := by
      rw [← ez]
      rfl
    rw [ec] at k
    refine ⟨pick far n f, ds, _, rfl, eo, sf_take_out_cut _ _, (lN :: lF :: M), _, _, _, S.store far, rfl, st, Nat.le_trans (bd.store far) (by decide), fun H1 l' as' ob' hl' h0 sub pr fr => ?_⟩
    rw [ez]
    have y1 := y.relist T.eS T.sO far ob' hl' h0 sub pr fr
    obtain ⟨d1, ob1⟩ := y1.ob
    refine ⟨_, rfl, p, CO, d1, _, _, rfl, ob1, T.c_Session, T.o_spoilt, oF_spoilt _ _ _, _, rfl, _, _, rfl, rfl, d1, _, ob1, (by show 11 < 1000; decide), ?_⟩
    rw [ws, add_nat, put_spoilt]
    refine ⟨_, rfl, by show 1 ≤ sizeLine; decide, fun r hr => ?_⟩
    have fr2 : ∀ c u, H1 c = some u → c ≠ p → (upd H1 p (.ins CO d1 (oF n f { S.withStore far { S.store far with entries := (S.store far).entries.filter fun e => e.whole } with spoilt := S.spoilt + z }))) c = some u := fun c u e hc => by rw [upd_ne hc]; exact e
    have y2 := y1.put (S' := { S.withStore far { S.store far with entries := (S.store far).entries.filter fun e => e.whole } with spoilt := S.spoilt + z }) T.eO T.sO fr2 ⟨d1, upd_same⟩ rfl rfl
    refine k.ret ⟨n, f, _, _, _, _, y2, rfl⟩ (ext_relist far (fun b o e h1 h2 => fr2 b o (fr b o e h2) h1) h0 sub ⟨_, upd_same⟩ ?_) hr
    obtain ⟨d3, o3⟩ := (y2.pick far).ob
    exact ⟨_, o3⟩
def sp_list (CE CS CO : Addr) (M : List Addr) : Sp := fun vs H Q _ => ∃ (F : Addr → Prop) (p : Addr) (S : Vabldj.State) (v : Int), vs = [.ref p, .int v] ∧ (v = 0 ∨ v = 1) ∧ Sess CE CS CO M H p F S ∧ Bd S ∧
  Post CE CS CO M H F p (Vabldj.step S (.list v)).1 (VabldjNeutral.encode (Vabldj.step S (.list v)).2) Q
def lst5 (l : List Vabldj.Entry) : List Nat := l.flatMap fun e => [e.tool, e.status, e.length, e.bytes.length, e.input.length]
theorem lst5_snoc {l : List Vabldj.Entry} {i : Nat} {E : Vabldj.Entry} (h : l[i]? = some E) : lst5 (l.take (i + 1)) = lst5 (l.take i) ++ [E.tool, E.status, E.length, E.bytes.length, E.input.length] := by
  unfold lst5
  rw [take_snoc h, List.flatMap_append]
  congr 1
theorem lst5_len (l : List Vabldj.Entry) : (lst5 l).length = 5 * l.length := flat5 l
theorem ok_list (T : Txt K mg CE CS CO) (D : DefM K CO "list_entries" "Session.list_entries" s_Session_list_entries ["self", "number"])
    (m_Session_store_of : PromM P w K mg base 1 CO "store_of" ["self", "number"] (sp_Session_store_of CO)) (m_Entry_listed : PromM P w K mg base 1 CE "listed" ["self"] (sp_Entry_listed CE)) :
    PromM P w K mg base 2 CO "list_entries" ["self", "number"] (sp_list CE CS CO M) := by
  have sc := sc_Session_list_entries
  refine D.prom sc (fun vs H Q E h => ?_) (fun f cdv A outer s H vs Q E hr h => ?_)
  · obtain ⟨F, p, S, v, rfl, _⟩ := h
    rfl
  · obtain ⟨F, p, S, v, rfl, cv, x, bd, k⟩ := h
    refine ⟨_, (pss_cons (ps_set (i := 2) sc.nd rfl (Or.inl rfl) (pe_lst (pa_cons pe_int pa_nil)))
      (pss_cons (ps_for PassesOwn.never rfl (pi_list (pe_fld (pe_methP m_Session_store_of T.c_Session (hr.mono (by decide)) (pv 0) (pa_cons (pv 1) pa_nil)) rfl)) (pg_name (i := 3) sc.nd rfl (Or.inl rfl)) (pss_one (ps_expr (pe_bm PySem.F.plainAttrs_list PySem.F.slot_list_extend PySem.F.type_list_extend mt_extend (pv 2) (pa_cons (pe_methP0 m_Entry_listed T.c_Entry (hr.mono (by decide)) (pv 3)) pa_nil)))))
      (pss_one (ps_ret (pv 2))))), ?_⟩
    have es' : Vabldj.step S (.list v) = (S, Vabldj.told 0 (lst5 (S.store (decide (v = 1))).entries)) := by
      show Vabldj.onStore S v _ = _
      unfold Vabldj.onStore
      rw [storeOf_of cv]
      rfl
    rw [es'] at k
    have hsz := sizeLine_eq
    obtain ⟨n, f, lN, lF, aN, aF, y, rfl⟩ := x
    obtain ⟨dx, ob⟩ := y.ob
    refine ⟨by show 1 ≤ sizeLine; decide, fun r hr => ?_⟩
    have s1 : Same H (upd H r (.lst [.int 0])) := Same.new hr
    refine ⟨_, rfl, p, dx, _, rfl, s1 _ _ ob, oF_no _ _ _ _ (by decide +kernel), _, rfl, p, dx, n, f, S, v, rfl, s1 _ _ ob, ?_⟩
    rw [pick_of cv]
    generalize decide (v = 1) = far at k ⊢
    have st := y.pick far
    have hln := st.len
    have hbd := bd.store far
    obtain ⟨ds, eo⟩ := st.ob
    refine ⟨pick far n f, CS, ds, _, _, rfl, s1 _ _ eo, T.c_Store, T.s_entries, sf_entries _ _, pick far lN lF, rfl, ⟨_, SqL.of (s1 _ _ st.ls)⟩, for_list (K := K) (a := pick far lN lF) (xs := (pick far aN aF).map V.ref)
      (fun i σ H' => ∃ e : Option V, σ = [some (.ref p), some (.int v), some (.ref r), e] ∧ Same H H' ∧ H' r = some (.lst (vI (0 :: lst5 ((S.store far).entries.take i))))) ⟨none, rfl, s1, upd_same⟩ (fun i σ H' _ ⟨_, _, s2, _⟩ => SqL.of (s2 _ _ st.ls)) ?_ ?_⟩
    · rintro i x σ H1 hx ⟨v0, rfl, s2, hr2⟩
      obtain ⟨a, ha, rfl⟩ : ∃ a, (pick far aN aF)[i]? = some a ∧ x = V.ref a := by
        rw [List.getElem?_map] at hx
        cases e : (pick far aN aF)[i]? with
        | none => rw [e] at hx; cases hx
        | some a => rw [e] at hx; exact ⟨a, rfl, (Option.some.inj hx).symm⟩
      obtain ⟨E, hE, re⟩ := pd_get st.ents ha
      obtain ⟨_, g, h, at1, _⟩ := re.same s2
      obtain ⟨⟨dy, ha1⟩, _⟩ := id at1
      have il : i < (S.store far).entries.length := (List.getElem?_eq_some_iff.mp hE).1
      refine ⟨_, rfl, .inl ⟨rfl, _, SqL.of hr2⟩, _, rfl, a, dy, _, rfl, ha1, ef_listed _ _ _ _ _, a, g, h, E, rfl, at1, fun q hq => ?_⟩
      have rq : r ≠ q := ne_of_none hr2 hq
      refine ⟨r, q, _, _, rfl, rfl, (by rw [upd_ne rq]; exact hr2), upd_same, ?_, _, rfl, ?_, ?_⟩
      · rw [vI_length, vI_length, List.length_cons, lst5_len, List.length_take]
        show _ + 5 ≤ _
        omega
      · intro b o e
        rw [upd_ne (ne_of_none e hr), upd_ne (ne_of_none (s2 _ _ e) hq)]
        exact s2 _ _ e
      · rw [upd_same, lst5_snoc hE, ← vI_append]
        rfl
    · rintro σ H1 ⟨v0, rfl, s2, hr2⟩
      rw [List.length_map, hln, List.take_length] at hr2
      exact ⟨_, rfl, k H1 _ r ⟨n, f, lN, lF, aN, aF, y.same s2, rfl⟩ (Ext.of_same s2) hr hr2⟩
def sp_share (CE CS CO : Addr) (M : List Addr) : Sp := fun vs H Q _ => ∃ (F : Addr → Prop) (p : Addr) (S : Vabldj.State), vs = [.ref p] ∧ Sess CE CS CO M H p F S ∧ StOk S ∧ Post CE CS CO M H F p (Vabldj.step S .share).1 (VabldjNeutral.encode (Vabldj.step S .share).2) Q
/-- what one more makes of the object, its count of the sent aside -/
def un (S : Vabldj.State) (m : Nat) : Vabldj.State := { S with sent := m }
theorem shareOne_near (S : Vabldj.State) (e : Vabldj.Entry) : (Vabldj.shareOne S e).near = S.near := by
  unfold Vabldj.shareOne
  split <;> rfl
theorem shareAll_near : ∀ (l : List Vabldj.Entry) (S : Vabldj.State), (l.foldl Vabldj.shareOne S).near = S.near
  | [], _ => rfl
  | e :: r, S => by rw [List.foldl_cons, shareAll_near r, shareOne_near]
theorem shareOne_sent (S : Vabldj.State) (e : Vabldj.Entry) : S.sent ≤ (Vabldj.shareOne S e).sent := by
  unfold Vabldj.shareOne
  split
  · exact Nat.le_succ _
  · exact Nat.le_refl _
theorem shareAll_sent : ∀ (l : List Vabldj.Entry) (S : Vabldj.State), S.sent ≤ (l.foldl Vabldj.shareOne S).sent
  | [], _ => Nat.le_refl _
  | e :: r, S => by
    rw [List.foldl_cons]
    exact Nat.le_trans (shareOne_sent S e) (shareAll_sent r _)
theorem foldl_snoc {l : List Vabldj.Entry} {i : Nat} {E : Vabldj.Entry} (h : l[i]? = some E) (S : Vabldj.State) : (l.take (i + 1)).foldl Vabldj.shareOne S = Vabldj.shareOne ((l.take i).foldl Vabldj.shareOne S) E := by
  rw [take_snoc h, List.foldl_append]
  rfl
theorem pd_rev {α β : Type} {F : α → β → Prop} : ∀ {xs : List α} {ys : List β}, Paired F xs ys → Paired F xs.reverse ys.reverse
  | _, _, .nil => .nil
  | _, _, .cons r t => by
    rw [List.reverse_cons, List.reverse_cons]
    exact pd_snoc (pd_rev t) r
theorem ok_share (T : Txt K mg CE CS CO) (D : DefM K CO "share" "Session.share" s_Session_share ["self"])
    (m_Entry_is_whole : PromM P w K mg base 1 CE "is_whole" ["self"] (sp_Entry_is_whole CE)) (m_Store_place_of : PromM P w K mg base 2 CS "place_of" ["self", "tool", "given"] (sp_Store_place_of K CE CS))
    (m_Session_keep_in : PromM P w K mg base 5 CO "keep_in" ["self", "store", "tool", "given", "status", "output"] (sp_keep_in K CE CS CO M)) : PromM P w K mg base 6 CO "share" ["self"] (sp_share CE CS CO M) := by
  have sc := sc_Session_share
  refine D.prom sc (fun vs H Q E h => ?_) (fun f cdv A outer s H vs Q E hr h => ?_)
  · obtain ⟨F, p, S, rfl, _⟩ := h
    rfl
  · obtain ⟨F, p, S, rfl, x, ok, k⟩ := h
    refine ⟨_, (pss_cons (ps_if (pt_not (pt_val (pe_fld (pv 0) rfl))) (pss_one (ps_ret (pe_lst (pa_cons (pe_gi T.g_LIMIT) pa_nil)))) pss_nil)
      (pss_cons (ps_set (i := 1) sc.nd rfl (Or.inl rfl) pe_int)
      (pss_cons (ps_for PassesOwn.never rfl (pi_reversed rfl T.n_reversed (pa_cons (pe_fld (pe_fld (pv 0) rfl) rfl) pa_nil)) (pg_name (i := 2) sc.nd rfl (Or.inl rfl)) (pss_one (ps_if (PW.pt (pw_and (pt_val (pe_methP0 m_Entry_is_whole T.c_Entry (hr.mono (by decide)) (pv 2))) (pw_and1 (pt_cmpR op_eq (pe_methP m_Store_place_of T.c_Store (hr.mono (by decide)) (pe_fld (pv 0) rfl) (pa_cons (pe_fld (pv 2) rfl) (pa_cons (pe_fld (pv 2) rfl) pa_nil))) (pe_gi T.g_NOWHERE) (nomark _))))) (pss_cons (ps_expr (pe_methP m_Session_keep_in T.c_Session (hr.mono (by decide)) (pv 0) (pa_cons (pe_fld (pv 0) rfl) (pa_cons (pe_fld (pv 2) rfl) (pa_cons (pe_fld (pv 2) rfl) (pa_cons (pe_fld (pv 2) rfl) (pa_cons (pe_fld (pv 2) rfl) pa_nil)))))))
      (pss_one (ps_aug (i := 1) sc.nd rfl (Or.inl rfl) pe_int ip_add))) pss_nil)))
      (pss_cons (ps_fldaug (pv 0) (pv 1) in_add)
      (pss_one (ps_ret (pe_lst (pa_cons (pv 1) pa_nil)))))))), ?_⟩
    have es' : Vabldj.step S .share = Vabldj.shared S := rfl
    rw [es'] at k
    obtain ⟨n, f, lN, lF, aN, aF, y, rfl⟩ := x
    obtain ⟨dx, ob⟩ := y.ob
    refine ⟨_, rfl, p, CO, dx, _, _, rfl, ob, T.c_Session, T.o_far_is_there, oF_there _ _ _, _, rfl, ite2 (fun c => ?_) (fun c => ?_)⟩
    · have c' : ¬ S.there = true := by
        intro z
        rw [z] at c
        cases c
      have ec : Vabldj.shared S = (S, Vabldj.no Vabldj.LIMIT) := by
        unfold Vabldj.shared
        rw [if_neg c']
      rw [ec] at k
      exact ⟨by show 1 ≤ sizeLine; decide, fun r hr => k.ret ⟨n, f, lN, lF, aN, aF, y, rfl⟩ (Ext.refl _ H) hr⟩
    · have c' : S.there = true := by
        cases z : S.there with
        | true => rfl
        | false => rw [z] at c; exact absurd rfl c
      generalize eL : S.near.entries.reverse = L
      have ec : Vabldj.shared S = (L.foldl Vabldj.shareOne S, Vabldj.told ((L.foldl Vabldj.shareOne S).sent - S.sent) []) := by
        unfold Vabldj.shared
        rw [if_pos c', eL]
      rw [ec] at k
      obtain ⟨dn, en⟩ := y.near.ob
      have hln := y.near.len
      have eLl : L.length = aN.length := by rw [← eL, List.length_reverse, hln]
      have okL : ∀ e ∈ L, EntN e := fun e he => ok.near.ents e (List.mem_reverse.mp (eL ▸ he))
      refine ⟨_, rfl, p, CO, dx, _, _, rfl, ob, T.c_Session, T.o_near, oF_near _ _ _, n, CS, dn, _, _, rfl, en, T.c_Store, T.s_entries, sf_entries _ _, lN, _, rfl, SqL.of y.near.ls, for_rev (K := K) (a := lN) (xs := aN.map V.ref)
        (fun i σ H' => ∃ (e : Option V) (as' : List Addr), σ = [some (.ref p), some (.int (((L.take i).foldl Vabldj.shareOne S).sent - S.sent : Nat)), e] ∧ SessAt CE CS CO M H' p n f lN lF aN as' (un ((L.take i).foldl Vabldj.shareOne S) S.sent) ∧ Ext (Own p n f lN lF aN aF) H (Own p n f lN lF aN as') H')
        ⟨none, aF, ?_, y, Ext.refl _ H⟩ (fun i σ H' _ ⟨_, _, _, y', _⟩ => SqL.of y'.near.ls) ?_ ?_⟩
      · show [some (V.ref p), some (V.int 0), none] = [some (V.ref p), some (V.int ((S.sent - S.sent : Nat) : Int)), none]
        rw [Nat.sub_self]
        rfl
      · rintro i z σ H1 hz ⟨v0, as1, rfl, y1, x1⟩
        obtain ⟨a, ha, rfl⟩ : ∃ a, aN.reverse[i]? = some a ∧ z = V.ref a := by
          rw [← List.map_reverse, List.getElem?_map] at hz
          cases e : aN.reverse[i]? with
          | none => rw [e] at hz; cases hz
          | some a => rw [e] at hz; exact ⟨a, rfl, (Option.some.inj hz).symm⟩
        generalize eS1 : (L.take i).foldl Vabldj.shareOne S = S1 at y1
        have ok1 : StOk S1 := by
          rw [← eS1]
          exact shareAll_ok _ ok fun e he => okL e (List.mem_of_mem_take he)
        have near1 : S1.near = S.near := by rw [← eS1]; exact shareAll_near _ _
        have pr := pd_rev y1.near.ents
        have pr' : Paired (EntR CE H1 (lN :: lF :: M)) aN.reverse L := by
          have e0 : (un S1 S.sent).near.entries.reverse = L := by
            show S1.near.entries.reverse = L
            rw [near1, eL]
          rw [← e0]
          exact pr
        obtain ⟨E, hE, re⟩ := pd_get pr' ha
        obtain ⟨⟨h1, h2, h3⟩, g, h, at1, ng, nh⟩ := id re
        obtain ⟨⟨dy, hy⟩, hg, hh⟩ := id at1
        have le1 : S.sent ≤ S1.sent := by rw [← eS1]; exact shareAll_sent _ _
        have ef := foldl_snoc hE S
        rw [eS1] at ef
        refine ⟨_, rfl, a, dy, _, rfl, hy, ef_is_whole _ _ _ _ _, a, g, h, E, rfl, at1, _, rfl, ?_⟩
        cases cw : E.whole with
        | false =>
          have e1 : Vabldj.shareOne S1 E = S1 := by
            unfold Vabldj.shareOne
            rw [cw]
            rfl
          rw [e1] at ef
          refine iteF (iteF ?_)
          exact ⟨_, as1, by rw [ef]; rfl, by rw [ef]; exact y1, x1⟩
        | true =>
          refine iteT ?_
          obtain ⟨d1, ob1⟩ := y1.ob
          obtain ⟨df, ef1⟩ := y1.far.ob
          refine ⟨_, rfl, p, CO, d1, _, _, rfl, ob1, T.c_Session, T.o_far, oF_far _ _ _, f, df, _, rfl, ef1, sf_place_of _ _, _, rfl, a, CE, dy, _, _, rfl, hy, T.c_Entry, T.e_tool, ef_tool _ _ _ _ _, _, rfl, a, CE, dy, _, _, rfl, hy, T.c_Entry, T.e_given, ef_given _ _ _ _ _,
            (lN :: lF :: M), f, lF, as1, S1.far, E.tool, g, E.input, rfl, y1.far, SqL.of hg, fun H2 s2 => ?_⟩
          have y2 := y1.same s2
          have x2 := x1.trans (Ext.of_same (F := Own p n f lN lF aN as1) s2)
          cases hf : S1.far.entries.find? (fun e => e.isFor E.tool E.input) with
          | some E' =>
            obtain ⟨j, ep, _⟩ := place_some hf
            rw [ep]
            have e1 : Vabldj.shareOne S1 E = S1 := by
              unfold Vabldj.shareOne Vabldj.find
              rw [hf, cw]
              rfl
            rw [e1] at ef
            refine ⟨rfl, _, rfl, ite2 (fun c => absurd c (by simp)) (fun c => ?_)⟩
            exact ⟨_, as1, by rw [ef]; rfl, by rw [ef]; exact y2, x2⟩
          | none =>
            rw [place_none hf]
            have e1 : Vabldj.shareOne S1 E = Vabldj.sendFar S1 E := by
              unfold Vabldj.shareOne Vabldj.find
              rw [hf, cw]
              rfl
            rw [e1] at ef
            refine ⟨rfl, _, rfl, ite2 (fun c => ?_) (fun c => absurd (by decide) c)⟩
            obtain ⟨d2, ob2⟩ := y2.ob
            have hy2 := s2 _ _ hy
            refine ⟨_, rfl, p, d2, _, rfl, ob2, oF_no _ _ _ _ (by decide +kernel), _, rfl, p, CO, d2, _, _, rfl, ob2, T.c_Session, T.o_far, oF_far _ _ _, _, rfl, a, CE, dy, _, _, rfl, hy2, T.c_Entry, T.e_tool, ef_tool _ _ _ _ _, _, rfl, a, CE, dy, _, _, rfl, hy2, T.c_Entry, T.e_given, ef_given _ _ _ _ _,
              _, rfl, a, CE, dy, _, _, rfl, hy2, T.c_Entry, T.e_status, ef_status _ _ _ _ _, _, rfl, a, CE, dy, _, _, rfl, hy2, T.c_Entry, T.e_held, ef_held _ _ _ _ _, p, n, f, lN, lF, aN, as1, un S1 S.sent, true, E.tool, g, E.input, E.status, h, E.bytes, rfl, y2, Nat.le_trans ok1.far.length (by decide), SqL.of (s2 _ _ hg), SqL.of (s2 _ _ hh), h1, Nat.le_trans h3 h2, fun H3 as3 y3 sub3 fr3 => ?_⟩
            rw [mkE_whole cw] at y3
            have x3 : Ext (Own p n f lN lF aN aF) H (Own p n f lN lF aN as3) H3 := x2.trans (ext_store true y3 (fun b o e q1 _ q3 => fr3 b o e q1 q3) sub3)
            refine ⟨_, rfl, _, _, rfl, rfl, some (V.ref a), as3, ?_, ?_, x3⟩
            · rw [ef]
              have e2 : (((S1.sent - S.sent : Nat) : Int)) + 1 = ((S1.sent + 1 - S.sent : Nat) : Int) := by omega
              show [some (V.ref p), some (V.int (((S1.sent - S.sent : Nat) : Int) + 1)), some (V.ref a)] = _
              rw [e2]
              rfl
            · rw [ef]
              exact y3
      · rintro σ H1 ⟨v0, as1, rfl, y1, x1⟩
        rw [List.length_map, ← eLl, List.take_length] at y1 ⊢
        obtain ⟨d1, ob1⟩ := y1.ob
        have le1 : S.sent ≤ (L.foldl Vabldj.shareOne S).sent := shareAll_sent _ _
        refine ⟨_, rfl, p, CO, d1, _, _, rfl, ob1, T.c_Session, T.o_sent, oF_sent _ _ _, _, rfl, _, _, rfl, rfl, d1, _, ob1, (by show 11 < 1000; decide), ?_⟩
        have e2 : (((un (L.foldl Vabldj.shareOne S) S.sent).sent : Nat) : Int) + (((L.foldl Vabldj.shareOne S).sent - S.sent : Nat) : Int) = (((L.foldl Vabldj.shareOne S).sent : Nat) : Int) := by
          show ((S.sent : Nat) : Int) + _ = _
          omega
        rw [e2, put_sent]
        refine ⟨_, rfl, by show 1 ≤ sizeLine; decide, fun r hr => ?_⟩
        have fr2 : ∀ c u, H1 c = some u → c ≠ p → (upd H1 p (.ins CO d1 (oF n f (un (un (L.foldl Vabldj.shareOne S) S.sent) (L.foldl Vabldj.shareOne S).sent)))) c = some u := fun c u e hc => by rw [upd_ne hc]; exact e
        have y2 := y1.put (S' := L.foldl Vabldj.shareOne S) T.eO T.sO fr2 ⟨d1, upd_same⟩ rfl rfl
        exact k.ret ⟨n, f, lN, lF, aN, as1, y2, rfl⟩ (x1.trans (ext_of (fun c u e hc _ _ _ _ _ _ => fr2 c u e hc) (fun _ h => .inl h) (fun _ h => .inl h) (none_of_keep fr2 ⟨_, upd_same⟩))) hr
end
end Ac

set_option Elab.async false
set_option linter.all false
set_option maxRecDepth 100000
set_option maxHeartbeats 4000000
namespace Ac
open PySem PySem.Spec PyProof.Rows L2
/-! ### a line of calls -/
theorem seq_by {t R : TS} {D : Ends} {σ : L2.St} {H : Hp} (J : L2.St → Hp → Prop) (h1 : ∀ nx : L2.St → Hp → Prop, (∀ σ' H', J σ' H' → nx σ' H') → t { D with nx := nx } σ H) (h2 : ∀ σ' H', J σ' H' → R D σ' H') : tSeq t R D σ H := h1 (R D) h2
theorem Sess.tracked {CE CS CO : Addr} {M : List Addr} {H : Hp} {p : Addr} {F : Addr → Prop} {S : Vabldj.State} (x : Sess CE CS CO M H p F S) {b : Addr} (hb : F b) : ∃ o, H b = some o := by
  obtain ⟨n, f, lN, lF, aN, aF, y, rfl⟩ := x
  obtain ⟨d, e⟩ := y.ob
  obtain ⟨d1, e1⟩ := y.near.ob
  obtain ⟨d2, e2⟩ := y.far.ob
  rcases hb with h | h | h | h | h | h | h
  · rw [h]; exact ⟨_, e⟩
  · rw [h]; exact ⟨_, e1⟩
  · rw [h]; exact ⟨_, e2⟩
  · rw [h]; exact ⟨_, y.near.ls⟩
  · rw [h]; exact ⟨_, y.far.ls⟩
  · obtain ⟨d3, f3, q⟩ := y.near.isIns h
    exact ⟨_, q⟩
  · obtain ⟨d3, f3, q⟩ := y.far.isIns h
    exact ⟨_, q⟩
theorem Sess.same {CE CS CO : Addr} {M : List Addr} {H H' : Hp} {p : Addr} {F : Addr → Prop} {S : Vabldj.State} (x : Sess CE CS CO M H p F S) (k : Same H H') : Sess CE CS CO M H' p F S := by
  obtain ⟨n, f, lN, lF, aN, aF, y, rfl⟩ := x
  exact ⟨n, f, lN, lF, aN, aF, y.same k, rfl⟩
theorem Sess.foreign {CE CS CO : Addr} {M : List Addr} {H H' : Hp} {p t : Addr} {F : Addr → Prop} {S : Vabldj.State} {xs : List V} (x : Sess CE CS CO M H p F S) (hm : t ∈ M) (ht : H t = some (.lst xs)) (nf : ¬ F t) (k : ∀ b o, H b = some o → b ≠ t → H' b = some o) (ht' : ∃ o, H' t = some o) : Sess CE CS CO M H' p F S := by
  obtain ⟨n, f, lN, lF, aN, aF, y, rfl⟩ := x
  exact ⟨n, f, lN, lF, aN, aF, y.foreign hm ht (fun z => nf (.inr (.inr (.inr (.inl z))))) (fun z => nf (.inr (.inr (.inr (.inr (.inl z)))))) k ht', rfl⟩
/-- a list that is handed in: the module's, or one that the object doesn't own -/
def Fix (K : PySem.W.Frag) (xs : List V) (a : Addr) (F : Addr → Prop) (H : Hp) : Prop := (∀ H, SqL K H a xs) ∨ (¬ F a ∧ (∃ o, H a = some o) ∧ SqL K H a xs)
theorem Fix.seq {K : PySem.W.Frag} {xs : List V} {a : Addr} {F : Addr → Prop} {H : Hp} (x : Fix K xs a F H) : SqL K H a xs := x.elim (fun h => h H) fun h => h.2.2
theorem Fix.ext {K : PySem.W.Frag} {xs : List V} {a : Addr} {F F' : Addr → Prop} {H H' : Hp} (x : Fix K xs a F H) (e : Ext F H F' H') : Fix K xs a F' H' := by
  rcases x with h | ⟨h1, ⟨o, h2⟩, h3⟩
  · exact .inl h
  · refine .inr ⟨fun z => ?_, ⟨o, e.keep a o h2 h1⟩, seq_ext h3 fun u q => e.keep a u q h1⟩
    rcases e.own a z with q | q
    · exact h1 q
    · rw [h2] at q
      cases q
theorem Fix.off {K : PySem.W.Frag} {xs ys : List V} {a t : Addr} {F : Addr → Prop} {H H' : Hp} (x : Fix K xs a F H) (hne : (∀ H, SqL K H a xs) ∨ a ≠ t) (k : ∀ b o, H b = some o → b ≠ t → H' b = some o) : Fix K xs a F H' := by
  rcases x with h | ⟨h1, ⟨o, h2⟩, h3⟩
  · exact .inl h
  · rcases hne with h | h
    · exact .inl h
    · exact .inr ⟨h1, ⟨o, k a o h2 h⟩, seq_ext h3 fun u q => k a u q h⟩
theorem cut_mid (xs : List V) (i j : Nat) (hij : i ≤ j) (hj : j ≤ xs.length) : cutV xs (some (i : Int)) (some (j : Int)) = (xs.drop i).take (j - i) := by
  unfold cutV
  rw [HT.sIx_nat, HT.sIx_nat, Nat.min_eq_left (show i ≤ xs.length by omega), Nat.min_eq_left hj]
theorem drop_cons {α : Type} {l : List α} {i : Nat} {x : α} {r : List α} (h : l.drop i = x :: r) : l[i]? = some x ∧ l.drop (i + 1) = r ∧ i < l.length := by
  have hi : i < l.length := by
    rcases Nat.lt_or_ge i l.length with z | z
    · exact z
    · rw [List.drop_of_length_le z] at h
      cases h
  rw [List.drop_eq_getElem_cons hi] at h
  injection h with h1 h2
  exact ⟨by rw [List.getElem?_eq_getElem hi, h1], h2, hi⟩
theorem sqT_same {K : PySem.W.Frag} {H H' : Hp} {a : Addr} {xs : List V} (e : Same H H') (h : SqT K H a xs) : SqT K H' a xs := by
  rcases h with (h | ⟨o, h⟩) | h
  · exact .inl (.inl (e _ _ h))
  · exact .inl (.inr ⟨o, e _ _ h⟩)
  · exact .inr h
def sp_answer_call (K : PySem.W.Frag) (CE CS CO : Addr) : Sp := fun vs H Q _ => ∃ (M : List Addr) (F : Addr → Prop) (p : Addr) (S : Vabldj.State) (c : Int) (b : Addr) (xs : List Int) (a : Addr) (ns : List Int) (k : Nat) (call : Vabldj.Call), vs = [.ref p, .int c, .ref b, .ref a] ∧
  Sess CE CS CO M H p F S ∧ StOk S ∧ SqL K H b (xs.map V.int) ∧ SqL K H a (ns.map V.int) ∧ ¬ F a ∧ PyVabldj.shape c = some (xs.length, k) ∧ VabldjNeutral.callOf (rowsOf c xs k ns) = some call ∧ Post CE CS CO M H F p (Vabldj.step S call).1 (VabldjNeutral.encode (Vabldj.step S call).2) Q
def sp_answers (K : PySem.W.Frag) : Sp := fun vs H Q _ => ∃ (a : Addr) (ns : List Int), vs = [.ref a] ∧ SqL K H a (ns.map V.int) ∧ PyVabldj.answers_asked ns = true ∧ ∀ (H' : Hp) (q : Addr), H' q = some (.lst ((PyVabldj.answers ns).map V.int)) → Q (.ref q) H'
section
variable {P : Program} {w : World} {K : PySem.W.Frag} {mg : Str → Option Value} {base : Heap} {CE CS CO : Addr}
abbrev s_answers : Stmt := top 45
theorem sc_answers : FnScope ["calls", "session", "told", "place", "call", "shape", "row_place", "numbers", "row", "answer"] ["calls"] (defScope s_answers) := ⟨rfl, rfl, rfl, by decide +kernel, rfl, by decide +kernel, by decide +kernel⟩
/-- between two calls -/
structure Line (K : PySem.W.Frag) (CE CS CO : Addr) (ns : List Int) (a p t : Addr) (m : Nat) (σ : L2.St) (H : Hp) (i : Nat) (S : Vabldj.State) (F : Addr → Prop) (fu : Nat) (cs : List (List (List Int))) (out : List Int) (v4 v5 v6 v7 v8 v9 : Option V) : Prop where
  meas : m = cs.length
  at_ : i ≤ ns.length
  loc : σ = [some (.ref a), some (.ref p), some (.ref t), some (.int (i : Int)), v4, v5, v6, v7, v8, v9]
  sess : Sess CE CS CO [t] H p F S
  ok : StOk S
  told : H t = some (.lst (out.map V.int))
  nt : ¬ F t
  fix : Fix K (ns.map V.int) a F H
  ne : (∀ H, SqL K H a (ns.map V.int)) ∨ a ≠ t
  rest : PyFlat.calls PyVabldj.shape fu (ns.drop i) = some cs
  each : ∀ c ∈ cs, ∃ k, VabldjNeutral.callOf c = some k
  len : out.length + 5201 * cs.length ≤ 2080400
  due : PyVabldj.answers ns = out ++ PyFlat.told (PyFlat.played VabldjNeutral.step S cs)
theorem ok_answers {f : Addr} {fd : FuncData} (T : Txt K mg CE CS CO) (D : Fun K "answers" "answers" s_answers f fd) (i_Session : PromI P w K mg base 3 CO "Session" ["self"] (sp_Session_init CE CS CO))
    (p_answer_call : Prom P w K mg base 8 "answer_call" ["session", "call", "numbers", "row"] (sp_answer_call K CE CS CO)) : FnOk P w K mg base CX0 9 f fd ["calls"] (sp_answers K) := by
  have sc := sc_answers
  refine D.ok sc (fun vs H Q E h => ?_) (fun cdv A outer s H vs Q E hr h => ?_)
  · obtain ⟨a, ns, rfl, _⟩ := h
    rfl
  · obtain ⟨a, ns, rfl, hS, hask, k⟩ := h
    refine ⟨_, (pss_cons (ps_set (i := 1) sc.nd rfl (Or.inl rfl) (pe_makeP0 i_Session (hr.mono (by decide))))
      (pss_cons (ps_set (i := 2) sc.nd rfl (Or.inl rfl) (pe_lst pa_nil))
      (pss_cons (ps_set (i := 3) sc.nd rfl (Or.inl rfl) pe_int)
      (pss_cons (ps_while PassesOwn.never (pt_cmpR op_lt (pv 3) (pe_callB call_len_seq rfl T.n_len PySem.boot_len (pa_cons (pv 0) pa_nil)) (nomark _)) (pss_cons (ps_set (i := 4) sc.nd rfl (Or.inl rfl) (pe_ix ix_list (pv 0) (pv 3) (fun _ _ => rfl)))
      (pss_cons (ps_set (i := 5) sc.nd rfl (Or.inl rfl) (pe_shapes T.shapes (pv 4)))
      (pss_cons (ps_set (i := 6) sc.nd rfl (Or.inl rfl) (pe_op op_add (pe_op op_add (pv 3) pe_int) (pe_ix ix_tup (pv 5) pe_int (fun _ _ => rfl))))
      (pss_cons (ps_set (i := 7) sc.nd rfl (Or.inl rfl) (pe_slice sl_list (pv 0) (po_some (pe_op op_add (pv 3) pe_int)) (po_some (pv 6))))
      (pss_cons (ps_set (i := 8) sc.nd rfl (Or.inl rfl) (pe_lst pa_nil))
      (pss_cons (ps_set (i := 3) sc.nd rfl (Or.inl rfl) (pv 6))
      (pss_cons (ps_if (pt_cmpR op_eq (pe_ix ix_tup (pv 5) pe_int (fun _ _ => rfl)) pe_int (nomark _)) (pss_cons (ps_set (i := 3) sc.nd rfl (Or.inl rfl) (pe_op op_add (pe_op op_add (pv 6) pe_int) (pe_ix ix_list (pv 0) (pv 6) (fun _ _ => rfl))))
      (pss_one (ps_set (i := 8) sc.nd rfl (Or.inl rfl) (pe_slice sl_list (pv 0) (po_some (pe_op op_add (pv 6) pe_int)) (po_some (pv 3)))))) pss_nil)
      (pss_cons (ps_set (i := 9) sc.nd rfl (Or.inl rfl) (pe_callP p_answer_call (hr.mono (by decide)) (pa_cons (pv 1) (pa_cons (pv 4) (pa_cons (pv 7) (pa_cons (pv 8) pa_nil))))))
      (pss_cons (ps_expr (pe_bm PySem.F.plainAttrs_list PySem.F.slot_list_append PySem.F.type_list_append mt_append (pv 2) (pa_cons (pe_callB call_len_seq rfl T.n_len PySem.boot_len (pa_cons (pv 9) pa_nil)) pa_nil)))
      (pss_one (ps_expr (pe_bm PySem.F.plainAttrs_list PySem.F.slot_list_extend PySem.F.type_list_extend mt_extend (pv 2) (pa_cons (pv 9) pa_nil))))))))))))))
      (pss_one (ps_ret (pv 2))))))), ?_⟩
    obtain ⟨cs0, hc0, hl0, he0, hans⟩ := asked_line hask
    have hsz := sizeLine_eq
    -- session = Session()
    intro p dp hp hdp hpd
    refine ⟨p, dp, rfl, upd_same, fun H1 F1 x1 kp1 own1 => ⟨rfl, ?_⟩⟩
    have s1 : Same H H1 := Same.made hp hdp kp1
    have fr1 : ∀ b, F1 b → H b = none := fun b hb => by
      rcases own1 b hb with z | z
      · rw [z]; exact hp
      · have hb1 : b ≠ p := fun q => by rw [q, upd_same] at z; cases z
        rw [upd_ne hb1] at z
        by_cases q : b = dp
        · rw [q]; exact hdp
        · rw [upd_ne q] at z
          exact z
    -- told = []
    refine ⟨Nat.zero_le _, fun t ht => ?_⟩
    have s2 : Same H1 (upd H1 t (.lst [])) := Same.new ht
    have nt : ¬ F1 t := fun z => by
      obtain ⟨o, e⟩ := x1.tracked z
      rw [ht] at e
      cases e
    have x2 : Sess CE CS CO [t] (upd H1 t (.lst [])) p F1 Vabldj.start := by
      obtain ⟨n, f, lN, lF, aN, aF, y, rfl⟩ := x1.same s2
      exact ⟨n, f, lN, lF, aN, aF, y.name rfl rfl fun b hb => by rw [List.mem_singleton.mp hb]; exact ⟨_, upd_same⟩, rfl⟩
    have fix2 : Fix K (ns.map V.int) a F1 (upd H1 t (.lst [])) ∧ ((∀ H, SqL K H a (ns.map V.int)) ∨ a ≠ t) := by
      have tr : ∀ o, H a = some o → Fix K (ns.map V.int) a F1 (upd H1 t (.lst [])) ∧ ((∀ H, SqL K H a (ns.map V.int)) ∨ a ≠ t) := fun o e =>
        ⟨.inr ⟨fun z => (by rw [fr1 a z] at e; cases e), ⟨o, s2 _ _ (s1 _ _ e)⟩, (s1.trans s2).seq hS⟩, .inr (ne_of_none (s1 _ _ e) ht)⟩
      rcases id hS with (h | ⟨o, h⟩) | h
      · exact tr _ h
      · exact tr _ h
      · exact ⟨.inl fun _ => .inr h, .inl fun _ => .inr h⟩
    -- place = 0; the loop
    refine ⟨fun m σ H' => ∃ i S F fu cs out v4 v5 v6 v7 v8 v9, Line K CE CS CO ns a p t m σ H' i S F fu cs out v4 v5 v6 v7 v8 v9, ⟨cs0.length, 0, Vabldj.start, F1, ns.length, cs0, [], none, none, none, none, none, none, rfl, Nat.zero_le _, rfl, x2, start_ok, upd_same, nt, fix2.1, fix2.2, by rw [List.drop_zero]; exact hc0, he0, by simp; omega, by rw [hans]; rfl⟩, ?_⟩
    rintro m σ H' ⟨i, S, F, fu, cs, out, v4, v5, v6, v7, v8, v9, L⟩
    obtain ⟨rfl, hi, rfl, x, ok, ht', nt', fix, ne, rest, each, len, due⟩ := L
    have sq := fix.seq
    refine ⟨_, rfl, _, rfl, a, _, rfl, .inl sq, _, _, rfl, rfl, _, rfl, ite2 (fun c => ?_) (fun c => ?_)⟩
    · have c' : i < ns.length := by simp at c; omega
      obtain ⟨p0, r0, hd⟩ : ∃ p0 r0, ns.drop i = p0 :: r0 := ⟨_, _, List.drop_eq_getElem_cons c'⟩
      obtain ⟨hp0, hr0, _⟩ := drop_cons hd
      rw [hd] at rest
      obtain ⟨fu', cl, tl, cs', hcall, hrest, rfl⟩ := calls_cons rest
      obtain ⟨nn, kk, hsh, hnn, hsplit⟩ := call_inv hcall
      obtain ⟨call, hcl⟩ := each cl List.mem_cons_self
      have lr0 : r0.length + (i + 1) = ns.length := by
        have := congrArg List.length hr0
        rw [List.length_drop] at this
        omega
      refine ⟨fun σ2 H2 => ∃ m', m' < (cl :: cs').length ∧ ∃ i S F fu cs out v4 v5 v6 v7 v8 v9, Line K CE CS CO ns a p t m' σ2 H2 i S F fu cs out v4 v5 v6 v7 v8 v9, fun _ _ h => h, ?_⟩
      -- call = calls[place]; shape = SHAPES[call]; row_place = place + 1 + shape[0]
      refine ⟨_, rfl, _, rfl, a, _, _, V.int p0, rfl, rfl, sq, atI_nat (by rw [List.getElem?_map, hp0]; rfl), ?_⟩
      refine ⟨_, rfl, p0, nn, kk, rfl, hsh, fun z sz => ?_⟩
      refine ⟨_, rfl, _, _, rfl, rfl, _, rfl, z, _, _, V.int (nn : Int), rfl, rfl, sz, rfl, _, _, rfl, rfl, ?_⟩
      have e1 : (i : Int) + 1 = ((i + 1 : Nat) : Int) := by omega
      have e2 : (i : Int) + 1 + (nn : Int) = ((i + 1 + nn : Nat) : Int) := by omega
      -- numbers = calls[place + 1:row_place]
      refine ⟨_, rfl, _, rfl, _, _, rfl, rfl, _, rfl, _, rfl, _, rfl, a, _, rfl, sq, fun b hb => ?_⟩
      have en : cutV (ns.map V.int) (some ((i : Int) + 1)) (some ((i : Int) + 1 + (nn : Int))) = (r0.take nn).map V.int := by
        rw [e1, show (((i + 1 : Nat) : Int) + (nn : Int)) = ((i + 1 + nn : Nat) : Int) by omega, cut_mid _ _ _ (by omega) (by rw [List.length_map]; omega), ← List.map_drop, hr0, ← List.map_take]
        congr 2
        omega
      rw [en]
      have sb : Same H' (upd H' b (.lst ((r0.take nn).map V.int))) := Same.new hb
      generalize ehb : upd H' b (.lst ((r0.take nn).map V.int)) = Hb at sb ⊢
      have qb : Hb b = some (.lst ((r0.take nn).map V.int)) := by rw [← ehb]; exact upd_same
      -- row = []; place = row_place
      refine ⟨Nat.zero_le _, fun w1 hw1 => ?_⟩
      have sw : Same Hb (upd Hb w1 (.lst [])) := Same.new hw1
      generalize ehw : upd Hb w1 (.lst []) = Hw at sw ⊢
      have qw : Hw w1 = some (.lst []) := by rw [← ehw]; exact upd_same
      have sbw : Same H' Hw := sb.trans sw
      refine ⟨_, rfl, ?_⟩
      -- if shape[1] == 1
      dsimp only
      refine seq_by (fun σ5 H5 => ∃ (i5 : Nat) (w5 : Addr) (row : List Int) (v : Option V), σ5 = [some (.ref a), some (.ref p), some (.ref t), some (.int (i5 : Int)), some (.int p0), some (.ref z), some (.int ((i : Int) + 1 + (nn : Int))), some (.ref b), some (.ref w5), v] ∧ Same H' H5 ∧ H5 b = some (.lst ((r0.take nn).map V.int)) ∧
        H5 w5 = some (.lst (row.map V.int)) ∧ H' w5 = none ∧ cl = rowsOf p0 (r0.take nn) kk row ∧ i5 ≤ ns.length ∧ ns.drop i5 = tl) (fun nx hnx => ?_) (fun σ5 H5 hJ => ?_)
      · refine ⟨_, rfl, z, _, _, V.int (kk : Int), rfl, rfl, sqT_same sbw sz, rfl, rfl, _, rfl, ite2 (fun c2 => ?_) (fun c2 => ?_)⟩
        · have hk : kk = 1 := by simp at c2; omega
          rcases hsplit with ⟨h0, _⟩ | ⟨_, m1, r1, hd1, hm0, hml, hcl1, htl⟩
          · omega
          · obtain ⟨mm, rfl⟩ : ∃ mm : Nat, m1 = (mm : Int) := ⟨m1.toNat, by omega⟩
            have e0 : ((mm : Int)).toNat = mm := rfl
            rw [e0] at hml hcl1 htl
            have hdn : ns.drop (i + 1 + nn) = (mm : Int) :: r1 := by rw [← hd1, ← hr0, List.drop_drop]
            obtain ⟨hm1, hr1, hlt1⟩ := drop_cons hdn
            have lr1 : r1.length + (i + 1 + nn + 1) = ns.length := by
              have := congrArg List.length hr1
              rw [List.length_drop] at this
              omega
            have sqw := sbw.seq sq
            -- place = row_place + 1 + calls[row_place]
            refine ⟨_, rfl, _, _, rfl, rfl, _, rfl, _, rfl, a, _, _, V.int (mm : Int), rfl, rfl, sqw, ?_, _, _, rfl, rfl, ?_⟩
            · show atI (ns.map V.int) ((i : Int) + 1 + (nn : Int)) = _
              rw [e2]
              exact atI_nat (by rw [List.getElem?_map, hm1]; rfl)
            -- row = calls[row_place + 1:place]
            refine ⟨_, rfl, _, rfl, _, _, rfl, rfl, _, rfl, _, rfl, _, rfl, a, _, rfl, sqw, fun w2 hw2 => ?_⟩
            have er : cutV (ns.map V.int) (some ((i : Int) + 1 + (nn : Int) + 1)) (some ((i : Int) + 1 + (nn : Int) + 1 + (mm : Int))) = (r1.take mm).map V.int := by
              rw [show ((i : Int) + 1 + (nn : Int) + 1) = ((i + 1 + nn + 1 : Nat) : Int) by omega, show (((i + 1 + nn + 1 : Nat) : Int) + (mm : Int)) = ((i + 1 + nn + 1 + mm : Nat) : Int) by omega, cut_mid _ _ _ (by omega) (by rw [List.length_map]; omega), ← List.map_drop, hr1, ← List.map_take]
              congr 2
              omega
            have s5 : Same Hw (upd Hw w2 (.lst ((r1.take mm).map V.int))) := Same.new hw2
            refine hnx _ _ ⟨i + 1 + nn + 1 + mm, w2, r1.take mm, v9, ?_, ?_, ?_, ?_, ?_, ?_, ?_, ?_⟩
            · show [some (V.ref a), some (.ref p), some (.ref t), some (.int ((i : Int) + 1 + (nn : Int) + 1 + (mm : Int))), some (.int p0), some (.ref z), some (.int ((i : Int) + 1 + (nn : Int))), some (.ref b), some (.ref w2), v9] = _
              rw [show ((i : Int) + 1 + (nn : Int) + 1 + (mm : Int)) = ((i + 1 + nn + 1 + mm : Nat) : Int) by omega]
            · exact (sbw.trans s5).trans (by rw [← er]; exact Same.refl _)
            · have := s5 _ _ (sw _ _ qb)
              rw [← er] at this
              exact this
            · show (upd Hw w2 (.lst (cutV (ns.map V.int) (some ((i : Int) + 1 + (nn : Int) + 1)) (some ((i : Int) + 1 + (nn : Int) + 1 + (mm : Int)))))) w2 = _
              rw [upd_same, er]
            · exact sbw.free hw2
            · rw [hcl1, hk]
              rfl
            · omega
            · rw [htl, ← hr1, List.drop_drop]
        · have hk : kk = 0 := by
            have := (shape_small hsh).1
            simp at c2
            omega
          rcases hsplit with ⟨_, hcl0, htl⟩ | ⟨h1, _⟩
          · refine hnx _ _ ⟨i + 1 + nn, w1, [], v9, ?_, sbw, sw _ _ qb, qw, sb.free hw1, ?_, by omega, ?_⟩
            · show [some (V.ref a), some (.ref p), some (.ref t), some (.int ((i : Int) + 1 + (nn : Int))), some (.int p0), some (.ref z), some (.int ((i : Int) + 1 + (nn : Int))), some (.ref b), some (.ref w1), v9] = _
              rw [← e2]
            · rw [hcl0, hk]
              rfl
            · rw [htl, ← hr0, List.drop_drop]
          · omega
      · obtain ⟨i5, w5, row, v, rfl, s5, qb5, qw5, hw5, hcl5, hi5, hd5⟩ := hJ
        have nw : ¬ F w5 := fun q => by
          obtain ⟨o, e⟩ := x.tracked q
          rw [hw5] at e
          cases e
        -- answer = answer_call(session, call, numbers, row)
        refine ⟨_, rfl, _, rfl, _, rfl, _, rfl, [t], F, p, S, p0, b, r0.take nn, w5, row, kk, call, rfl, x.same s5, ok, SqL.of qb5, SqL.of qw5, nw, by rw [List.length_take, Nat.min_eq_left hnn]; exact hsh, by rw [← hcl5]; exact hcl, fun H6 F6 r x6 e6 hr hans6 => ?_⟩
        have e56 : Ext F H' F6 H6 := (Ext.of_same s5).trans e6
        have ht6 : H6 t = some (.lst (out.map V.int)) := e6.keep _ _ (s5 _ _ ht') nt'
        have nt6 : ¬ F6 t := fun q => by
          rcases e6.own t q with h | h
          · exact nt' h
          · rw [s5 _ _ ht'] at h
            cases h
        have rt : r ≠ t := fun q => by rw [q, s5 _ _ ht'] at hr; cases hr
        have al : (VabldjNeutral.encode (Vabldj.step S call).2).length ≤ 5200 := step_len ok call
        have lc : (cl :: cs').length = cs'.length + 1 := rfl
        rw [lc] at len
        -- told.append(len(answer)); told.extend(answer)
        refine ⟨_, rfl, .inl ⟨rfl, _, SqL.of ht6⟩, _, rfl, r, _, rfl, .inl (SqL.of hans6), t, _, _, rfl, rfl, ht6, by rw [List.length_map]; omega, ?_⟩
        refine ⟨_, rfl, .inl ⟨rfl, _, SqL.of upd_same⟩, _, rfl, t, r, _, _, rfl, rfl, upd_same, (by rw [upd_ne rt]; exact hans6), ?_, ?_⟩
        · rw [List.length_append, List.length_map, List.length_map, List.length_singleton]
          omega
        have fr8 : ∀ c o, H6 c = some o → c ≠ t → (upd (upd H6 t (.lst (out.map V.int ++ [V.int (((VabldjNeutral.encode (Vabldj.step S call).2).map V.int).length : Nat)]))) t (.lst ((out.map V.int ++ [V.int (((VabldjNeutral.encode (Vabldj.step S call).2).map V.int).length : Nat)]) ++ (VabldjNeutral.encode (Vabldj.step S call).2).map V.int))) c = some o := fun c o q hc => by
          rw [upd_ne hc, upd_ne hc]
          exact q
        have estep : VabldjNeutral.step S cl = ((Vabldj.step S call).1, VabldjNeutral.encode (Vabldj.step S call).2) := by
          unfold VabldjNeutral.step
          rw [hcl]
        refine ⟨cs'.length, by rw [lc]; exact Nat.lt_succ_self _, i5, (Vabldj.step S call).1, F6, fu', cs', out ++ (((VabldjNeutral.encode (Vabldj.step S call).2).length : Int) :: VabldjNeutral.encode (Vabldj.step S call).2), _, _, _, _, _, _, rfl, hi5, rfl, x6.foreign (by simp) ht6 nt6 fr8 ⟨_, upd_same⟩, step_ok ok call, ?_, nt6, (fix.ext e56).off (ys := []) ne fr8, ne, by rw [hd5]; exact hrest, fun c hc => each c (List.mem_cons_of_mem _ hc), ?_, ?_⟩
        · rw [upd_same, List.length_map]
          simp
        · rw [List.length_append, List.length_cons]
          omega
        · rw [due]
          rw [show PyFlat.played VabldjNeutral.step S (cl :: cs') = (VabldjNeutral.step S cl).2 :: PyFlat.played VabldjNeutral.step (VabldjNeutral.step S cl).1 cs' from rfl, estep]
          unfold PyFlat.told
          rw [List.flatMap_cons, List.append_assoc]
    · have c' : i = ns.length := by simp at c; omega
      rw [c', List.drop_length] at rest
      have ec := calls_nil rest
      subst ec
      have ed : PyVabldj.answers ns = out := by rw [due]; simp [PyFlat.played, PyFlat.told]
      refine ⟨_, rfl, k H' t ?_⟩
      rw [ed]
      exact ht'
end
end Ac

set_option Elab.async false
set_option linter.all false
set_option maxRecDepth 100000
set_option maxHeartbeats 4000000
namespace Ac
open PySem PySem.Spec PyProof.Rows L2
theorem Sess.ob {CE CS CO : Addr} {M : List Addr} {H : Hp} {p : Addr} {F : Addr → Prop} {S : Vabldj.State} (x : Sess CE CS CO M H p F S) : ∃ dx n f, H p = some (.ins CO dx (oF n f S)) := by
  obtain ⟨n, f, lN, lF, aN, aF, y, rfl⟩ := x
  obtain ⟨dx, e⟩ := y.ob
  exact ⟨dx, n, f, e⟩
theorem StOk.bd {S : Vabldj.State} (h : StOk S) : Bd S := ⟨Nat.le_trans h.near.length (by decide), Nat.le_trans h.far.length (by decide)⟩
/-- the refusal of what is looked at first, or 0 -/
def lookR : Vabldj.Call → Int
  | .room n _ => storeR n
  | .there b => truthR b
  | .send b => truthR b
  | .failing b => truthR b
  | .do_ t l => actionR t l
  | .cut n t _ l => storedR n t l
  | .forget n t l => storedR n t l
  | .clean n => storeR n
  | .share => 0
  | .has n t l => storedR n t l
  | .list n => storeR n
  | .counts => 0
theorem onStore_no {S : Vabldj.State} {n : Int} {f : Bool → Vabldj.State × Vabldj.Answer} (h : ¬ storeR n = 0) : Vabldj.onStore S n f = (S, Vabldj.no (storeR n)) := by
  have c : ¬ (n = 0 ∨ n = 1) := fun z => h (storeR_0.mpr z)
  unfold Vabldj.onStore
  rw [storeOf_no c, show storeR n = -4 from if_neg c]
  rfl
theorem onTruth_no {S : Vabldj.State} {n : Int} {f : Bool → Vabldj.State} (h : ¬ truthR n = 0) : Vabldj.onTruth S n f = (S, Vabldj.no (truthR n)) := by
  have c : ¬ (n = 0 ∨ n = 1) := fun z => h (truthR_0.mpr z)
  unfold Vabldj.onTruth Vabldj.truthOf
  rw [if_neg (fun z => c (.inl z)), if_neg (fun z => c (.inr z)), show truthR n = -1 from if_neg c]
  rfl
theorem onStored_no {S : Vabldj.State} {n t : Int} {ns : List Int} {f : Bool → Nat → List Nat → Vabldj.State × Vabldj.Answer} (h : ¬ storedR n t ns = 0) :
    (Vabldj.onStore S n fun far => Vabldj.onAction S t ns fun x m => f far x m) = (S, Vabldj.no (storedR n t ns)) := by
  rcases storedR_cases n t ns (S := S) (f := f) with ⟨_, e⟩ | ⟨z, _⟩
  · exact e
  · exact absurd z h
theorem look_no {S : Vabldj.State} {c : Vabldj.Call} (h : ¬ lookR c = 0) : Vabldj.step S c = (S, Vabldj.no (lookR c)) := by
  cases c with
  | room n k => exact onStore_no h
  | there b => exact onTruth_no h
  | send b => exact onTruth_no h
  | failing b => exact onTruth_no h
  | do_ t l => exact onAction_no h
  | cut n t k l => exact onStored_no (f := fun far x i => Vabldj.cutIt S far k x i) h
  | forget n t l => exact onStored_no (f := fun far x i => Vabldj.forgetIt S far x i) h
  | clean n => exact onStore_no h
  | share => exact absurd rfl h
  | has n t l => exact onStored_no (f := fun far x i => (S, Vabldj.hasIt S far x i)) h
  | list n => exact onStore_no h
  | counts => exact absurd rfl h
theorem sif_or3 {A B C : TT} {t u r : TS} {D : Ends} {σ : L2.St} {H : Hp} (a b c : Bool) (hA : ∀ Q : Bool → Hp → Prop, Q a H → A σ H Q) (hB : ∀ Q : Bool → Hp → Prop, Q b H → B σ H Q) (hC : ∀ Q : Bool → Hp → Prop, Q c H → C σ H Q)
    (h : if (a || (b || c)) = true then t { D with nx := r D } σ H else u { D with nx := r D } σ H) : tSeq (tIfS (tOr A (tOr B C)) t u) r D σ H :=
  tOr_pure a (b || c) hA (fun _ Q hq => tOr_pure b c hB (fun _ Q hq => hC Q hq) hq) h
section
variable {P : Program} {w : World} {K : PySem.W.Frag} {mg : Str → Option Value} {base : Heap} {CE CS CO : Addr}
abbrev s_look_at_call : Stmt := top 40
theorem sc_look_at_call : FnScope ["call", "numbers", "row"] ["call", "numbers", "row"] (defScope s_look_at_call) := ⟨rfl, rfl, rfl, by decide +kernel, rfl, by decide +kernel, by decide +kernel⟩
abbrev s_answer_call : Stmt := top 44
theorem sc_answer_call : FnScope ["session", "call", "numbers", "row", "refusal"] ["session", "call", "numbers", "row"] (defScope s_answer_call) := ⟨rfl, rfl, rfl, by decide +kernel, rfl, by decide +kernel, by decide +kernel⟩
def sp_look_at_call (K : PySem.W.Frag) : Sp := fun vs H Q _ => ∃ (c : Int) (b : Addr) (xs : List Int) (a : Addr) (ns : List Int) (k : Nat) (call : Vabldj.Call), vs = [.int c, .ref b, .ref a] ∧ SqL K H b (xs.map V.int) ∧ SqL K H a (ns.map V.int) ∧ PyVabldj.shape c = some (xs.length, k) ∧ VabldjNeutral.callOf (rowsOf c xs k ns) = some call ∧ Q (.int (lookR call)) H
theorem ok_look_at_call (T : Txt K mg CE CS CO) (D : DefG K mg "look_at_call" s_look_at_call ["call", "numbers", "row"]) (p_look_at_store : Prom P w K mg base 1 "look_at_store" ["number"] sp_look_at_store) (p_look_at_truth : Prom P w K mg base 1 "look_at_truth" ["number"] sp_look_at_truth)
    (p_look_at_action : Prom P w K mg base 2 "look_at_action" ["tool", "given"] (sp_look_at_action K)) (p_look_at_stored_action : Prom P w K mg base 3 "look_at_stored_action" ["number", "tool", "given"] (sp_look_at_stored_action K)) :
    Prom P w K mg base 4 "look_at_call" ["call", "numbers", "row"] (sp_look_at_call K) := by
  have sc := sc_look_at_call
  refine D.prom sc (fun vs H Q E h => ?_) (fun f cdv A outer s H vs Q E hr h => ?_)
  · obtain ⟨c, b, xs, a, ns, k, call, rfl, _⟩ := h
    rfl
  · obtain ⟨c, b, xs, a, ns, kk, call, rfl, hb, ha, hsh, hcall, k⟩ := h
    refine ⟨_, (pss_cons (ps_if (PW.pt (pw_or (pt_cmpR op_eq (pv 0) (pe_gi T.g_ROOM_CALL) (nomark _)) (pw_or (pt_cmpR op_eq (pv 0) (pe_gi T.g_CLEAN_CALL) (nomark _)) (pw_or1 (pt_cmpR op_eq (pv 0) (pe_gi T.g_LIST_CALL) (nomark _)))))) (pss_one (ps_ret (pe_callP p_look_at_store (hr.mono (by decide)) (pa_cons (pe_ix ix_list (pv 1) pe_int (fun _ _ => rfl)) pa_nil)))) pss_nil)
      (pss_cons (ps_if (PW.pt (pw_or (pt_cmpR op_eq (pv 0) (pe_gi T.g_THERE_CALL) (nomark _)) (pw_or (pt_cmpR op_eq (pv 0) (pe_gi T.g_SEND_CALL) (nomark _)) (pw_or1 (pt_cmpR op_eq (pv 0) (pe_gi T.g_FAILING_CALL) (nomark _)))))) (pss_one (ps_ret (pe_callP p_look_at_truth (hr.mono (by decide)) (pa_cons (pe_ix ix_list (pv 1) pe_int (fun _ _ => rfl)) pa_nil)))) pss_nil)
      (pss_cons (ps_if (pt_cmpR op_eq (pv 0) (pe_gi T.g_DO_CALL) (nomark _)) (pss_one (ps_ret (pe_callP p_look_at_action (hr.mono (by decide)) (pa_cons (pe_ix ix_list (pv 1) pe_int (fun _ _ => rfl)) (pa_cons (pv 2) pa_nil))))) pss_nil)
      (pss_cons (ps_if (PW.pt (pw_or (pt_cmpR op_eq (pv 0) (pe_gi T.g_CUT_CALL) (nomark _)) (pw_or (pt_cmpR op_eq (pv 0) (pe_gi T.g_FORGET_CALL) (nomark _)) (pw_or1 (pt_cmpR op_eq (pv 0) (pe_gi T.g_HAS_CALL) (nomark _)))))) (pss_one (ps_ret (pe_callP p_look_at_stored_action (hr.mono (by decide)) (pa_cons (pe_ix ix_list (pv 1) pe_int (fun _ _ => rfl)) (pa_cons (pe_ix ix_list (pv 1) pe_int (fun _ _ => rfl)) (pa_cons (pv 2) pa_nil)))))) pss_nil)
      (pss_one (ps_ret (pe_gi T.g_FINE))))))), ?_⟩
    generalize hl0 : xs.length = n0 at hsh
    rcases shape_cases hsh with ⟨rfl, rfl, rfl⟩ | ⟨rfl, rfl, rfl⟩ | ⟨rfl, rfl, rfl⟩ | ⟨rfl, rfl, rfl⟩ | ⟨rfl, rfl, rfl⟩ | ⟨rfl, rfl, rfl⟩ | ⟨rfl, rfl, rfl⟩ | ⟨rfl, rfl, rfl⟩ | ⟨rfl, rfl, rfl⟩ | ⟨rfl, rfl, rfl⟩ | ⟨rfl, rfl, rfl⟩ | ⟨rfl, rfl, rfl⟩
    · -- room
      obtain ⟨y0, y1, rfl⟩ := len2 hl0
      cases (show some (Vabldj.Call.room y0 y1) = some call from hcall)
      try dsimp only [tNext]
      refine sif_or3 _ _ _ (fun Q h => ⟨_, rfl, rfl, _, rfl, h⟩) (fun Q h => ⟨_, rfl, rfl, _, rfl, h⟩) (fun Q h => ⟨_, rfl, rfl, _, rfl, h⟩) (ite2 (fun _ => ?_) (fun c => absurd (by decide) c))
      exact ⟨_, rfl, b, _, _, _, rfl, rfl, hb, rfl, _, rfl, k⟩
    · -- there
      obtain ⟨y0, rfl⟩ := len1 hl0
      cases (show some (Vabldj.Call.there y0) = some call from hcall)
      try dsimp only [tNext]
      refine sif_or3 _ _ _ (fun Q h => ⟨_, rfl, rfl, _, rfl, h⟩) (fun Q h => ⟨_, rfl, rfl, _, rfl, h⟩) (fun Q h => ⟨_, rfl, rfl, _, rfl, h⟩) (ite2 (fun c => absurd c (by decide)) (fun _ => ?_))
      try dsimp only [tNext]
      refine sif_or3 _ _ _ (fun Q h => ⟨_, rfl, rfl, _, rfl, h⟩) (fun Q h => ⟨_, rfl, rfl, _, rfl, h⟩) (fun Q h => ⟨_, rfl, rfl, _, rfl, h⟩) (ite2 (fun _ => ?_) (fun c => absurd (by decide) c))
      exact ⟨_, rfl, b, _, _, _, rfl, rfl, hb, rfl, _, rfl, k⟩
    · -- send
      obtain ⟨y0, rfl⟩ := len1 hl0
      cases (show some (Vabldj.Call.send y0) = some call from hcall)
      try dsimp only [tNext]
      refine sif_or3 _ _ _ (fun Q h => ⟨_, rfl, rfl, _, rfl, h⟩) (fun Q h => ⟨_, rfl, rfl, _, rfl, h⟩) (fun Q h => ⟨_, rfl, rfl, _, rfl, h⟩) (ite2 (fun c => absurd c (by decide)) (fun _ => ?_))
      try dsimp only [tNext]
      refine sif_or3 _ _ _ (fun Q h => ⟨_, rfl, rfl, _, rfl, h⟩) (fun Q h => ⟨_, rfl, rfl, _, rfl, h⟩) (fun Q h => ⟨_, rfl, rfl, _, rfl, h⟩) (ite2 (fun _ => ?_) (fun c => absurd (by decide) c))
      exact ⟨_, rfl, b, _, _, _, rfl, rfl, hb, rfl, _, rfl, k⟩
    · -- failing
      obtain ⟨y0, rfl⟩ := len1 hl0
      cases (show some (Vabldj.Call.failing y0) = some call from hcall)
      try dsimp only [tNext]
      refine sif_or3 _ _ _ (fun Q h => ⟨_, rfl, rfl, _, rfl, h⟩) (fun Q h => ⟨_, rfl, rfl, _, rfl, h⟩) (fun Q h => ⟨_, rfl, rfl, _, rfl, h⟩) (ite2 (fun c => absurd c (by decide)) (fun _ => ?_))
      try dsimp only [tNext]
      refine sif_or3 _ _ _ (fun Q h => ⟨_, rfl, rfl, _, rfl, h⟩) (fun Q h => ⟨_, rfl, rfl, _, rfl, h⟩) (fun Q h => ⟨_, rfl, rfl, _, rfl, h⟩) (ite2 (fun _ => ?_) (fun c => absurd (by decide) c))
      exact ⟨_, rfl, b, _, _, _, rfl, rfl, hb, rfl, _, rfl, k⟩
    · -- do_
      obtain ⟨y0, rfl⟩ := len1 hl0
      cases (show some (Vabldj.Call.do_ y0 ns) = some call from hcall)
      try dsimp only [tNext]
      refine sif_or3 _ _ _ (fun Q h => ⟨_, rfl, rfl, _, rfl, h⟩) (fun Q h => ⟨_, rfl, rfl, _, rfl, h⟩) (fun Q h => ⟨_, rfl, rfl, _, rfl, h⟩) (ite2 (fun c => absurd c (by decide)) (fun _ => ?_))
      try dsimp only [tNext]
      refine sif_or3 _ _ _ (fun Q h => ⟨_, rfl, rfl, _, rfl, h⟩) (fun Q h => ⟨_, rfl, rfl, _, rfl, h⟩) (fun Q h => ⟨_, rfl, rfl, _, rfl, h⟩) (ite2 (fun c => absurd c (by decide)) (fun _ => ?_))
      refine ⟨_, rfl, rfl, _, rfl, ite2 (fun _ => ?_) (fun c => absurd (by decide) c)⟩
      exact ⟨_, rfl, b, _, _, _, rfl, rfl, hb, rfl, _, rfl, _, a, ns, rfl, ha, k⟩
    · -- cut
      obtain ⟨y0, y1, y2, rfl⟩ := len3 hl0
      cases (show some (Vabldj.Call.cut y0 y1 y2 ns) = some call from hcall)
      try dsimp only [tNext]
      refine sif_or3 _ _ _ (fun Q h => ⟨_, rfl, rfl, _, rfl, h⟩) (fun Q h => ⟨_, rfl, rfl, _, rfl, h⟩) (fun Q h => ⟨_, rfl, rfl, _, rfl, h⟩) (ite2 (fun c => absurd c (by decide)) (fun _ => ?_))
      try dsimp only [tNext]
      refine sif_or3 _ _ _ (fun Q h => ⟨_, rfl, rfl, _, rfl, h⟩) (fun Q h => ⟨_, rfl, rfl, _, rfl, h⟩) (fun Q h => ⟨_, rfl, rfl, _, rfl, h⟩) (ite2 (fun c => absurd c (by decide)) (fun _ => ?_))
      refine ⟨_, rfl, rfl, _, rfl, ite2 (fun c => absurd c (by decide)) (fun _ => ?_)⟩
      try dsimp only [tNext]
      refine sif_or3 _ _ _ (fun Q h => ⟨_, rfl, rfl, _, rfl, h⟩) (fun Q h => ⟨_, rfl, rfl, _, rfl, h⟩) (fun Q h => ⟨_, rfl, rfl, _, rfl, h⟩) (ite2 (fun _ => ?_) (fun c => absurd (by decide) c))
      exact ⟨_, rfl, b, _, _, _, rfl, rfl, hb, rfl, _, rfl, b, _, _, _, rfl, rfl, hb, rfl, _, rfl, _, _, a, ns, rfl, ha, k⟩
    · -- forget
      obtain ⟨y0, y1, rfl⟩ := len2 hl0
      cases (show some (Vabldj.Call.forget y0 y1 ns) = some call from hcall)
      try dsimp only [tNext]
      refine sif_or3 _ _ _ (fun Q h => ⟨_, rfl, rfl, _, rfl, h⟩) (fun Q h => ⟨_, rfl, rfl, _, rfl, h⟩) (fun Q h => ⟨_, rfl, rfl, _, rfl, h⟩) (ite2 (fun c => absurd c (by decide)) (fun _ => ?_))
      try dsimp only [tNext]
      refine sif_or3 _ _ _ (fun Q h => ⟨_, rfl, rfl, _, rfl, h⟩) (fun Q h => ⟨_, rfl, rfl, _, rfl, h⟩) (fun Q h => ⟨_, rfl, rfl, _, rfl, h⟩) (ite2 (fun c => absurd c (by decide)) (fun _ => ?_))
      refine ⟨_, rfl, rfl, _, rfl, ite2 (fun c => absurd c (by decide)) (fun _ => ?_)⟩
      try dsimp only [tNext]
      refine sif_or3 _ _ _ (fun Q h => ⟨_, rfl, rfl, _, rfl, h⟩) (fun Q h => ⟨_, rfl, rfl, _, rfl, h⟩) (fun Q h => ⟨_, rfl, rfl, _, rfl, h⟩) (ite2 (fun _ => ?_) (fun c => absurd (by decide) c))
      exact ⟨_, rfl, b, _, _, _, rfl, rfl, hb, rfl, _, rfl, b, _, _, _, rfl, rfl, hb, rfl, _, rfl, _, _, a, ns, rfl, ha, k⟩
    · -- clean
      obtain ⟨y0, rfl⟩ := len1 hl0
      cases (show some (Vabldj.Call.clean y0) = some call from hcall)
      try dsimp only [tNext]
      refine sif_or3 _ _ _ (fun Q h => ⟨_, rfl, rfl, _, rfl, h⟩) (fun Q h => ⟨_, rfl, rfl, _, rfl, h⟩) (fun Q h => ⟨_, rfl, rfl, _, rfl, h⟩) (ite2 (fun _ => ?_) (fun c => absurd (by decide) c))
      exact ⟨_, rfl, b, _, _, _, rfl, rfl, hb, rfl, _, rfl, k⟩
    · -- share
      obtain rfl := len0 hl0
      cases (show some (Vabldj.Call.share) = some call from hcall)
      try dsimp only [tNext]
      refine sif_or3 _ _ _ (fun Q h => ⟨_, rfl, rfl, _, rfl, h⟩) (fun Q h => ⟨_, rfl, rfl, _, rfl, h⟩) (fun Q h => ⟨_, rfl, rfl, _, rfl, h⟩) (ite2 (fun c => absurd c (by decide)) (fun _ => ?_))
      try dsimp only [tNext]
      refine sif_or3 _ _ _ (fun Q h => ⟨_, rfl, rfl, _, rfl, h⟩) (fun Q h => ⟨_, rfl, rfl, _, rfl, h⟩) (fun Q h => ⟨_, rfl, rfl, _, rfl, h⟩) (ite2 (fun c => absurd c (by decide)) (fun _ => ?_))
      refine ⟨_, rfl, rfl, _, rfl, ite2 (fun c => absurd c (by decide)) (fun _ => ?_)⟩
      try dsimp only [tNext]
      refine sif_or3 _ _ _ (fun Q h => ⟨_, rfl, rfl, _, rfl, h⟩) (fun Q h => ⟨_, rfl, rfl, _, rfl, h⟩) (fun Q h => ⟨_, rfl, rfl, _, rfl, h⟩) (ite2 (fun c => absurd c (by decide)) (fun _ => ?_))
      exact k
    · -- has
      obtain ⟨y0, y1, rfl⟩ := len2 hl0
      cases (show some (Vabldj.Call.has y0 y1 ns) = some call from hcall)
      try dsimp only [tNext]
      refine sif_or3 _ _ _ (fun Q h => ⟨_, rfl, rfl, _, rfl, h⟩) (fun Q h => ⟨_, rfl, rfl, _, rfl, h⟩) (fun Q h => ⟨_, rfl, rfl, _, rfl, h⟩) (ite2 (fun c => absurd c (by decide)) (fun _ => ?_))
      try dsimp only [tNext]
      refine sif_or3 _ _ _ (fun Q h => ⟨_, rfl, rfl, _, rfl, h⟩) (fun Q h => ⟨_, rfl, rfl, _, rfl, h⟩) (fun Q h => ⟨_, rfl, rfl, _, rfl, h⟩) (ite2 (fun c => absurd c (by decide)) (fun _ => ?_))
      refine ⟨_, rfl, rfl, _, rfl, ite2 (fun c => absurd c (by decide)) (fun _ => ?_)⟩
      try dsimp only [tNext]
      refine sif_or3 _ _ _ (fun Q h => ⟨_, rfl, rfl, _, rfl, h⟩) (fun Q h => ⟨_, rfl, rfl, _, rfl, h⟩) (fun Q h => ⟨_, rfl, rfl, _, rfl, h⟩) (ite2 (fun _ => ?_) (fun c => absurd (by decide) c))
      exact ⟨_, rfl, b, _, _, _, rfl, rfl, hb, rfl, _, rfl, b, _, _, _, rfl, rfl, hb, rfl, _, rfl, _, _, a, ns, rfl, ha, k⟩
    · -- list
      obtain ⟨y0, rfl⟩ := len1 hl0
      cases (show some (Vabldj.Call.list y0) = some call from hcall)
      try dsimp only [tNext]
      refine sif_or3 _ _ _ (fun Q h => ⟨_, rfl, rfl, _, rfl, h⟩) (fun Q h => ⟨_, rfl, rfl, _, rfl, h⟩) (fun Q h => ⟨_, rfl, rfl, _, rfl, h⟩) (ite2 (fun _ => ?_) (fun c => absurd (by decide) c))
      exact ⟨_, rfl, b, _, _, _, rfl, rfl, hb, rfl, _, rfl, k⟩
    · -- counts
      obtain rfl := len0 hl0
      cases (show some (Vabldj.Call.counts) = some call from hcall)
      try dsimp only [tNext]
      refine sif_or3 _ _ _ (fun Q h => ⟨_, rfl, rfl, _, rfl, h⟩) (fun Q h => ⟨_, rfl, rfl, _, rfl, h⟩) (fun Q h => ⟨_, rfl, rfl, _, rfl, h⟩) (ite2 (fun c => absurd c (by decide)) (fun _ => ?_))
      try dsimp only [tNext]
      refine sif_or3 _ _ _ (fun Q h => ⟨_, rfl, rfl, _, rfl, h⟩) (fun Q h => ⟨_, rfl, rfl, _, rfl, h⟩) (fun Q h => ⟨_, rfl, rfl, _, rfl, h⟩) (ite2 (fun c => absurd c (by decide)) (fun _ => ?_))
      refine ⟨_, rfl, rfl, _, rfl, ite2 (fun c => absurd c (by decide)) (fun _ => ?_)⟩
      try dsimp only [tNext]
      refine sif_or3 _ _ _ (fun Q h => ⟨_, rfl, rfl, _, rfl, h⟩) (fun Q h => ⟨_, rfl, rfl, _, rfl, h⟩) (fun Q h => ⟨_, rfl, rfl, _, rfl, h⟩) (ite2 (fun c => absurd c (by decide)) (fun _ => ?_))
      exact k
theorem ok_answer_call (T : Txt K mg CE CS CO) (D : DefG K mg "answer_call" s_answer_call ["session", "call", "numbers", "row"]) (p_look_at_call : Prom P w K mg base 4 "look_at_call" ["call", "numbers", "row"] (sp_look_at_call K)) (m_Session_set_room : ∀ M, PromM P w K mg base 4 CO "set_room" ["self", "number", "n"] (sp_Session_set_room CE CS CO M)) (m_Session_set_there : ∀ M, PromM P w K mg base 1 CO "set_there" ["self", "b"] (sp_Session_set_there CE CS CO M)) (m_Session_set_send : ∀ M, PromM P w K mg base 1 CO "set_send" ["self", "b"] (sp_Session_set_send CE CS CO M)) (m_Session_set_failing : ∀ M, PromM P w K mg base 1 CO "set_failing" ["self", "b"] (sp_Session_set_failing CE CS CO M)) (m_Session_do : ∀ M, PromM P w K mg base 7 CO "do" ["self", "tool", "given"] (sp_do K CE CS CO M)) (m_Session_cut : ∀ M, PromM P w K mg base 3 CO "cut" ["self", "number", "tool", "n", "given"] (sp_cut K CE CS CO M)) (m_Session_forget : ∀ M, PromM P w K mg base 3 CO "forget" ["self", "number", "tool", "given"] (sp_forget K CE CS CO M)) (m_Session_clean : ∀ M, PromM P w K mg base 3 CO "clean" ["self", "number"] (sp_clean CE CS CO M)) (m_Session_share : ∀ M, PromM P w K mg base 6 CO "share" ["self"] (sp_share CE CS CO M)) (m_Session_has : ∀ M, PromM P w K mg base 3 CO "has" ["self", "number", "tool", "given"] (sp_has K CE CS CO M)) (m_Session_list_entries : ∀ M, PromM P w K mg base 2 CO "list_entries" ["self", "number"] (sp_list CE CS CO M)) (m_Session_counts : ∀ M, PromM P w K mg base 3 CO "counts" ["self"] (sp_Session_counts CE CS CO M)) :
    Prom P w K mg base 8 "answer_call" ["session", "call", "numbers", "row"] (sp_answer_call K CE CS CO) := by
  have sc := sc_answer_call
  refine D.prom sc (fun vs H Q E h => ?_) (fun f cdv A outer s H vs Q E hr h => ?_)
  · obtain ⟨M, F, p, S, c, b, xs, a, ns, k, call, rfl, _⟩ := h
    rfl
  · obtain ⟨M, F, p, S, c, b, xs, a, ns, kk, call, rfl, x, ok, hb, ha, nf, hsh, hcall, k⟩ := h
    have m_Session_set_room := m_Session_set_room M
    have m_Session_set_there := m_Session_set_there M
    have m_Session_set_send := m_Session_set_send M
    have m_Session_set_failing := m_Session_set_failing M
    have m_Session_do := m_Session_do M
    have m_Session_cut := m_Session_cut M
    have m_Session_forget := m_Session_forget M
    have m_Session_clean := m_Session_clean M
    have m_Session_share := m_Session_share M
    have m_Session_has := m_Session_has M
    have m_Session_list_entries := m_Session_list_entries M
    have m_Session_counts := m_Session_counts M
    refine ⟨_, (pss_cons (ps_set (i := 4) sc.nd rfl (Or.inl rfl) (pe_callP p_look_at_call (hr.mono (by decide)) (pa_cons (pv 1) (pa_cons (pv 2) (pa_cons (pv 3) pa_nil)))))
      (pss_cons (ps_if (pt_cmpR op_ne (pv 4) (pe_gi T.g_FINE) (nomark _)) (pss_one (ps_ret (pe_lst (pa_cons (pv 4) pa_nil)))) pss_nil)
      (pss_cons (ps_if (pt_cmpR op_eq (pv 1) (pe_gi T.g_ROOM_CALL) (nomark _)) (pss_one (ps_ret (pe_methP m_Session_set_room T.c_Session (hr.mono (by decide)) (pv 0) (pa_cons (pe_ix ix_list (pv 2) pe_int (fun _ _ => rfl)) (pa_cons (pe_ix ix_list (pv 2) pe_int (fun _ _ => rfl)) pa_nil))))) pss_nil)
      (pss_cons (ps_if (pt_cmpR op_eq (pv 1) (pe_gi T.g_THERE_CALL) (nomark _)) (pss_one (ps_ret (pe_methP m_Session_set_there T.c_Session (hr.mono (by decide)) (pv 0) (pa_cons (pe_ix ix_list (pv 2) pe_int (fun _ _ => rfl)) pa_nil)))) pss_nil)
      (pss_cons (ps_if (pt_cmpR op_eq (pv 1) (pe_gi T.g_SEND_CALL) (nomark _)) (pss_one (ps_ret (pe_methP m_Session_set_send T.c_Session (hr.mono (by decide)) (pv 0) (pa_cons (pe_ix ix_list (pv 2) pe_int (fun _ _ => rfl)) pa_nil)))) pss_nil)
      (pss_cons (ps_if (pt_cmpR op_eq (pv 1) (pe_gi T.g_FAILING_CALL) (nomark _)) (pss_one (ps_ret (pe_methP m_Session_set_failing T.c_Session (hr.mono (by decide)) (pv 0) (pa_cons (pe_ix ix_list (pv 2) pe_int (fun _ _ => rfl)) pa_nil)))) pss_nil)
      (pss_cons (ps_if (pt_cmpR op_eq (pv 1) (pe_gi T.g_DO_CALL) (nomark _)) (pss_one (ps_ret (pe_methP m_Session_do T.c_Session (hr.mono (by decide)) (pv 0) (pa_cons (pe_ix ix_list (pv 2) pe_int (fun _ _ => rfl)) (pa_cons (pv 3) pa_nil))))) pss_nil)
      (pss_cons (ps_if (pt_cmpR op_eq (pv 1) (pe_gi T.g_CUT_CALL) (nomark _)) (pss_one (ps_ret (pe_methP m_Session_cut T.c_Session (hr.mono (by decide)) (pv 0) (pa_cons (pe_ix ix_list (pv 2) pe_int (fun _ _ => rfl)) (pa_cons (pe_ix ix_list (pv 2) pe_int (fun _ _ => rfl)) (pa_cons (pe_ix ix_list (pv 2) pe_int (fun _ _ => rfl)) (pa_cons (pv 3) pa_nil))))))) pss_nil)
      (pss_cons (ps_if (pt_cmpR op_eq (pv 1) (pe_gi T.g_FORGET_CALL) (nomark _)) (pss_one (ps_ret (pe_methP m_Session_forget T.c_Session (hr.mono (by decide)) (pv 0) (pa_cons (pe_ix ix_list (pv 2) pe_int (fun _ _ => rfl)) (pa_cons (pe_ix ix_list (pv 2) pe_int (fun _ _ => rfl)) (pa_cons (pv 3) pa_nil)))))) pss_nil)
      (pss_cons (ps_if (pt_cmpR op_eq (pv 1) (pe_gi T.g_CLEAN_CALL) (nomark _)) (pss_one (ps_ret (pe_methP m_Session_clean T.c_Session (hr.mono (by decide)) (pv 0) (pa_cons (pe_ix ix_list (pv 2) pe_int (fun _ _ => rfl)) pa_nil)))) pss_nil)
      (pss_cons (ps_if (pt_cmpR op_eq (pv 1) (pe_gi T.g_SHARE_CALL) (nomark _)) (pss_one (ps_ret (pe_methP0 m_Session_share T.c_Session (hr.mono (by decide)) (pv 0)))) pss_nil)
      (pss_cons (ps_if (pt_cmpR op_eq (pv 1) (pe_gi T.g_HAS_CALL) (nomark _)) (pss_one (ps_ret (pe_methP m_Session_has T.c_Session (hr.mono (by decide)) (pv 0) (pa_cons (pe_ix ix_list (pv 2) pe_int (fun _ _ => rfl)) (pa_cons (pe_ix ix_list (pv 2) pe_int (fun _ _ => rfl)) (pa_cons (pv 3) pa_nil)))))) pss_nil)
      (pss_cons (ps_if (pt_cmpR op_eq (pv 1) (pe_gi T.g_LIST_CALL) (nomark _)) (pss_one (ps_ret (pe_methP m_Session_list_entries T.c_Session (hr.mono (by decide)) (pv 0) (pa_cons (pe_ix ix_list (pv 2) pe_int (fun _ _ => rfl)) pa_nil)))) pss_nil)
      (pss_one (ps_ret (pe_methP0 m_Session_counts T.c_Session (hr.mono (by decide)) (pv 0))))))))))))))))), ?_⟩
    obtain ⟨dx, n, f, ob⟩ := x.ob
    have bd := ok.bd
    refine ⟨_, rfl, _, rfl, _, rfl, c, b, xs, a, ns, kk, call, rfl, hb, ha, hsh, hcall, ?_⟩
    refine ⟨_, rfl, rfl, _, rfl, ite2 (fun cr => ?_) (fun cr => ?_)⟩
    · have hl : ¬ lookR call = 0 := by simpa using cr
      rw [look_no hl] at k
      exact ⟨_, rfl, by show 1 ≤ sizeLine; decide, fun r hr => k.ret x (Ext.refl F H) hr⟩
    have hl : lookR call = 0 := by simpa using cr
    clear cr
    generalize hl0 : xs.length = n0 at hsh
    rcases shape_cases hsh with ⟨rfl, rfl, rfl⟩ | ⟨rfl, rfl, rfl⟩ | ⟨rfl, rfl, rfl⟩ | ⟨rfl, rfl, rfl⟩ | ⟨rfl, rfl, rfl⟩ | ⟨rfl, rfl, rfl⟩ | ⟨rfl, rfl, rfl⟩ | ⟨rfl, rfl, rfl⟩ | ⟨rfl, rfl, rfl⟩ | ⟨rfl, rfl, rfl⟩ | ⟨rfl, rfl, rfl⟩ | ⟨rfl, rfl, rfl⟩
    · -- room
      obtain ⟨y0, y1, rfl⟩ := len2 hl0
      cases (show some (Vabldj.Call.room y0 y1) = some call from hcall)
      refine ⟨_, rfl, rfl, _, rfl, ite2 (fun _ => ?_) (fun c => absurd (by decide) c)⟩
      exact ⟨_, rfl, p, dx, _, rfl, ob, oF_no _ _ _ _ (by decide +kernel), _, rfl, b, _, _, _, rfl, rfl, hb, rfl, _, rfl, b, _, _, _, rfl, rfl, hb, rfl, F, p, S, _, _, rfl, storeR_0.mp hl, x, bd, k⟩
    · -- there
      obtain ⟨y0, rfl⟩ := len1 hl0
      cases (show some (Vabldj.Call.there y0) = some call from hcall)
      refine ⟨_, rfl, rfl, _, rfl, ite2 (fun c => absurd c (by decide)) (fun _ => ?_)⟩
      refine ⟨_, rfl, rfl, _, rfl, ite2 (fun _ => ?_) (fun c => absurd (by decide) c)⟩
      exact ⟨_, rfl, p, dx, _, rfl, ob, oF_no _ _ _ _ (by decide +kernel), _, rfl, b, _, _, _, rfl, rfl, hb, rfl, F, p, S, _, rfl, truthR_0.mp hl, x, k⟩
    · -- send
      obtain ⟨y0, rfl⟩ := len1 hl0
      cases (show some (Vabldj.Call.send y0) = some call from hcall)
      refine ⟨_, rfl, rfl, _, rfl, ite2 (fun c => absurd c (by decide)) (fun _ => ?_)⟩
      refine ⟨_, rfl, rfl, _, rfl, ite2 (fun c => absurd c (by decide)) (fun _ => ?_)⟩
      refine ⟨_, rfl, rfl, _, rfl, ite2 (fun _ => ?_) (fun c => absurd (by decide) c)⟩
      exact ⟨_, rfl, p, dx, _, rfl, ob, oF_no _ _ _ _ (by decide +kernel), _, rfl, b, _, _, _, rfl, rfl, hb, rfl, F, p, S, _, rfl, truthR_0.mp hl, x, k⟩
    · -- failing
      obtain ⟨y0, rfl⟩ := len1 hl0
      cases (show some (Vabldj.Call.failing y0) = some call from hcall)
      refine ⟨_, rfl, rfl, _, rfl, ite2 (fun c => absurd c (by decide)) (fun _ => ?_)⟩
      refine ⟨_, rfl, rfl, _, rfl, ite2 (fun c => absurd c (by decide)) (fun _ => ?_)⟩
      refine ⟨_, rfl, rfl, _, rfl, ite2 (fun c => absurd c (by decide)) (fun _ => ?_)⟩
      refine ⟨_, rfl, rfl, _, rfl, ite2 (fun _ => ?_) (fun c => absurd (by decide) c)⟩
      exact ⟨_, rfl, p, dx, _, rfl, ob, oF_no _ _ _ _ (by decide +kernel), _, rfl, b, _, _, _, rfl, rfl, hb, rfl, F, p, S, _, rfl, truthR_0.mp hl, x, k⟩
    · -- do_
      obtain ⟨y0, rfl⟩ := len1 hl0
      cases (show some (Vabldj.Call.do_ y0 ns) = some call from hcall)
      refine ⟨_, rfl, rfl, _, rfl, ite2 (fun c => absurd c (by decide)) (fun _ => ?_)⟩
      refine ⟨_, rfl, rfl, _, rfl, ite2 (fun c => absurd c (by decide)) (fun _ => ?_)⟩
      refine ⟨_, rfl, rfl, _, rfl, ite2 (fun c => absurd c (by decide)) (fun _ => ?_)⟩
      refine ⟨_, rfl, rfl, _, rfl, ite2 (fun c => absurd c (by decide)) (fun _ => ?_)⟩
      refine ⟨_, rfl, rfl, _, rfl, ite2 (fun _ => ?_) (fun c => absurd (by decide) c)⟩
      exact ⟨_, rfl, p, dx, _, rfl, ob, oF_no _ _ _ _ (by decide +kernel), _, rfl, b, _, _, _, rfl, rfl, hb, rfl, _, rfl, F, p, S, _, a, ns, rfl, hl, x, bd, ok.near.keys, ok.far.keys, ha, nf, k⟩
    · -- cut
      obtain ⟨y0, y1, y2, rfl⟩ := len3 hl0
      cases (show some (Vabldj.Call.cut y0 y1 y2 ns) = some call from hcall)
      refine ⟨_, rfl, rfl, _, rfl, ite2 (fun c => absurd c (by decide)) (fun _ => ?_)⟩
      refine ⟨_, rfl, rfl, _, rfl, ite2 (fun c => absurd c (by decide)) (fun _ => ?_)⟩
      refine ⟨_, rfl, rfl, _, rfl, ite2 (fun c => absurd c (by decide)) (fun _ => ?_)⟩
      refine ⟨_, rfl, rfl, _, rfl, ite2 (fun c => absurd c (by decide)) (fun _ => ?_)⟩
      refine ⟨_, rfl, rfl, _, rfl, ite2 (fun c => absurd c (by decide)) (fun _ => ?_)⟩
      refine ⟨_, rfl, rfl, _, rfl, ite2 (fun _ => ?_) (fun c => absurd (by decide) c)⟩
      exact ⟨_, rfl, p, dx, _, rfl, ob, oF_no _ _ _ _ (by decide +kernel), _, rfl, b, _, _, _, rfl, rfl, hb, rfl, _, rfl, b, _, _, _, rfl, rfl, hb, rfl, _, rfl, b, _, _, _, rfl, rfl, hb, rfl, _, rfl, F, p, S, _, _, _, a, ns, rfl, stored_0 hl, x, ok.near.keys, ok.far.keys, ha, k⟩
    · -- forget
      obtain ⟨y0, y1, rfl⟩ := len2 hl0
      cases (show some (Vabldj.Call.forget y0 y1 ns) = some call from hcall)
      refine ⟨_, rfl, rfl, _, rfl, ite2 (fun c => absurd c (by decide)) (fun _ => ?_)⟩
      refine ⟨_, rfl, rfl, _, rfl, ite2 (fun c => absurd c (by decide)) (fun _ => ?_)⟩
      refine ⟨_, rfl, rfl, _, rfl, ite2 (fun c => absurd c (by decide)) (fun _ => ?_)⟩
      refine ⟨_, rfl, rfl, _, rfl, ite2 (fun c => absurd c (by decide)) (fun _ => ?_)⟩
      refine ⟨_, rfl, rfl, _, rfl, ite2 (fun c => absurd c (by decide)) (fun _ => ?_)⟩
      refine ⟨_, rfl, rfl, _, rfl, ite2 (fun c => absurd c (by decide)) (fun _ => ?_)⟩
      refine ⟨_, rfl, rfl, _, rfl, ite2 (fun _ => ?_) (fun c => absurd (by decide) c)⟩
      exact ⟨_, rfl, p, dx, _, rfl, ob, oF_no _ _ _ _ (by decide +kernel), _, rfl, b, _, _, _, rfl, rfl, hb, rfl, _, rfl, b, _, _, _, rfl, rfl, hb, rfl, _, rfl, F, p, S, _, _, a, ns, rfl, stored_0 hl, x, bd, ok.near.keys, ok.far.keys, ha, k⟩
    · -- clean
      obtain ⟨y0, rfl⟩ := len1 hl0
      cases (show some (Vabldj.Call.clean y0) = some call from hcall)
      refine ⟨_, rfl, rfl, _, rfl, ite2 (fun c => absurd c (by decide)) (fun _ => ?_)⟩
      refine ⟨_, rfl, rfl, _, rfl, ite2 (fun c => absurd c (by decide)) (fun _ => ?_)⟩
      refine ⟨_, rfl, rfl, _, rfl, ite2 (fun c => absurd c (by decide)) (fun _ => ?_)⟩
      refine ⟨_, rfl, rfl, _, rfl, ite2 (fun c => absurd c (by decide)) (fun _ => ?_)⟩
      refine ⟨_, rfl, rfl, _, rfl, ite2 (fun c => absurd c (by decide)) (fun _ => ?_)⟩
      refine ⟨_, rfl, rfl, _, rfl, ite2 (fun c => absurd c (by decide)) (fun _ => ?_)⟩
      refine ⟨_, rfl, rfl, _, rfl, ite2 (fun c => absurd c (by decide)) (fun _ => ?_)⟩
      refine ⟨_, rfl, rfl, _, rfl, ite2 (fun _ => ?_) (fun c => absurd (by decide) c)⟩
      exact ⟨_, rfl, p, dx, _, rfl, ob, oF_no _ _ _ _ (by decide +kernel), _, rfl, b, _, _, _, rfl, rfl, hb, rfl, F, p, S, _, rfl, storeR_0.mp hl, x, bd, k⟩
    · -- share
      obtain rfl := len0 hl0
      cases (show some (Vabldj.Call.share) = some call from hcall)
      refine ⟨_, rfl, rfl, _, rfl, ite2 (fun c => absurd c (by decide)) (fun _ => ?_)⟩
      refine ⟨_, rfl, rfl, _, rfl, ite2 (fun c => absurd c (by decide)) (fun _ => ?_)⟩
      refine ⟨_, rfl, rfl, _, rfl, ite2 (fun c => absurd c (by decide)) (fun _ => ?_)⟩
      refine ⟨_, rfl, rfl, _, rfl, ite2 (fun c => absurd c (by decide)) (fun _ => ?_)⟩
      refine ⟨_, rfl, rfl, _, rfl, ite2 (fun c => absurd c (by decide)) (fun _ => ?_)⟩
      refine ⟨_, rfl, rfl, _, rfl, ite2 (fun c => absurd c (by decide)) (fun _ => ?_)⟩
      refine ⟨_, rfl, rfl, _, rfl, ite2 (fun c => absurd c (by decide)) (fun _ => ?_)⟩
      refine ⟨_, rfl, rfl, _, rfl, ite2 (fun c => absurd c (by decide)) (fun _ => ?_)⟩
      refine ⟨_, rfl, rfl, _, rfl, ite2 (fun _ => ?_) (fun c => absurd (by decide) c)⟩
      exact ⟨_, rfl, p, dx, _, rfl, ob, oF_no _ _ _ _ (by decide +kernel), F, p, S, rfl, x, ok, k⟩
    · -- has
      obtain ⟨y0, y1, rfl⟩ := len2 hl0
      cases (show some (Vabldj.Call.has y0 y1 ns) = some call from hcall)
      refine ⟨_, rfl, rfl, _, rfl, ite2 (fun c => absurd c (by decide)) (fun _ => ?_)⟩
      refine ⟨_, rfl, rfl, _, rfl, ite2 (fun c => absurd c (by decide)) (fun _ => ?_)⟩
      refine ⟨_, rfl, rfl, _, rfl, ite2 (fun c => absurd c (by decide)) (fun _ => ?_)⟩
      refine ⟨_, rfl, rfl, _, rfl, ite2 (fun c => absurd c (by decide)) (fun _ => ?_)⟩
      refine ⟨_, rfl, rfl, _, rfl, ite2 (fun c => absurd c (by decide)) (fun _ => ?_)⟩
      refine ⟨_, rfl, rfl, _, rfl, ite2 (fun c => absurd c (by decide)) (fun _ => ?_)⟩
      refine ⟨_, rfl, rfl, _, rfl, ite2 (fun c => absurd c (by decide)) (fun _ => ?_)⟩
      refine ⟨_, rfl, rfl, _, rfl, ite2 (fun c => absurd c (by decide)) (fun _ => ?_)⟩
      refine ⟨_, rfl, rfl, _, rfl, ite2 (fun c => absurd c (by decide)) (fun _ => ?_)⟩
      refine ⟨_, rfl, rfl, _, rfl, ite2 (fun _ => ?_) (fun c => absurd (by decide) c)⟩
      exact ⟨_, rfl, p, dx, _, rfl, ob, oF_no _ _ _ _ (by decide +kernel), _, rfl, b, _, _, _, rfl, rfl, hb, rfl, _, rfl, b, _, _, _, rfl, rfl, hb, rfl, _, rfl, F, p, S, _, _, a, ns, rfl, stored_0 hl, x, ha, k⟩
    · -- list
      obtain ⟨y0, rfl⟩ := len1 hl0
      cases (show some (Vabldj.Call.list y0) = some call from hcall)
      refine ⟨_, rfl, rfl, _, rfl, ite2 (fun c => absurd c (by decide)) (fun _ => ?_)⟩
      refine ⟨_, rfl, rfl, _, rfl, ite2 (fun c => absurd c (by decide)) (fun _ => ?_)⟩
      refine ⟨_, rfl, rfl, _, rfl, ite2 (fun c => absurd c (by decide)) (fun _ => ?_)⟩
      refine ⟨_, rfl, rfl, _, rfl, ite2 (fun c => absurd c (by decide)) (fun _ => ?_)⟩
      refine ⟨_, rfl, rfl, _, rfl, ite2 (fun c => absurd c (by decide)) (fun _ => ?_)⟩
      refine ⟨_, rfl, rfl, _, rfl, ite2 (fun c => absurd c (by decide)) (fun _ => ?_)⟩
      refine ⟨_, rfl, rfl, _, rfl, ite2 (fun c => absurd c (by decide)) (fun _ => ?_)⟩
      refine ⟨_, rfl, rfl, _, rfl, ite2 (fun c => absurd c (by decide)) (fun _ => ?_)⟩
      refine ⟨_, rfl, rfl, _, rfl, ite2 (fun c => absurd c (by decide)) (fun _ => ?_)⟩
      refine ⟨_, rfl, rfl, _, rfl, ite2 (fun c => absurd c (by decide)) (fun _ => ?_)⟩
      refine ⟨_, rfl, rfl, _, rfl, ite2 (fun _ => ?_) (fun c => absurd (by decide) c)⟩
      exact ⟨_, rfl, p, dx, _, rfl, ob, oF_no _ _ _ _ (by decide +kernel), _, rfl, b, _, _, _, rfl, rfl, hb, rfl, F, p, S, _, rfl, storeR_0.mp hl, x, bd, k⟩
    · -- counts
      obtain rfl := len0 hl0
      cases (show some (Vabldj.Call.counts) = some call from hcall)
      refine ⟨_, rfl, rfl, _, rfl, ite2 (fun c => absurd c (by decide)) (fun _ => ?_)⟩
      refine ⟨_, rfl, rfl, _, rfl, ite2 (fun c => absurd c (by decide)) (fun _ => ?_)⟩
      refine ⟨_, rfl, rfl, _, rfl, ite2 (fun c => absurd c (by decide)) (fun _ => ?_)⟩
      refine ⟨_, rfl, rfl, _, rfl, ite2 (fun c => absurd c (by decide)) (fun _ => ?_)⟩
      refine ⟨_, rfl, rfl, _, rfl, ite2 (fun c => absurd c (by decide)) (fun _ => ?_)⟩
      refine ⟨_, rfl, rfl, _, rfl, ite2 (fun c => absurd c (by decide)) (fun _ => ?_)⟩
      refine ⟨_, rfl, rfl, _, rfl, ite2 (fun c => absurd c (by decide)) (fun _ => ?_)⟩
      refine ⟨_, rfl, rfl, _, rfl, ite2 (fun c => absurd c (by decide)) (fun _ => ?_)⟩
      refine ⟨_, rfl, rfl, _, rfl, ite2 (fun c => absurd c (by decide)) (fun _ => ?_)⟩
      refine ⟨_, rfl, rfl, _, rfl, ite2 (fun c => absurd c (by decide)) (fun _ => ?_)⟩
      refine ⟨_, rfl, rfl, _, rfl, ite2 (fun c => absurd c (by decide)) (fun _ => ?_)⟩
      exact ⟨_, rfl, p, dx, _, rfl, ob, oF_no _ _ _ _ (by decide +kernel), F, p, S, rfl, x, bd, k⟩
end
end Ac

set_option Elab.async false
set_option linter.all false
set_option maxRecDepth 100000
set_option maxHeartbeats 4000000
namespace Ac
open PySem PySem.Spec PyProof.Rows L2
theorem all_mk {P : Program} {w : World} {K : PySem.W.Frag} {h : Heap} {mg : Str → Option Value} {fa CE CS CO dS f0 f1 f2 f3 f4 f5 f6 f7 f8 f9 f10 f11 f12 f13 f14 f15 f16 f17 f18 f19 f20 f21 f22 f23 f24 f25 f26 f27 f28 f29 f30 f31 f32 f33 f34 f35 f36 f37 f38 f39 f40 f41 f42 f43 f44 ta0 ta1 ta2 ta3 ta4 ta5 ta6 ta7 ta8 ta9 ta10 ta11 : Addr} {od0 an0 od1 an1 od2 an2 od3 an3 od4 an4 od5 an5 od6 an6 od7 an7 od8 an8 od9 an9 od10 an10 od11 an11 od12 an12 od13 an13 od14 an14 od15 an15 od16 an16 od17 an17 od18 an18 od19 an19 od20 an20 od21 an21 od22 an22 od23 an23 od24 an24 od25 an25 od26 an26 od27 an27 od28 an28 od29 an29 od30 an30 od31 an31 od32 an32 od33 an33 od34 an34 od35 an35 od36 an36 od37 an37 od38 an38 od39 an39 od40 an40 od41 an41 od42 an42 od43 an43 od44 an44 td0 td1 td2 td3 td4 td5 td6 td7 td8 td9 td10 td11 : Option Addr} {sl0 sl1 sl2 sl3 sl4 sl5 sl6 sl7 sl8 sl9 sl10 sl11 sl12 sl13 sl14 sl15 sl16 sl17 sl18 sl19 sl20 sl21 sl22 sl23 sl24 sl25 sl26 sl27 sl28 sl29 sl30 sl31 sl32 sl33 sl34 sl35 sl36 sl37 sl38 sl39 sl40 sl41 sl42 sl43 sl44 tw0 tw1 tw2 tw3 tw4 tw5 tw6 tw7 tw8 tw9 tw10 tw11 : Array (Option Value)} {oc0 kV0 dc0 pm0 cd0 ct0 oc1 kV1 dc1 pm1 cd1 ct1 oc2 kV2 dc2 pm2 cd2 ct2 oc3 kV3 dc3 pm3 cd3 ct3 oc4 kV4 dc4 pm4 cd4 ct4 oc5 kV5 dc5 pm5 cd5 ct5 oc6 kV6 dc6 pm6 cd6 ct6 oc7 kV7 dc7 pm7 cd7 ct7 oc8 kV8 dc8 pm8 cd8 ct8 oc9 kV9 dc9 pm9 cd9 ct9 oc10 kV10 dc10 pm10 cd10 ct10 oc11 kV11 dc11 pm11 cd11 ct11 oc12 kV12 dc12 pm12 cd12 ct12 oc13 kV13 dc13 pm13 cd13 ct13 oc14 kV14 dc14 pm14 cd14 ct14 oc15 kV15 dc15 pm15 cd15 ct15 oc16 kV16 dc16 pm16 cd16 ct16 oc17 kV17 dc17 pm17 cd17 ct17 oc18 kV18 dc18 pm18 cd18 ct18 oc19 kV19 dc19 pm19 cd19 ct19 oc20 kV20 dc20 pm20 cd20 ct20 oc21 kV21 dc21 pm21 cd21 ct21 oc22 kV22 dc22 pm22 cd22 ct22 oc23 kV23 dc23 pm23 cd23 ct23 oc24 kV24 dc24 pm24 cd24 ct24 oc25 kV25 dc25 pm25 cd25 ct25 oc26 kV26 dc26 pm26 cd26 ct26 oc27 kV27 dc27 pm27 cd27 ct27 oc28 kV28 dc28 pm28 cd28 ct28 oc29 kV29 dc29 pm29 cd29 ct29 oc30 kV30 dc30 pm30 cd30 ct30 oc31 kV31 dc31 pm31 cd31 ct31 oc32 kV32 dc32 pm32 cd32 ct32 oc33 kV33 dc33 pm33 cd33 ct33 oc34 kV34 dc34 pm34 cd34 ct34 oc35 kV35 dc35 pm35 cd35 ct35 oc36 kV36 dc36 pm36 cd36 ct36 oc37 kV37 dc37 pm37 cd37 ct37 oc38 kV38 dc38 pm38 cd38 ct38 oc39 kV39 dc39 pm39 cd39 ct39 oc40 kV40 dc40 pm40 cd40 ct40 oc41 kV41 dc41 pm41 cd41 ct41 oc42 kV42 dc42 pm42 cd42 ct42 oc43 kV43 dc43 pm43 cd43 ct43 oc44 kV44 dc44 pm44 cd44 ct44 : Value} {gt0 gt1 gt2 gt3 gt4 gt5 gt6 gt7 gt8 gt9 gt10 gt11 gt12 gt13 gt14 gt15 gt16 gt17 gt18 gt19 gt20 gt21 gt22 gt23 gt24 gt25 gt26 gt27 gt28 tk0 tu0 tv0 tk1 tu1 tv1 tk2 tu2 tv2 tk3 tu3 tv3 tk4 tu4 tv4 tk5 tu5 tv5 tk6 tu6 tv6 tk7 tu7 tv7 tk8 tu8 tv8 tk9 tu9 tv9 tk10 tu10 tv10 tk11 tu11 tv11 : Tok} {epS : Nat} {th0 th1 th2 th3 th4 th5 th6 th7 th8 th9 th10 th11 : Int} {te0 te1 te2 te3 te4 te5 te6 te7 te8 te9 te10 te11 : Nat}
    (X : K.In h) (G : h.Ns mainGlobals mg) (hfa : mg "answers" = some (.ref fa))
    (g0 : PySem.W.nsIn K mainGlobals "LIMIT" = some (some (.int (-1) gt0)))
    (g1 : PySem.W.nsIn K mainGlobals "TOOL" = some (some (.int (-2) gt1)))
    (g2 : PySem.W.nsIn K mainGlobals "INPUT" = some (some (.int (-3) gt2)))
    (g3 : PySem.W.nsIn K mainGlobals "STORE" = some (some (.int (-4) gt3)))
    (g4 : PySem.W.nsIn K mainGlobals "ABSENT" = some (some (.int (-5) gt4)))
    (g5 : PySem.W.nsIn K mainGlobals "ROOM_CALL" = some (some (.int (0) gt5)))
    (g6 : PySem.W.nsIn K mainGlobals "THERE_CALL" = some (some (.int (1) gt6)))
    (g7 : PySem.W.nsIn K mainGlobals "SEND_CALL" = some (some (.int (2) gt7)))
    (g8 : PySem.W.nsIn K mainGlobals "FAILING_CALL" = some (some (.int (3) gt8)))
    (g9 : PySem.W.nsIn K mainGlobals "DO_CALL" = some (some (.int (4) gt9)))
    (g10 : PySem.W.nsIn K mainGlobals "CUT_CALL" = some (some (.int (5) gt10)))
    (g11 : PySem.W.nsIn K mainGlobals "FORGET_CALL" = some (some (.int (6) gt11)))
    (g12 : PySem.W.nsIn K mainGlobals "CLEAN_CALL" = some (some (.int (7) gt12)))
    (g13 : PySem.W.nsIn K mainGlobals "SHARE_CALL" = some (some (.int (8) gt13)))
    (g14 : PySem.W.nsIn K mainGlobals "HAS_CALL" = some (some (.int (9) gt14)))
    (g15 : PySem.W.nsIn K mainGlobals "LIST_CALL" = some (some (.int (10) gt15)))
    (g16 : PySem.W.nsIn K mainGlobals "LAST_TOOL" = some (some (.int (5) gt16)))
    (g17 : PySem.W.nsIn K mainGlobals "MOST_BYTES" = some (some (.int (64) gt17)))
    (g18 : PySem.W.nsIn K mainGlobals "LAST_BYTE" = some (some (.int (255) gt18)))
    (g19 : PySem.W.nsIn K mainGlobals "FIRST_ROOM" = some (some (.int (256) gt19)))
    (g20 : PySem.W.nsIn K mainGlobals "MOST_ROOM" = some (some (.int (1024) gt20)))
    (g21 : PySem.W.nsIn K mainGlobals "WORKED" = some (some (.int (0) gt21)))
    (g22 : PySem.W.nsIn K mainGlobals "FROM_NEAR" = some (some (.int (1) gt22)))
    (g23 : PySem.W.nsIn K mainGlobals "FROM_FAR" = some (some (.int (2) gt23)))
    (g24 : PySem.W.nsIn K mainGlobals "HAS_NONE" = some (some (.int (0) gt24)))
    (g25 : PySem.W.nsIn K mainGlobals "HAS_WHOLE" = some (some (.int (1) gt25)))
    (g26 : PySem.W.nsIn K mainGlobals "HAS_CUT" = some (some (.int (2) gt26)))
    (g27 : PySem.W.nsIn K mainGlobals "FINE" = some (some (.int (0) gt27)))
    (g28 : PySem.W.nsIn K mainGlobals "NOWHERE" = some (some (.int (-1) gt28)))
    (n_list : PySem.W.nsIn K mainGlobals "list" = some none)
    (n_reversed : PySem.W.nsIn K mainGlobals "reversed" = some none)
    (n_sorted : PySem.W.nsIn K mainGlobals "sorted" = some none)
    (n_sum : PySem.W.nsIn K mainGlobals "sum" = some none)
    (n_len : PySem.W.nsIn K mainGlobals "len" = some none)
    (n_enumerate : PySem.W.nsIn K mainGlobals "enumerate" = some none)
    (aCE : PySem.W.nsIn K mainGlobals "Entry" = some (some (.ref CE)))
    (pgCE : PySem.W.plainGet K CE Str.empty = true)
    (hdCE : PySem.W.hasDictIn K CE = true)
    (poCE : PySem.W.plainOver K CE = true)
    (saCE : PySem.W.findIn K (.ref CE) "__setattr__" = some (some (.builtin "object.__setattr__")))
    (mkCE : PySem.W.makesIn K CE = true)
    (kcCE : PySem.W.keepIn K (.ref CE) = true)
    (e_tool : PySem.W.findIn K (.ref CE) "tool" = some none)
    (e_given : PySem.W.findIn K (.ref CE) "given" = some none)
    (e_status : PySem.W.findIn K (.ref CE) "status" = some none)
    (e_length : PySem.W.findIn K (.ref CE) "length" = some none)
    (e_held : PySem.W.findIn K (.ref CE) "held" = some none)
    (aCS : PySem.W.nsIn K mainGlobals "Store" = some (some (.ref CS)))
    (pgCS : PySem.W.plainGet K CS Str.empty = true)
    (hdCS : PySem.W.hasDictIn K CS = true)
    (poCS : PySem.W.plainOver K CS = true)
    (saCS : PySem.W.findIn K (.ref CS) "__setattr__" = some (some (.builtin "object.__setattr__")))
    (mkCS : PySem.W.makesIn K CS = true)
    (kcCS : PySem.W.keepIn K (.ref CS) = true)
    (s_room : PySem.W.findIn K (.ref CS) "room" = some none)
    (s_entries : PySem.W.findIn K (.ref CS) "entries" = some none)
    (aCO : PySem.W.nsIn K mainGlobals "Session" = some (some (.ref CO)))
    (pgCO : PySem.W.plainGet K CO Str.empty = true)
    (hdCO : PySem.W.hasDictIn K CO = true)
    (poCO : PySem.W.plainOver K CO = true)
    (saCO : PySem.W.findIn K (.ref CO) "__setattr__" = some (some (.builtin "object.__setattr__")))
    (mkCO : PySem.W.makesIn K CO = true)
    (kcCO : PySem.W.keepIn K (.ref CO) = true)
    (o_near : PySem.W.findIn K (.ref CO) "near" = some none)
    (o_far : PySem.W.findIn K (.ref CO) "far" = some none)
    (o_far_is_there : PySem.W.findIn K (.ref CO) "far_is_there" = some none)
    (o_sends : PySem.W.findIn K (.ref CO) "sends" = some none)
    (o_keeps_failing : PySem.W.findIn K (.ref CO) "keeps_failing" = some none)
    (o_worked : PySem.W.findIn K (.ref CO) "worked" = some none)
    (o_from_near : PySem.W.findIn K (.ref CO) "from_near" = some none)
    (o_from_far : PySem.W.findIn K (.ref CO) "from_far" = some none)
    (o_sent : PySem.W.findIn K (.ref CO) "sent" = some none)
    (o_dropped : PySem.W.findIn K (.ref CO) "dropped" = some none)
    (o_spoilt : PySem.W.findIn K (.ref CO) "spoilt" = some none)
    (neES : decide (CE = CS) = false)
    (neEO : decide (CE = CO) = false)
    (neSO : decide (CS = CO) = false)
    (a0 : PySem.W.nsIn K mainGlobals "outcome" = some (some (.ref f0)))
    (l0 : K.lookup f0 = some ⟨oc0, od0, .func (PySem.W.fnOf "outcome" "outcome" (defArgs s_outcome) (defBody s_outcome) (defScope s_outcome) .none kV0 dc0 pm0 an0 cd0 ct0), sl0⟩)
    (c0 : PySem.W.codeIn K cd0 "outcome" = true)
    (k0 : PySem.W.keepIn K (.ref f0) = true)
    (a1 : PySem.W.nsIn K mainGlobals "doubled" = some (some (.ref f1)))
    (l1 : K.lookup f1 = some ⟨oc1, od1, .func (PySem.W.fnOf "doubled" "doubled" (defArgs s_doubled) (defBody s_doubled) (defScope s_doubled) .none kV1 dc1 pm1 an1 cd1 ct1), sl1⟩)
    (c1 : PySem.W.codeIn K cd1 "doubled" = true)
    (k1 : PySem.W.keepIn K (.ref f1) = true)
    (a2 : PySem.W.nsIn K mainGlobals "zeros_outcome" = some (some (.ref f2)))
    (l2 : K.lookup f2 = some ⟨oc2, od2, .func (PySem.W.fnOf "zeros_outcome" "zeros_outcome" (defArgs s_zeros_outcome) (defBody s_zeros_outcome) (defScope s_zeros_outcome) .none kV2 dc2 pm2 an2 cd2 ct2), sl2⟩)
    (c2 : PySem.W.codeIn K cd2 "zeros_outcome" = true)
    (k2 : PySem.W.keepIn K (.ref f2) = true)
    (a3 : PySem.W.nsIn K mainGlobals "look_at_tool" = some (some (.ref f3)))
    (l3 : K.lookup f3 = some ⟨oc3, od3, .func (PySem.W.fnOf "look_at_tool" "look_at_tool" (defArgs s_look_at_tool) (defBody s_look_at_tool) (defScope s_look_at_tool) .none kV3 dc3 pm3 an3 cd3 ct3), sl3⟩)
    (c3 : PySem.W.codeIn K cd3 "look_at_tool" = true)
    (k3 : PySem.W.keepIn K (.ref f3) = true)
    (a4 : PySem.W.nsIn K mainGlobals "look_at_input" = some (some (.ref f4)))
    (l4 : K.lookup f4 = some ⟨oc4, od4, .func (PySem.W.fnOf "look_at_input" "look_at_input" (defArgs s_look_at_input) (defBody s_look_at_input) (defScope s_look_at_input) .none kV4 dc4 pm4 an4 cd4 ct4), sl4⟩)
    (c4 : PySem.W.codeIn K cd4 "look_at_input" = true)
    (k4 : PySem.W.keepIn K (.ref f4) = true)
    (a5 : PySem.W.nsIn K mainGlobals "look_at_store" = some (some (.ref f5)))
    (l5 : K.lookup f5 = some ⟨oc5, od5, .func (PySem.W.fnOf "look_at_store" "look_at_store" (defArgs s_look_at_store) (defBody s_look_at_store) (defScope s_look_at_store) .none kV5 dc5 pm5 an5 cd5 ct5), sl5⟩)
    (c5 : PySem.W.codeIn K cd5 "look_at_store" = true)
    (k5 : PySem.W.keepIn K (.ref f5) = true)
    (a6 : PySem.W.nsIn K mainGlobals "look_at_truth" = some (some (.ref f6)))
    (l6 : K.lookup f6 = some ⟨oc6, od6, .func (PySem.W.fnOf "look_at_truth" "look_at_truth" (defArgs s_look_at_truth) (defBody s_look_at_truth) (defScope s_look_at_truth) .none kV6 dc6 pm6 an6 cd6 ct6), sl6⟩)
    (c6 : PySem.W.codeIn K cd6 "look_at_truth" = true)
    (k6 : PySem.W.keepIn K (.ref f6) = true)
    (a7 : PySem.W.nsIn K mainGlobals "look_at_action" = some (some (.ref f7)))
    (l7 : K.lookup f7 = some ⟨oc7, od7, .func (PySem.W.fnOf "look_at_action" "look_at_action" (defArgs s_look_at_action) (defBody s_look_at_action) (defScope s_look_at_action) .none kV7 dc7 pm7 an7 cd7 ct7), sl7⟩)
    (c7 : PySem.W.codeIn K cd7 "look_at_action" = true)
    (k7 : PySem.W.keepIn K (.ref f7) = true)
    (a8 : PySem.W.nsIn K mainGlobals "look_at_stored_action" = some (some (.ref f8)))
    (l8 : K.lookup f8 = some ⟨oc8, od8, .func (PySem.W.fnOf "look_at_stored_action" "look_at_stored_action" (defArgs s_look_at_stored_action) (defBody s_look_at_stored_action) (defScope s_look_at_stored_action) .none kV8 dc8 pm8 an8 cd8 ct8), sl8⟩)
    (c8 : PySem.W.codeIn K cd8 "look_at_stored_action" = true)
    (k8 : PySem.W.keepIn K (.ref f8) = true)
    (a9 : PySem.W.nsIn K mainGlobals "look_at_call" = some (some (.ref f9)))
    (l9 : K.lookup f9 = some ⟨oc9, od9, .func (PySem.W.fnOf "look_at_call" "look_at_call" (defArgs s_look_at_call) (defBody s_look_at_call) (defScope s_look_at_call) .none kV9 dc9 pm9 an9 cd9 ct9), sl9⟩)
    (c9 : PySem.W.codeIn K cd9 "look_at_call" = true)
    (k9 : PySem.W.keepIn K (.ref f9) = true)
    (a10 : PySem.W.findIn K (.ref CE) "__init__" = some (some (.ref f10)))
    (i10 : PySem.W.isFn K (.ref f10) = true)
    (l10 : K.lookup f10 = some ⟨oc10, od10, .func (PySem.W.fnOf "__init__" "Entry.__init__" (defArgs s_Entry_init) (defBody s_Entry_init) (defScope s_Entry_init) .none kV10 dc10 pm10 an10 cd10 ct10), sl10⟩)
    (c10 : PySem.W.codeIn K cd10 "Entry.__init__" = true)
    (k10 : PySem.W.keepIn K (.ref f10) = true)
    (a11 : PySem.W.findIn K (.ref CE) "is_for" = some (some (.ref f11)))
    (i11 : PySem.W.isFn K (.ref f11) = true)
    (l11 : K.lookup f11 = some ⟨oc11, od11, .func (PySem.W.fnOf "is_for" "Entry.is_for" (defArgs s_Entry_is_for) (defBody s_Entry_is_for) (defScope s_Entry_is_for) .none kV11 dc11 pm11 an11 cd11 ct11), sl11⟩)
    (c11 : PySem.W.codeIn K cd11 "Entry.is_for" = true)
    (k11 : PySem.W.keepIn K (.ref f11) = true)
    (a12 : PySem.W.findIn K (.ref CE) "is_whole" = some (some (.ref f12)))
    (i12 : PySem.W.isFn K (.ref f12) = true)
    (l12 : K.lookup f12 = some ⟨oc12, od12, .func (PySem.W.fnOf "is_whole" "Entry.is_whole" (defArgs s_Entry_is_whole) (defBody s_Entry_is_whole) (defScope s_Entry_is_whole) .none kV12 dc12 pm12 an12 cd12 ct12), sl12⟩)
    (c12 : PySem.W.codeIn K cd12 "Entry.is_whole" = true)
    (k12 : PySem.W.keepIn K (.ref f12) = true)
    (a13 : PySem.W.findIn K (.ref CE) "size" = some (some (.ref f13)))
    (i13 : PySem.W.isFn K (.ref f13) = true)
    (l13 : K.lookup f13 = some ⟨oc13, od13, .func (PySem.W.fnOf "size" "Entry.size" (defArgs s_Entry_size) (defBody s_Entry_size) (defScope s_Entry_size) .none kV13 dc13 pm13 an13 cd13 ct13), sl13⟩)
    (c13 : PySem.W.codeIn K cd13 "Entry.size" = true)
    (k13 : PySem.W.keepIn K (.ref f13) = true)
    (a14 : PySem.W.findIn K (.ref CE) "cut_to" = some (some (.ref f14)))
    (i14 : PySem.W.isFn K (.ref f14) = true)
    (l14 : K.lookup f14 = some ⟨oc14, od14, .func (PySem.W.fnOf "cut_to" "Entry.cut_to" (defArgs s_Entry_cut_to) (defBody s_Entry_cut_to) (defScope s_Entry_cut_to) .none kV14 dc14 pm14 an14 cd14 ct14), sl14⟩)
    (c14 : PySem.W.codeIn K cd14 "Entry.cut_to" = true)
    (k14 : PySem.W.keepIn K (.ref f14) = true)
    (a15 : PySem.W.findIn K (.ref CE) "listed" = some (some (.ref f15)))
    (i15 : PySem.W.isFn K (.ref f15) = true)
    (l15 : K.lookup f15 = some ⟨oc15, od15, .func (PySem.W.fnOf "listed" "Entry.listed" (defArgs s_Entry_listed) (defBody s_Entry_listed) (defScope s_Entry_listed) .none kV15 dc15 pm15 an15 cd15 ct15), sl15⟩)
    (c15 : PySem.W.codeIn K cd15 "Entry.listed" = true)
    (k15 : PySem.W.keepIn K (.ref f15) = true)
    (a16 : PySem.W.findIn K (.ref CS) "__init__" = some (some (.ref f16)))
    (i16 : PySem.W.isFn K (.ref f16) = true)
    (l16 : K.lookup f16 = some ⟨oc16, od16, .func (PySem.W.fnOf "__init__" "Store.__init__" (defArgs s_Store_init) (defBody s_Store_init) (defScope s_Store_init) .none kV16 dc16 pm16 an16 cd16 ct16), sl16⟩)
    (c16 : PySem.W.codeIn K cd16 "Store.__init__" = true)
    (k16 : PySem.W.keepIn K (.ref f16) = true)
    (a17 : PySem.W.findIn K (.ref CS) "load" = some (some (.ref f17)))
    (i17 : PySem.W.isFn K (.ref f17) = true)
    (l17 : K.lookup f17 = some ⟨oc17, od17, .func (PySem.W.fnOf "load" "Store.load" (defArgs s_Store_load) (defBody s_Store_load) (defScope s_Store_load) .none kV17 dc17 pm17 an17 cd17 ct17), sl17⟩)
    (c17 : PySem.W.codeIn K cd17 "Store.load" = true)
    (k17 : PySem.W.keepIn K (.ref f17) = true)
    (a18 : PySem.W.findIn K (.ref CS) "place_of" = some (some (.ref f18)))
    (i18 : PySem.W.isFn K (.ref f18) = true)
    (l18 : K.lookup f18 = some ⟨oc18, od18, .func (PySem.W.fnOf "place_of" "Store.place_of" (defArgs s_Store_place_of) (defBody s_Store_place_of) (defScope s_Store_place_of) .none kV18 dc18 pm18 an18 cd18 ct18), sl18⟩)
    (c18 : PySem.W.codeIn K cd18 "Store.place_of" = true)
    (k18 : PySem.W.keepIn K (.ref f18) = true)
    (a19 : PySem.W.findIn K (.ref CS) "take_out" = some (some (.ref f19)))
    (i19 : PySem.W.isFn K (.ref f19) = true)
    (l19 : K.lookup f19 = some ⟨oc19, od19, .func (PySem.W.fnOf "take_out" "Store.take_out" (defArgs s_Store_take_out) (defBody s_Store_take_out) (defScope s_Store_take_out) .none kV19 dc19 pm19 an19 cd19 ct19), sl19⟩)
    (c19 : PySem.W.codeIn K cd19 "Store.take_out" = true)
    (k19 : PySem.W.keepIn K (.ref f19) = true)
    (a20 : PySem.W.findIn K (.ref CS) "take_out_cut" = some (some (.ref f20)))
    (i20 : PySem.W.isFn K (.ref f20) = true)
    (l20 : K.lookup f20 = some ⟨oc20, od20, .func (PySem.W.fnOf "take_out_cut" "Store.take_out_cut" (defArgs s_Store_take_out_cut) (defBody s_Store_take_out_cut) (defScope s_Store_take_out_cut) .none kV20 dc20 pm20 an20 cd20 ct20), sl20⟩)
    (c20 : PySem.W.codeIn K cd20 "Store.take_out_cut" = true)
    (k20 : PySem.W.keepIn K (.ref f20) = true)
    (a21 : PySem.W.findIn K (.ref CS) "move_to_front" = some (some (.ref f21)))
    (i21 : PySem.W.isFn K (.ref f21) = true)
    (l21 : K.lookup f21 = some ⟨oc21, od21, .func (PySem.W.fnOf "move_to_front" "Store.move_to_front" (defArgs s_Store_move_to_front) (defBody s_Store_move_to_front) (defScope s_Store_move_to_front) .none kV21 dc21 pm21 an21 cd21 ct21), sl21⟩)
    (c21 : PySem.W.codeIn K cd21 "Store.move_to_front" = true)
    (k21 : PySem.W.keepIn K (.ref f21) = true)
    (a22 : PySem.W.findIn K (.ref CS) "drop_over_room" = some (some (.ref f22)))
    (i22 : PySem.W.isFn K (.ref f22) = true)
    (l22 : K.lookup f22 = some ⟨oc22, od22, .func (PySem.W.fnOf "drop_over_room" "Store.drop_over_room" (defArgs s_Store_drop_over_room) (defBody s_Store_drop_over_room) (defScope s_Store_drop_over_room) .none kV22 dc22 pm22 an22 cd22 ct22), sl22⟩)
    (c22 : PySem.W.codeIn K cd22 "Store.drop_over_room" = true)
    (k22 : PySem.W.keepIn K (.ref f22) = true)
    (a23 : PySem.W.findIn K (.ref CS) "keep" = some (some (.ref f23)))
    (i23 : PySem.W.isFn K (.ref f23) = true)
    (l23 : K.lookup f23 = some ⟨oc23, od23, .func (PySem.W.fnOf "keep" "Store.keep" (defArgs s_Store_keep) (defBody s_Store_keep) (defScope s_Store_keep) .none kV23 dc23 pm23 an23 cd23 ct23), sl23⟩)
    (c23 : PySem.W.codeIn K cd23 "Store.keep" = true)
    (k23 : PySem.W.keepIn K (.ref f23) = true)
    (a24 : PySem.W.findIn K (.ref CO) "__init__" = some (some (.ref f24)))
    (i24 : PySem.W.isFn K (.ref f24) = true)
    (l24 : K.lookup f24 = some ⟨oc24, od24, .func (PySem.W.fnOf "__init__" "Session.__init__" (defArgs s_Session_init) (defBody s_Session_init) (defScope s_Session_init) .none kV24 dc24 pm24 an24 cd24 ct24), sl24⟩)
    (c24 : PySem.W.codeIn K cd24 "Session.__init__" = true)
    (k24 : PySem.W.keepIn K (.ref f24) = true)
    (a25 : PySem.W.findIn K (.ref CO) "store_of" = some (some (.ref f25)))
    (i25 : PySem.W.isFn K (.ref f25) = true)
    (l25 : K.lookup f25 = some ⟨oc25, od25, .func (PySem.W.fnOf "store_of" "Session.store_of" (defArgs s_Session_store_of) (defBody s_Session_store_of) (defScope s_Session_store_of) .none kV25 dc25 pm25 an25 cd25 ct25), sl25⟩)
    (c25 : PySem.W.codeIn K cd25 "Session.store_of" = true)
    (k25 : PySem.W.keepIn K (.ref f25) = true)
    (a26 : PySem.W.findIn K (.ref CO) "set_room" = some (some (.ref f26)))
    (i26 : PySem.W.isFn K (.ref f26) = true)
    (l26 : K.lookup f26 = some ⟨oc26, od26, .func (PySem.W.fnOf "set_room" "Session.set_room" (defArgs s_Session_set_room) (defBody s_Session_set_room) (defScope s_Session_set_room) .none kV26 dc26 pm26 an26 cd26 ct26), sl26⟩)
    (c26 : PySem.W.codeIn K cd26 "Session.set_room" = true)
    (k26 : PySem.W.keepIn K (.ref f26) = true)
    (a27 : PySem.W.findIn K (.ref CO) "set_there" = some (some (.ref f27)))
    (i27 : PySem.W.isFn K (.ref f27) = true)
    (l27 : K.lookup f27 = some ⟨oc27, od27, .func (PySem.W.fnOf "set_there" "Session.set_there" (defArgs s_Session_set_there) (defBody s_Session_set_there) (defScope s_Session_set_there) .none kV27 dc27 pm27 an27 cd27 ct27), sl27⟩)
    (c27 : PySem.W.codeIn K cd27 "Session.set_there" = true)
    (k27 : PySem.W.keepIn K (.ref f27) = true)
    (a28 : PySem.W.findIn K (.ref CO) "set_send" = some (some (.ref f28)))
    (i28 : PySem.W.isFn K (.ref f28) = true)
    (l28 : K.lookup f28 = some ⟨oc28, od28, .func (PySem.W.fnOf "set_send" "Session.set_send" (defArgs s_Session_set_send) (defBody s_Session_set_send) (defScope s_Session_set_send) .none kV28 dc28 pm28 an28 cd28 ct28), sl28⟩)
    (c28 : PySem.W.codeIn K cd28 "Session.set_send" = true)
    (k28 : PySem.W.keepIn K (.ref f28) = true)
    (a29 : PySem.W.findIn K (.ref CO) "set_failing" = some (some (.ref f29)))
    (i29 : PySem.W.isFn K (.ref f29) = true)
    (l29 : K.lookup f29 = some ⟨oc29, od29, .func (PySem.W.fnOf "set_failing" "Session.set_failing" (defArgs s_Session_set_failing) (defBody s_Session_set_failing) (defScope s_Session_set_failing) .none kV29 dc29 pm29 an29 cd29 ct29), sl29⟩)
    (c29 : PySem.W.codeIn K cd29 "Session.set_failing" = true)
    (k29 : PySem.W.keepIn K (.ref f29) = true)
    (a30 : PySem.W.findIn K (.ref CO) "do" = some (some (.ref f30)))
    (i30 : PySem.W.isFn K (.ref f30) = true)
    (l30 : K.lookup f30 = some ⟨oc30, od30, .func (PySem.W.fnOf "do" "Session.do" (defArgs s_Session_do) (defBody s_Session_do) (defScope s_Session_do) .none kV30 dc30 pm30 an30 cd30 ct30), sl30⟩)
    (c30 : PySem.W.codeIn K cd30 "Session.do" = true)
    (k30 : PySem.W.keepIn K (.ref f30) = true)
    (a31 : PySem.W.findIn K (.ref CO) "whole_place" = some (some (.ref f31)))
    (i31 : PySem.W.isFn K (.ref f31) = true)
    (l31 : K.lookup f31 = some ⟨oc31, od31, .func (PySem.W.fnOf "whole_place" "Session.whole_place" (defArgs s_Session_whole_place) (defBody s_Session_whole_place) (defScope s_Session_whole_place) .none kV31 dc31 pm31 an31 cd31 ct31), sl31⟩)
    (c31 : PySem.W.codeIn K cd31 "Session.whole_place" = true)
    (k31 : PySem.W.keepIn K (.ref f31) = true)
    (a32 : PySem.W.findIn K (.ref CO) "answer_from_near" = some (some (.ref f32)))
    (i32 : PySem.W.isFn K (.ref f32) = true)
    (l32 : K.lookup f32 = some ⟨oc32, od32, .func (PySem.W.fnOf "answer_from_near" "Session.answer_from_near" (defArgs s_Session_answer_from_near) (defBody s_Session_answer_from_near) (defScope s_Session_answer_from_near) .none kV32 dc32 pm32 an32 cd32 ct32), sl32⟩)
    (c32 : PySem.W.codeIn K cd32 "Session.answer_from_near" = true)
    (k32 : PySem.W.keepIn K (.ref f32) = true)
    (a33 : PySem.W.findIn K (.ref CO) "answer_from_far" = some (some (.ref f33)))
    (i33 : PySem.W.isFn K (.ref f33) = true)
    (l33 : K.lookup f33 = some ⟨oc33, od33, .func (PySem.W.fnOf "answer_from_far" "Session.answer_from_far" (defArgs s_Session_answer_from_far) (defBody s_Session_answer_from_far) (defScope s_Session_answer_from_far) .none kV33 dc33 pm33 an33 cd33 ct33), sl33⟩)
    (c33 : PySem.W.codeIn K cd33 "Session.answer_from_far" = true)
    (k33 : PySem.W.keepIn K (.ref f33) = true)
    (a34 : PySem.W.findIn K (.ref CO) "work" = some (some (.ref f34)))
    (i34 : PySem.W.isFn K (.ref f34) = true)
    (l34 : K.lookup f34 = some ⟨oc34, od34, .func (PySem.W.fnOf "work" "Session.work" (defArgs s_Session_work) (defBody s_Session_work) (defScope s_Session_work) .none kV34 dc34 pm34 an34 cd34 ct34), sl34⟩)
    (c34 : PySem.W.codeIn K cd34 "Session.work" = true)
    (k34 : PySem.W.keepIn K (.ref f34) = true)
    (a35 : PySem.W.findIn K (.ref CO) "keep_in" = some (some (.ref f35)))
    (i35 : PySem.W.isFn K (.ref f35) = true)
    (l35 : K.lookup f35 = some ⟨oc35, od35, .func (PySem.W.fnOf "keep_in" "Session.keep_in" (defArgs s_Session_keep_in) (defBody s_Session_keep_in) (defScope s_Session_keep_in) .none kV35 dc35 pm35 an35 cd35 ct35), sl35⟩)
    (c35 : PySem.W.codeIn K cd35 "Session.keep_in" = true)
    (k35 : PySem.W.keepIn K (.ref f35) = true)
    (a36 : PySem.W.findIn K (.ref CO) "cut" = some (some (.ref f36)))
    (i36 : PySem.W.isFn K (.ref f36) = true)
    (l36 : K.lookup f36 = some ⟨oc36, od36, .func (PySem.W.fnOf "cut" "Session.cut" (defArgs s_Session_cut) (defBody s_Session_cut) (defScope s_Session_cut) .none kV36 dc36 pm36 an36 cd36 ct36), sl36⟩)
    (c36 : PySem.W.codeIn K cd36 "Session.cut" = true)
    (k36 : PySem.W.keepIn K (.ref f36) = true)
    (a37 : PySem.W.findIn K (.ref CO) "forget" = some (some (.ref f37)))
    (i37 : PySem.W.isFn K (.ref f37) = true)
    (l37 : K.lookup f37 = some ⟨oc37, od37, .func (PySem.W.fnOf "forget" "Session.forget" (defArgs s_Session_forget) (defBody s_Session_forget) (defScope s_Session_forget) .none kV37 dc37 pm37 an37 cd37 ct37), sl37⟩)
    (c37 : PySem.W.codeIn K cd37 "Session.forget" = true)
    (k37 : PySem.W.keepIn K (.ref f37) = true)
    (a38 : PySem.W.findIn K (.ref CO) "clean" = some (some (.ref f38)))
    (i38 : PySem.W.isFn K (.ref f38) = true)
    (l38 : K.lookup f38 = some ⟨oc38, od38, .func (PySem.W.fnOf "clean" "Session.clean" (defArgs s_Session_clean) (defBody s_Session_clean) (defScope s_Session_clean) .none kV38 dc38 pm38 an38 cd38 ct38), sl38⟩)
    (c38 : PySem.W.codeIn K cd38 "Session.clean" = true)
    (k38 : PySem.W.keepIn K (.ref f38) = true)
    (a39 : PySem.W.findIn K (.ref CO) "share" = some (some (.ref f39)))
    (i39 : PySem.W.isFn K (.ref f39) = true)
    (l39 : K.lookup f39 = some ⟨oc39, od39, .func (PySem.W.fnOf "share" "Session.share" (defArgs s_Session_share) (defBody s_Session_share) (defScope s_Session_share) .none kV39 dc39 pm39 an39 cd39 ct39), sl39⟩)
    (c39 : PySem.W.codeIn K cd39 "Session.share" = true)
    (k39 : PySem.W.keepIn K (.ref f39) = true)
    (a40 : PySem.W.findIn K (.ref CO) "has" = some (some (.ref f40)))
    (i40 : PySem.W.isFn K (.ref f40) = true)
    (l40 : K.lookup f40 = some ⟨oc40, od40, .func (PySem.W.fnOf "has" "Session.has" (defArgs s_Session_has) (defBody s_Session_has) (defScope s_Session_has) .none kV40 dc40 pm40 an40 cd40 ct40), sl40⟩)
    (c40 : PySem.W.codeIn K cd40 "Session.has" = true)
    (k40 : PySem.W.keepIn K (.ref f40) = true)
    (a41 : PySem.W.findIn K (.ref CO) "list_entries" = some (some (.ref f41)))
    (i41 : PySem.W.isFn K (.ref f41) = true)
    (l41 : K.lookup f41 = some ⟨oc41, od41, .func (PySem.W.fnOf "list_entries" "Session.list_entries" (defArgs s_Session_list_entries) (defBody s_Session_list_entries) (defScope s_Session_list_entries) .none kV41 dc41 pm41 an41 cd41 ct41), sl41⟩)
    (c41 : PySem.W.codeIn K cd41 "Session.list_entries" = true)
    (k41 : PySem.W.keepIn K (.ref f41) = true)
    (a42 : PySem.W.findIn K (.ref CO) "counts" = some (some (.ref f42)))
    (i42 : PySem.W.isFn K (.ref f42) = true)
    (l42 : K.lookup f42 = some ⟨oc42, od42, .func (PySem.W.fnOf "counts" "Session.counts" (defArgs s_Session_counts) (defBody s_Session_counts) (defScope s_Session_counts) .none kV42 dc42 pm42 an42 cd42 ct42), sl42⟩)
    (c42 : PySem.W.codeIn K cd42 "Session.counts" = true)
    (k42 : PySem.W.keepIn K (.ref f42) = true)
    (a43 : PySem.W.nsIn K mainGlobals "answer_call" = some (some (.ref f43)))
    (l43 : K.lookup f43 = some ⟨oc43, od43, .func (PySem.W.fnOf "answer_call" "answer_call" (defArgs s_answer_call) (defBody s_answer_call) (defScope s_answer_call) .none kV43 dc43 pm43 an43 cd43 ct43), sl43⟩)
    (c43 : PySem.W.codeIn K cd43 "answer_call" = true)
    (k43 : PySem.W.keepIn K (.ref f43) = true)
    (a44 : PySem.W.nsIn K mainGlobals "answers" = some (some (.ref f44)))
    (l44 : K.lookup f44 = some ⟨oc44, od44, .func (PySem.W.fnOf "answers" "answers" (defArgs s_answers) (defBody s_answers) (defScope s_answers) .none kV44 dc44 pm44 an44 cd44 ct44), sl44⟩)
    (c44 : PySem.W.codeIn K cd44 "answers" = true)
    (k44 : PySem.W.keepIn K (.ref f44) = true)
    (tb : PySem.W.nsIn K mainGlobals "SHAPES" = some (some (.ref dS)))
    (tl : K.lookup dS = some { cls := .type "dict", dict := none, data := .dict #[⟨th0, .int 0 tk0, .ref ta0⟩, ⟨th1, .int 1 tk1, .ref ta1⟩, ⟨th2, .int 2 tk2, .ref ta2⟩, ⟨th3, .int 3 tk3, .ref ta3⟩, ⟨th4, .int 4 tk4, .ref ta4⟩, ⟨th5, .int 5 tk5, .ref ta5⟩, ⟨th6, .int 6 tk6, .ref ta6⟩, ⟨th7, .int 7 tk7, .ref ta7⟩, ⟨th8, .int 8 tk8, .ref ta8⟩, ⟨th9, .int 9 tk9, .ref ta9⟩, ⟨th10, .int 10 tk10, .ref ta10⟩, ⟨th11, .int 11 tk11, .ref ta11⟩] epS, slots := #[] })
    (th : ([th0, th1, th2, th3, th4, th5, th6, th7, th8, th9, th10, th11] : List Int) = [hashInt 0, hashInt 1, hashInt 2, hashInt 3, hashInt 4, hashInt 5, hashInt 6, hashInt 7, hashInt 8, hashInt 9, hashInt 10, hashInt 11])
    (tt0 : K.lookup ta0 = some ⟨.type "tuple", td0, .seq #[.int 2 tu0, .int 0 tv0] te0, tw0⟩)
    (tt1 : K.lookup ta1 = some ⟨.type "tuple", td1, .seq #[.int 1 tu1, .int 0 tv1] te1, tw1⟩)
    (tt2 : K.lookup ta2 = some ⟨.type "tuple", td2, .seq #[.int 1 tu2, .int 0 tv2] te2, tw2⟩)
    (tt3 : K.lookup ta3 = some ⟨.type "tuple", td3, .seq #[.int 1 tu3, .int 0 tv3] te3, tw3⟩)
    (tt4 : K.lookup ta4 = some ⟨.type "tuple", td4, .seq #[.int 1 tu4, .int 1 tv4] te4, tw4⟩)
    (tt5 : K.lookup ta5 = some ⟨.type "tuple", td5, .seq #[.int 3 tu5, .int 1 tv5] te5, tw5⟩)
    (tt6 : K.lookup ta6 = some ⟨.type "tuple", td6, .seq #[.int 2 tu6, .int 1 tv6] te6, tw6⟩)
    (tt7 : K.lookup ta7 = some ⟨.type "tuple", td7, .seq #[.int 1 tu7, .int 0 tv7] te7, tw7⟩)
    (tt8 : K.lookup ta8 = some ⟨.type "tuple", td8, .seq #[.int 0 tu8, .int 0 tv8] te8, tw8⟩)
    (tt9 : K.lookup ta9 = some ⟨.type "tuple", td9, .seq #[.int 2 tu9, .int 1 tv9] te9, tw9⟩)
    (tt10 : K.lookup ta10 = some ⟨.type "tuple", td10, .seq #[.int 1 tu10, .int 0 tv10] te10, tw10⟩)
    (tt11 : K.lookup ta11 = some ⟨.type "tuple", td11, .seq #[.int 0 tu11, .int 0 tv11] te11, tw11⟩) :
    ∃ fd : FuncData, (∀ (s : Shared) (us : List Value), us.length = (["calls"] : List Str).length → BindsTo s fd ⟨us, []⟩ ((["calls"] : List Str).zip us)) ∧ ∀ base : Heap, K.In base → base.Ns mainGlobals mg → FnOk P w K mg base CX0 9 fa fd ["calls"] (sp_answers K) := by
  have e := hfa.symm.trans (PySem.W.mg_of X G a44)
  cases e
  have F0 := fun_mk (st := s_outcome) l0 c0 k0
  have b0 := F0.binds (ps := ["tool", "given"]) fun _ _ _ _ _ _ us hl => match us, hl with | [_, _], _ => rfl
  have D_outcome : DefG K mg "outcome" s_outcome ["tool", "given"] := ⟨_, _, F0, PySem.W.mg_of X G a0, b0⟩
  have F1 := fun_mk (st := s_doubled) l1 c1 k1
  have b1 := F1.binds (ps := ["given"]) fun _ _ _ _ _ _ us hl => match us, hl with | [_], _ => rfl
  have D_doubled : DefG K mg "doubled" s_doubled ["given"] := ⟨_, _, F1, PySem.W.mg_of X G a1, b1⟩
  have F2 := fun_mk (st := s_zeros_outcome) l2 c2 k2
  have b2 := F2.binds (ps := ["given"]) fun _ _ _ _ _ _ us hl => match us, hl with | [_], _ => rfl
  have D_zeros_outcome : DefG K mg "zeros_outcome" s_zeros_outcome ["given"] := ⟨_, _, F2, PySem.W.mg_of X G a2, b2⟩
  have F3 := fun_mk (st := s_look_at_tool) l3 c3 k3
  have b3 := F3.binds (ps := ["tool"]) fun _ _ _ _ _ _ us hl => match us, hl with | [_], _ => rfl
  have D_look_at_tool : DefG K mg "look_at_tool" s_look_at_tool ["tool"] := ⟨_, _, F3, PySem.W.mg_of X G a3, b3⟩
  have F4 := fun_mk (st := s_look_at_input) l4 c4 k4
  have b4 := F4.binds (ps := ["given"]) fun _ _ _ _ _ _ us hl => match us, hl with | [_], _ => rfl
  have D_look_at_input : DefG K mg "look_at_input" s_look_at_input ["given"] := ⟨_, _, F4, PySem.W.mg_of X G a4, b4⟩
  have F5 := fun_mk (st := s_look_at_store) l5 c5 k5
  have b5 := F5.binds (ps := ["number"]) fun _ _ _ _ _ _ us hl => match us, hl with | [_], _ => rfl
  have D_look_at_store : DefG K mg "look_at_store" s_look_at_store ["number"] := ⟨_, _, F5, PySem.W.mg_of X G a5, b5⟩
  have F6 := fun_mk (st := s_look_at_truth) l6 c6 k6
  have b6 := F6.binds (ps := ["number"]) fun _ _ _ _ _ _ us hl => match us, hl with | [_], _ => rfl
  have D_look_at_truth : DefG K mg "look_at_truth" s_look_at_truth ["number"] := ⟨_, _, F6, PySem.W.mg_of X G a6, b6⟩
  have F7 := fun_mk (st := s_look_at_action) l7 c7 k7
  have b7 := F7.binds (ps := ["tool", "given"]) fun _ _ _ _ _ _ us hl => match us, hl with | [_, _], _ => rfl
  have D_look_at_action : DefG K mg "look_at_action" s_look_at_action ["tool", "given"] := ⟨_, _, F7, PySem.W.mg_of X G a7, b7⟩
  have F8 := fun_mk (st := s_look_at_stored_action) l8 c8 k8
  have b8 := F8.binds (ps := ["number", "tool", "given"]) fun _ _ _ _ _ _ us hl => match us, hl with | [_, _, _], _ => rfl
  have D_look_at_stored_action : DefG K mg "look_at_stored_action" s_look_at_stored_action ["number", "tool", "given"] := ⟨_, _, F8, PySem.W.mg_of X G a8, b8⟩
  have F9 := fun_mk (st := s_look_at_call) l9 c9 k9
  have b9 := F9.binds (ps := ["call", "numbers", "row"]) fun _ _ _ _ _ _ us hl => match us, hl with | [_, _, _], _ => rfl
  have D_look_at_call : DefG K mg "look_at_call" s_look_at_call ["call", "numbers", "row"] := ⟨_, _, F9, PySem.W.mg_of X G a9, b9⟩
  have F10 := fun_mk (st := s_Entry_init) l10 c10 k10
  have b10 := F10.binds (ps := ["self", "tool", "given", "status", "output"]) fun _ _ _ _ _ _ us hl => match us, hl with | [_, _, _, _, _], _ => rfl
  have D_Entry_init : DefI K mg CE "Entry" "Entry.__init__" s_Entry_init ["self", "tool", "given", "status", "output"] := ⟨_, _, F10, ⟨mkCE, a10, i10, kcCE⟩, PySem.W.mg_of X G aCE, b10⟩
  have F11 := fun_mk (st := s_Entry_is_for) l11 c11 k11
  have b11 := F11.binds (ps := ["self", "tool", "given"]) fun _ _ _ _ _ _ us hl => match us, hl with | [_, _, _], _ => rfl
  have D_Entry_is_for : DefM K CE "is_for" "Entry.is_for" s_Entry_is_for ["self", "tool", "given"] := ⟨_, _, F11, ⟨a11, i11, k11⟩, b11⟩
  have F12 := fun_mk (st := s_Entry_is_whole) l12 c12 k12
  have b12 := F12.binds (ps := ["self"]) fun _ _ _ _ _ _ us hl => match us, hl with | [_], _ => rfl
  have D_Entry_is_whole : DefM K CE "is_whole" "Entry.is_whole" s_Entry_is_whole ["self"] := ⟨_, _, F12, ⟨a12, i12, k12⟩, b12⟩
  have F13 := fun_mk (st := s_Entry_size) l13 c13 k13
  have b13 := F13.binds (ps := ["self"]) fun _ _ _ _ _ _ us hl => match us, hl with | [_], _ => rfl
  have D_Entry_size : DefM K CE "size" "Entry.size" s_Entry_size ["self"] := ⟨_, _, F13, ⟨a13, i13, k13⟩, b13⟩
  have F14 := fun_mk (st := s_Entry_cut_to) l14 c14 k14
  have b14 := F14.binds (ps := ["self", "n"]) fun _ _ _ _ _ _ us hl => match us, hl with | [_, _], _ => rfl
  have D_Entry_cut_to : DefM K CE "cut_to" "Entry.cut_to" s_Entry_cut_to ["self", "n"] := ⟨_, _, F14, ⟨a14, i14, k14⟩, b14⟩
  have F15 := fun_mk (st := s_Entry_listed) l15 c15 k15
  have b15 := F15.binds (ps := ["self"]) fun _ _ _ _ _ _ us hl => match us, hl with | [_], _ => rfl
  have D_Entry_listed : DefM K CE "listed" "Entry.listed" s_Entry_listed ["self"] := ⟨_, _, F15, ⟨a15, i15, k15⟩, b15⟩
  have F16 := fun_mk (st := s_Store_init) l16 c16 k16
  have b16 := F16.binds (ps := ["self"]) fun _ _ _ _ _ _ us hl => match us, hl with | [_], _ => rfl
  have D_Store_init : DefI K mg CS "Store" "Store.__init__" s_Store_init ["self"] := ⟨_, _, F16, ⟨mkCS, a16, i16, kcCS⟩, PySem.W.mg_of X G aCS, b16⟩
  have F17 := fun_mk (st := s_Store_load) l17 c17 k17
  have b17 := F17.binds (ps := ["self"]) fun _ _ _ _ _ _ us hl => match us, hl with | [_], _ => rfl
  have D_Store_load : DefM K CS "load" "Store.load" s_Store_load ["self"] := ⟨_, _, F17, ⟨a17, i17, k17⟩, b17⟩
  have F18 := fun_mk (st := s_Store_place_of) l18 c18 k18
  have b18 := F18.binds (ps := ["self", "tool", "given"]) fun _ _ _ _ _ _ us hl => match us, hl with | [_, _, _], _ => rfl
  have D_Store_place_of : DefM K CS "place_of" "Store.place_of" s_Store_place_of ["self", "tool", "given"] := ⟨_, _, F18, ⟨a18, i18, k18⟩, b18⟩
  have F19 := fun_mk (st := s_Store_take_out) l19 c19 k19
  have b19 := F19.binds (ps := ["self", "place"]) fun _ _ _ _ _ _ us hl => match us, hl with | [_, _], _ => rfl
  have D_Store_take_out : DefM K CS "take_out" "Store.take_out" s_Store_take_out ["self", "place"] := ⟨_, _, F19, ⟨a19, i19, k19⟩, b19⟩
  have F20 := fun_mk (st := s_Store_take_out_cut) l20 c20 k20
  have b20 := F20.binds (ps := ["self"]) fun _ _ _ _ _ _ us hl => match us, hl with | [_], _ => rfl
  have D_Store_take_out_cut : DefM K CS "take_out_cut" "Store.take_out_cut" s_Store_take_out_cut ["self"] := ⟨_, _, F20, ⟨a20, i20, k20⟩, b20⟩
  have F21 := fun_mk (st := s_Store_move_to_front) l21 c21 k21
  have b21 := F21.binds (ps := ["self", "place"]) fun _ _ _ _ _ _ us hl => match us, hl with | [_, _], _ => rfl
  have D_Store_move_to_front : DefM K CS "move_to_front" "Store.move_to_front" s_Store_move_to_front ["self", "place"] := ⟨_, _, F21, ⟨a21, i21, k21⟩, b21⟩
  have F22 := fun_mk (st := s_Store_drop_over_room) l22 c22 k22
  have b22 := F22.binds (ps := ["self"]) fun _ _ _ _ _ _ us hl => match us, hl with | [_], _ => rfl
  have D_Store_drop_over_room : DefM K CS "drop_over_room" "Store.drop_over_room" s_Store_drop_over_room ["self"] := ⟨_, _, F22, ⟨a22, i22, k22⟩, b22⟩
  have F23 := fun_mk (st := s_Store_keep) l23 c23 k23
  have b23 := F23.binds (ps := ["self", "entry"]) fun _ _ _ _ _ _ us hl => match us, hl with | [_, _], _ => rfl
  have D_Store_keep : DefM K CS "keep" "Store.keep" s_Store_keep ["self", "entry"] := ⟨_, _, F23, ⟨a23, i23, k23⟩, b23⟩
  have F24 := fun_mk (st := s_Session_init) l24 c24 k24
  have b24 := F24.binds (ps := ["self"]) fun _ _ _ _ _ _ us hl => match us, hl with | [_], _ => rfl
  have D_Session_init : DefI K mg CO "Session" "Session.__init__" s_Session_init ["self"] := ⟨_, _, F24, ⟨mkCO, a24, i24, kcCO⟩, PySem.W.mg_of X G aCO, b24⟩
  have F25 := fun_mk (st := s_Session_store_of) l25 c25 k25
  have b25 := F25.binds (ps := ["self", "number"]) fun _ _ _ _ _ _ us hl => match us, hl with | [_, _], _ => rfl
  have D_Session_store_of : DefM K CO "store_of" "Session.store_of" s_Session_store_of ["self", "number"] := ⟨_, _, F25, ⟨a25, i25, k25⟩, b25⟩
  have F26 := fun_mk (st := s_Session_set_room) l26 c26 k26
  have b26 := F26.binds (ps := ["self", "number", "n"]) fun _ _ _ _ _ _ us hl => match us, hl with | [_, _, _], _ => rfl
  have D_Session_set_room : DefM K CO "set_room" "Session.set_room" s_Session_set_room ["self", "number", "n"] := ⟨_, _, F26, ⟨a26, i26, k26⟩, b26⟩
  have F27 := fun_mk (st := s_Session_set_there) l27 c27 k27
  have b27 := F27.binds (ps := ["self", "b"]) fun _ _ _ _ _ _ us hl => match us, hl with | [_, _], _ => rfl
  have D_Session_set_there : DefM K CO "set_there" "Session.set_there" s_Session_set_there ["self", "b"] := ⟨_, _, F27, ⟨a27, i27, k27⟩, b27⟩
  have F28 := fun_mk (st := s_Session_set_send) l28 c28 k28
  have b28 := F28.binds (ps := ["self", "b"]) fun _ _ _ _ _ _ us hl => match us, hl with | [_, _], _ => rfl
  have D_Session_set_send : DefM K CO "set_send" "Session.set_send" s_Session_set_send ["self", "b"] := ⟨_, _, F28, ⟨a28, i28, k28⟩, b28⟩
  have F29 := fun_mk (st := s_Session_set_failing) l29 c29 k29
  have b29 := F29.binds (ps := ["self", "b"]) fun _ _ _ _ _ _ us hl => match us, hl with | [_, _], _ => rfl
  have D_Session_set_failing : DefM K CO "set_failing" "Session.set_failing" s_Session_set_failing ["self", "b"] := ⟨_, _, F29, ⟨a29, i29, k29⟩, b29⟩
  have F30 := fun_mk (st := s_Session_do) l30 c30 k30
  have b30 := F30.binds (ps := ["self", "tool", "given"]) fun _ _ _ _ _ _ us hl => match us, hl with | [_, _, _], _ => rfl
  have D_Session_do : DefM K CO "do" "Session.do" s_Session_do ["self", "tool", "given"] := ⟨_, _, F30, ⟨a30, i30, k30⟩, b30⟩
  have F31 := fun_mk (st := s_Session_whole_place) l31 c31 k31
  have b31 := F31.binds (ps := ["self", "store", "tool", "given"]) fun _ _ _ _ _ _ us hl => match us, hl with | [_, _, _, _], _ => rfl
  have D_Session_whole_place : DefM K CO "whole_place" "Session.whole_place" s_Session_whole_place ["self", "store", "tool", "given"] := ⟨_, _, F31, ⟨a31, i31, k31⟩, b31⟩
  have F32 := fun_mk (st := s_Session_answer_from_near) l32 c32 k32
  have b32 := F32.binds (ps := ["self", "place"]) fun _ _ _ _ _ _ us hl => match us, hl with | [_, _], _ => rfl
  have D_Session_answer_from_near : DefM K CO "answer_from_near" "Session.answer_from_near" s_Session_answer_from_near ["self", "place"] := ⟨_, _, F32, ⟨a32, i32, k32⟩, b32⟩
  have F33 := fun_mk (st := s_Session_answer_from_far) l33 c33 k33
  have b33 := F33.binds (ps := ["self", "place"]) fun _ _ _ _ _ _ us hl => match us, hl with | [_, _], _ => rfl
  have D_Session_answer_from_far : DefM K CO "answer_from_far" "Session.answer_from_far" s_Session_answer_from_far ["self", "place"] := ⟨_, _, F33, ⟨a33, i33, k33⟩, b33⟩
  have F34 := fun_mk (st := s_Session_work) l34 c34 k34
  have b34 := F34.binds (ps := ["self", "tool", "given"]) fun _ _ _ _ _ _ us hl => match us, hl with | [_, _, _], _ => rfl
  have D_Session_work : DefM K CO "work" "Session.work" s_Session_work ["self", "tool", "given"] := ⟨_, _, F34, ⟨a34, i34, k34⟩, b34⟩
  have F35 := fun_mk (st := s_Session_keep_in) l35 c35 k35
  have b35 := F35.binds (ps := ["self", "store", "tool", "given", "status", "output"]) fun _ _ _ _ _ _ us hl => match us, hl with | [_, _, _, _, _, _], _ => rfl
  have D_Session_keep_in : DefM K CO "keep_in" "Session.keep_in" s_Session_keep_in ["self", "store", "tool", "given", "status", "output"] := ⟨_, _, F35, ⟨a35, i35, k35⟩, b35⟩
  have F36 := fun_mk (st := s_Session_cut) l36 c36 k36
  have b36 := F36.binds (ps := ["self", "number", "tool", "n", "given"]) fun _ _ _ _ _ _ us hl => match us, hl with | [_, _, _, _, _], _ => rfl
  have D_Session_cut : DefM K CO "cut" "Session.cut" s_Session_cut ["self", "number", "tool", "n", "given"] := ⟨_, _, F36, ⟨a36, i36, k36⟩, b36⟩
  have F37 := fun_mk (st := s_Session_forget) l37 c37 k37
  have b37 := F37.binds (ps := ["self", "number", "tool", "given"]) fun _ _ _ _ _ _ us hl => match us, hl with | [_, _, _, _], _ => rfl
  have D_Session_forget : DefM K CO "forget" "Session.forget" s_Session_forget ["self", "number", "tool", "given"] := ⟨_, _, F37, ⟨a37, i37, k37⟩, b37⟩
  have F38 := fun_mk (st := s_Session_clean) l38 c38 k38
  have b38 := F38.binds (ps := ["self", "number"]) fun _ _ _ _ _ _ us hl => match us, hl with | [_, _], _ => rfl
  have D_Session_clean : DefM K CO "clean" "Session.clean" s_Session_clean ["self", "number"] := ⟨_, _, F38, ⟨a38, i38, k38⟩, b38⟩
  have F39 := fun_mk (st := s_Session_share) l39 c39 k39
  have b39 := F39.binds (ps := ["self"]) fun _ _ _ _ _ _ us hl => match us, hl with | [_], _ => rfl
  have D_Session_share : DefM K CO "share" "Session.share" s_Session_share ["self"] := ⟨_, _, F39, ⟨a39, i39, k39⟩, b39⟩
  have F40 := fun_mk (st := s_Session_has) l40 c40 k40
  have b40 := F40.binds (ps := ["self", "number", "tool", "given"]) fun _ _ _ _ _ _ us hl => match us, hl with | [_, _, _, _], _ => rfl
  have D_Session_has : DefM K CO "has" "Session.has" s_Session_has ["self", "number", "tool", "given"] := ⟨_, _, F40, ⟨a40, i40, k40⟩, b40⟩
  have F41 := fun_mk (st := s_Session_list_entries) l41 c41 k41
  have b41 := F41.binds (ps := ["self", "number"]) fun _ _ _ _ _ _ us hl => match us, hl with | [_, _], _ => rfl
  have D_Session_list_entries : DefM K CO "list_entries" "Session.list_entries" s_Session_list_entries ["self", "number"] := ⟨_, _, F41, ⟨a41, i41, k41⟩, b41⟩
  have F42 := fun_mk (st := s_Session_counts) l42 c42 k42
  have b42 := F42.binds (ps := ["self"]) fun _ _ _ _ _ _ us hl => match us, hl with | [_], _ => rfl
  have D_Session_counts : DefM K CO "counts" "Session.counts" s_Session_counts ["self"] := ⟨_, _, F42, ⟨a42, i42, k42⟩, b42⟩
  have F43 := fun_mk (st := s_answer_call) l43 c43 k43
  have b43 := F43.binds (ps := ["session", "call", "numbers", "row"]) fun _ _ _ _ _ _ us hl => match us, hl with | [_, _, _, _], _ => rfl
  have D_answer_call : DefG K mg "answer_call" s_answer_call ["session", "call", "numbers", "row"] := ⟨_, _, F43, PySem.W.mg_of X G a43, b43⟩
  have F44 := fun_mk (st := s_answers) l44 c44 k44
  have b44 := F44.binds (ps := ["calls"]) fun _ _ _ _ _ _ us hl => match us, hl with | [_], _ => rfl
  have D_answers : DefG K mg "answers" s_answers ["calls"] := ⟨_, _, F44, PySem.W.mg_of X G a44, b44⟩
  have shp : Shapes K mg := by
    simp only [List.cons.injEq, and_true] at th
    obtain ⟨rfl, rfl, rfl, rfl, rfl, rfl, rfl, rfl, rfl, rfl, rfl, rfl⟩ := th
    refine ⟨dS, [(0, tk0, ta0), (1, tk1, ta1), (2, tk2, ta2), (3, tk3, ta3), (4, tk4, ta4), (5, tk5, ta5), (6, tk6, ta6), (7, tk7, ta7), (8, tk8, ta8), (9, tk9, ta9), (10, tk10, ta10), (11, tk11, ta11)], PySem.W.mg_of X G tb, ⟨_, _, tl, rfl⟩, fun k n m hk => ?_⟩
    rcases shape_cases hk with ⟨rfl, rfl, rfl⟩ | ⟨rfl, rfl, rfl⟩ | ⟨rfl, rfl, rfl⟩ | ⟨rfl, rfl, rfl⟩ | ⟨rfl, rfl, rfl⟩ | ⟨rfl, rfl, rfl⟩ | ⟨rfl, rfl, rfl⟩ | ⟨rfl, rfl, rfl⟩ | ⟨rfl, rfl, rfl⟩ | ⟨rfl, rfl, rfl⟩ | ⟨rfl, rfl, rfl⟩ | ⟨rfl, rfl, rfl⟩
    · exact ⟨ta0, rfl, fun H => .inr ⟨_, _, _, tt0, rfl, rfl, (by show 2 ≤ sizeLine; decide), .cons ⟨_, rfl⟩ (.cons ⟨_, rfl⟩ .nil)⟩⟩
    · exact ⟨ta1, rfl, fun H => .inr ⟨_, _, _, tt1, rfl, rfl, (by show 2 ≤ sizeLine; decide), .cons ⟨_, rfl⟩ (.cons ⟨_, rfl⟩ .nil)⟩⟩
    · exact ⟨ta2, rfl, fun H => .inr ⟨_, _, _, tt2, rfl, rfl, (by show 2 ≤ sizeLine; decide), .cons ⟨_, rfl⟩ (.cons ⟨_, rfl⟩ .nil)⟩⟩
    · exact ⟨ta3, rfl, fun H => .inr ⟨_, _, _, tt3, rfl, rfl, (by show 2 ≤ sizeLine; decide), .cons ⟨_, rfl⟩ (.cons ⟨_, rfl⟩ .nil)⟩⟩
    · exact ⟨ta4, rfl, fun H => .inr ⟨_, _, _, tt4, rfl, rfl, (by show 2 ≤ sizeLine; decide), .cons ⟨_, rfl⟩ (.cons ⟨_, rfl⟩ .nil)⟩⟩
    · exact ⟨ta5, rfl, fun H => .inr ⟨_, _, _, tt5, rfl, rfl, (by show 2 ≤ sizeLine; decide), .cons ⟨_, rfl⟩ (.cons ⟨_, rfl⟩ .nil)⟩⟩
    · exact ⟨ta6, rfl, fun H => .inr ⟨_, _, _, tt6, rfl, rfl, (by show 2 ≤ sizeLine; decide), .cons ⟨_, rfl⟩ (.cons ⟨_, rfl⟩ .nil)⟩⟩
    · exact ⟨ta7, rfl, fun H => .inr ⟨_, _, _, tt7, rfl, rfl, (by show 2 ≤ sizeLine; decide), .cons ⟨_, rfl⟩ (.cons ⟨_, rfl⟩ .nil)⟩⟩
    · exact ⟨ta8, rfl, fun H => .inr ⟨_, _, _, tt8, rfl, rfl, (by show 2 ≤ sizeLine; decide), .cons ⟨_, rfl⟩ (.cons ⟨_, rfl⟩ .nil)⟩⟩
    · exact ⟨ta9, rfl, fun H => .inr ⟨_, _, _, tt9, rfl, rfl, (by show 2 ≤ sizeLine; decide), .cons ⟨_, rfl⟩ (.cons ⟨_, rfl⟩ .nil)⟩⟩
    · exact ⟨ta10, rfl, fun H => .inr ⟨_, _, _, tt10, rfl, rfl, (by show 2 ≤ sizeLine; decide), .cons ⟨_, rfl⟩ (.cons ⟨_, rfl⟩ .nil)⟩⟩
    · exact ⟨ta11, rfl, fun H => .inr ⟨_, _, _, tt11, rfl, rfl, (by show 2 ≤ sizeLine; decide), .cons ⟨_, rfl⟩ (.cons ⟨_, rfl⟩ .nil)⟩⟩
  have T : Txt K mg CE CS CO := ⟨⟨_, PySem.W.mg_of X G g0⟩, ⟨_, PySem.W.mg_of X G g1⟩, ⟨_, PySem.W.mg_of X G g2⟩, ⟨_, PySem.W.mg_of X G g3⟩, ⟨_, PySem.W.mg_of X G g4⟩, ⟨_, PySem.W.mg_of X G g5⟩, ⟨_, PySem.W.mg_of X G g6⟩, ⟨_, PySem.W.mg_of X G g7⟩, ⟨_, PySem.W.mg_of X G g8⟩, ⟨_, PySem.W.mg_of X G g9⟩, ⟨_, PySem.W.mg_of X G g10⟩, ⟨_, PySem.W.mg_of X G g11⟩, ⟨_, PySem.W.mg_of X G g12⟩, ⟨_, PySem.W.mg_of X G g13⟩, ⟨_, PySem.W.mg_of X G g14⟩, ⟨_, PySem.W.mg_of X G g15⟩, ⟨_, PySem.W.mg_of X G g16⟩, ⟨_, PySem.W.mg_of X G g17⟩, ⟨_, PySem.W.mg_of X G g18⟩, ⟨_, PySem.W.mg_of X G g19⟩, ⟨_, PySem.W.mg_of X G g20⟩, ⟨_, PySem.W.mg_of X G g21⟩, ⟨_, PySem.W.mg_of X G g22⟩, ⟨_, PySem.W.mg_of X G g23⟩, ⟨_, PySem.W.mg_of X G g24⟩, ⟨_, PySem.W.mg_of X G g25⟩, ⟨_, PySem.W.mg_of X G g26⟩, ⟨_, PySem.W.mg_of X G g27⟩, ⟨_, PySem.W.mg_of X G g28⟩, PySem.W.mg_none_of X G n_list, PySem.W.mg_none_of X G n_reversed, PySem.W.mg_none_of X G n_sorted, PySem.W.mg_none_of X G n_sum, PySem.W.mg_none_of X G n_len, PySem.W.mg_none_of X G n_enumerate, ⟨pgCE, hdCE, poCE, saCE⟩, ⟨pgCS, hdCS, poCS, saCS⟩, ⟨pgCO, hdCO, poCO, saCO⟩, of_decide_eq_false neES, of_decide_eq_false neEO, of_decide_eq_false neSO, e_tool, e_given, e_status, e_length, e_held, s_room, s_entries, o_near, o_far, o_far_is_there, o_sends, o_keeps_failing, o_worked, o_from_near, o_from_far, o_sent, o_dropped, o_spoilt, shp⟩
  refine ⟨PySem.W.fnOf "answers" "answers" (defArgs s_answers) (defBody s_answers) (defScope s_answers) .none kV44 dc44 pm44 an44 cd44 ct44, fun s us hu => match us, hu with | [_], _ => .of_eq rfl, fun base _ _ => ?_⟩
  have p_look_at_tool := ok_look_at_tool (P := P) (w := w) (base := base) T D_look_at_tool
  have p_look_at_store := ok_look_at_store (P := P) (w := w) (base := base) T D_look_at_store
  have p_look_at_truth := ok_look_at_truth (P := P) (w := w) (base := base) T D_look_at_truth
  have p_look_at_input := ok_look_at_input (P := P) (w := w) (base := base) T D_look_at_input
  have p_look_at_action := ok_look_at_action (P := P) (w := w) (base := base) T D_look_at_action p_look_at_tool p_look_at_input
  have p_look_at_stored_action := ok_look_at_stored_action (P := P) (w := w) (base := base) T D_look_at_stored_action p_look_at_store p_look_at_action
  have p_look_at_call := ok_look_at_call (P := P) (w := w) (base := base) T D_look_at_call p_look_at_store p_look_at_truth p_look_at_action p_look_at_stored_action
  have p_doubled := ok_doubled (P := P) (w := w) (base := base) T D_doubled
  have p_zeros_outcome := ok_zeros (P := P) (w := w) (base := base) T D_zeros_outcome
  have p_outcome := ok_outcome (P := P) (w := w) (base := base) T D_outcome p_doubled p_zeros_outcome
  have i_Entry := ok_Entry_init (P := P) (w := w) (base := base) T D_Entry_init
  have m_Entry_is_for := ok_Entry_is_for (P := P) (w := w) (base := base) T D_Entry_is_for
  have m_Entry_is_whole := ok_Entry_is_whole (P := P) (w := w) (base := base) T D_Entry_is_whole
  have m_Entry_size := ok_Entry_size (P := P) (w := w) (base := base) T D_Entry_size
  have m_Entry_cut_to := ok_Entry_cut_to (P := P) (w := w) (base := base) T D_Entry_cut_to
  have m_Entry_listed := ok_Entry_listed (P := P) (w := w) (base := base) T D_Entry_listed
  have i_Store := ok_Store_init (P := P) (w := w) (base := base) T D_Store_init
  have m_Store_take_out := ok_Store_take_out (P := P) (w := w) (base := base) T D_Store_take_out
  have m_Store_move_to_front := ok_Store_move (P := P) (w := w) (base := base) T D_Store_move_to_front m_Store_take_out
  have m_Store_place_of := ok_Store_place_of (P := P) (w := w) (base := base) T D_Store_place_of m_Entry_is_for
  have m_Store_load := ok_Store_load (P := P) (w := w) (base := base) T D_Store_load m_Entry_size
  have m_Store_drop_over_room := ok_Store_drop (P := P) (w := w) (base := base) T D_Store_drop_over_room m_Store_load m_Entry_size
  have m_Store_keep := ok_Store_keep (P := P) (w := w) (base := base) T D_Store_keep m_Entry_size m_Store_drop_over_room
  have m_Store_take_out_cut := ok_Store_take_out_cut (P := P) (w := w) (base := base) T D_Store_take_out_cut m_Entry_is_whole
  have i_Session := ok_Session_init (P := P) (w := w) (base := base) T D_Session_init i_Store
  have m_Session_store_of := ok_Session_store_of (P := P) (w := w) (base := base) T D_Session_store_of
  have m_Session_set_there := fun M => ok_Session_set_there (P := P) (w := w) (base := base) (M := M) T D_Session_set_there
  have m_Session_set_send := fun M => ok_Session_set_send (P := P) (w := w) (base := base) (M := M) T D_Session_set_send
  have m_Session_set_failing := fun M => ok_Session_set_failing (P := P) (w := w) (base := base) (M := M) T D_Session_set_failing
  have m_Session_set_room := fun M => ok_Session_set_room (P := P) (w := w) (base := base) (M := M) T D_Session_set_room m_Session_store_of m_Store_drop_over_room
  have m_Session_counts := fun M => ok_Session_counts (P := P) (w := w) (base := base) (M := M) T D_Session_counts m_Store_load
  have m_Session_keep_in := fun M => ok_keep_in (P := P) (w := w) (base := base) (M := M) T D_Session_keep_in m_Store_keep i_Entry
  have m_Session_whole_place := fun M => ok_whole_place (P := P) (w := w) (base := base) (M := M) T D_Session_whole_place m_Store_place_of m_Entry_is_whole m_Store_take_out
  have m_Session_answer_from_near := fun M => ok_from_near (P := P) (w := w) (base := base) (M := M) T D_Session_answer_from_near m_Store_move_to_front
  have m_Session_answer_from_far := fun M => ok_from_far (P := P) (w := w) (base := base) (M := M) T D_Session_answer_from_far (m_Session_keep_in M)
  have m_Session_work := fun M => ok_work (P := P) (w := w) (base := base) (M := M) T D_Session_work p_outcome (m_Session_keep_in M)
  have m_Session_do := fun M => ok_do (P := P) (w := w) (base := base) (M := M) T D_Session_do (m_Session_whole_place M) (m_Session_answer_from_near M) (m_Session_answer_from_far M) (m_Session_work M)
  have m_Session_cut := fun M => ok_cut (P := P) (w := w) (base := base) (M := M) T D_Session_cut m_Session_store_of m_Store_place_of m_Entry_cut_to
  have m_Session_forget := fun M => ok_forget (P := P) (w := w) (base := base) (M := M) T D_Session_forget m_Session_store_of m_Store_place_of m_Store_take_out
  have m_Session_clean := fun M => ok_clean (P := P) (w := w) (base := base) (M := M) T D_Session_clean m_Session_store_of m_Store_take_out_cut
  have m_Session_share := fun M => ok_share (P := P) (w := w) (base := base) (M := M) T D_Session_share m_Entry_is_whole m_Store_place_of (m_Session_keep_in M)
  have m_Session_has := fun M => ok_has (P := P) (w := w) (base := base) (M := M) T D_Session_has m_Session_store_of m_Store_place_of m_Entry_is_whole
  have m_Session_list_entries := fun M => ok_list (P := P) (w := w) (base := base) (M := M) T D_Session_list_entries m_Session_store_of m_Entry_listed
  have p_answer_call := ok_answer_call (P := P) (w := w) (base := base) T D_answer_call p_look_at_call m_Session_set_room m_Session_set_there m_Session_set_send m_Session_set_failing m_Session_do m_Session_cut m_Session_forget m_Session_clean m_Session_share m_Session_has m_Session_list_entries m_Session_counts
  exact ok_answers (P := P) (w := w) (base := base) T F44 i_Session p_answer_call
end Ac
theorem PySem.W.Fast.tw712037837227331698 : True := trivial
theorem PySem.W.Fast.tw8424028581919327903 : True := trivial
theorem PySem.W.Fast.tw4019781898754322388 : True := trivial
theorem PySem.W.Fast.tw11012877677604198083 : True := trivial
theorem PySem.W.Fast.tw6260486960250659802 : True := trivial
theorem PySem.W.Fast.tw9630919339136161874 : True := trivial
theorem PySem.W.Fast.tw494554650509441458 : True := trivial
theorem PySem.W.Fast.tw6959916786243039297 : True := trivial
theorem PySem.W.Fast.tw893477704713815006 : True := trivial
theorem PySem.W.Fast.tw3541519522665582842 : True := trivial
theorem PySem.W.Fast.tw8541890378037651268 : True := trivial
theorem PySem.W.Fast.tw9615415435956068312 : True := trivial
theorem PySem.W.Fast.tw8906383159773366760 : True := trivial
theorem PySem.W.Fast.tw9165037904749799630 : True := trivial
theorem PySem.W.Fast.tw2615374122166490185 : True := trivial
theorem PySem.W.Fast.tw11524868949531285591 : True := trivial
theorem PySem.W.Fast.tw5077626567764987235 : True := trivial
theorem PySem.W.Fast.tw12314482985589580483 : True := trivial
theorem PySem.W.Fast.tw1091737664080434310 : True := trivial
theorem PySem.W.Fast.tw2293846413154063835 : True := trivial
theorem PySem.W.Fast.tw9234824652517990013 : True := trivial
theorem PySem.W.Fast.tw403914895630314857 : True := trivial
theorem PySem.W.Fast.tw5027136329445991381 : True := trivial
theorem PySem.W.Fast.tw13073761782863904838 : True := trivial
theorem PySem.W.Fast.tw5985013303150687266 : True := trivial
theorem PySem.W.Fast.tw2202307264456011374 : True := trivial
theorem PySem.W.Fast.tw1670436748182030496 : True := trivial
theorem PySem.W.Fast.tw1194122965332125455 : True := trivial
theorem PySem.W.Fast.tw12716677933563794036 : True := trivial
theorem PySem.W.Fast.tw16032716215788334603 : True := trivial
theorem PySem.W.Fast.tw6251967061553710249 : True := trivial
theorem PySem.W.Fast.tw17956053899622497021 : True := trivial
theorem PySem.W.Fast.tw17817329667396673539 : True := trivial
theorem PySem.W.Fast.tw11615824090053417894 : True := trivial
theorem PySem.W.Fast.tw16582578031668522295 : True := trivial
theorem PySem.W.Fast.tw2951141765270335395 : True := trivial
theorem PySem.W.Fast.tw3051161467479874622 : True := trivial
theorem PySem.W.Fast.tw10441224078162257291 : True := trivial
theorem PySem.W.Fast.tw9716173463032189582 : True := trivial
theorem PySem.W.Fast.tw15950558138382689080 : True := trivial
theorem PySem.W.Fast.tw8896965590668438553 : True := trivial
theorem PySem.W.Fast.tw1733024970660518504 : True := trivial
theorem PySem.W.Fast.tw13531853629939687914 : True := trivial
theorem PySem.W.Fast.tw2626025123448906022 : True := trivial
theorem PySem.W.Fast.tw13128906900835248919 : True := trivial
theorem PySem.W.Fast.tw9377362008903049429 : True := trivial
theorem PySem.W.Fast.tw5739581012183064950 : True := trivial
theorem PySem.W.Fast.tw13360597346177457924 : True := trivial
theorem PySem.W.Fast.tw3676580009821330553 : True := trivial
theorem PySem.W.Fast.tw18362007568309821278 : True := trivial
theorem PySem.W.Fast.tw13709087805565765586 : True := trivial
theorem PySem.W.Fast.tw8401338499813475467 : True := trivial
theorem PySem.W.Fast.tw12622833406387129064 : True := trivial
theorem PySem.W.Fast.tw8475386113291612623 : True := trivial
theorem PySem.W.Fast.tw7384241190191637610 : True := trivial
theorem PySem.W.Fast.tw15089431077145687197 : True := trivial
theorem PySem.W.Fast.tw1594468565322589394 : True := trivial
theorem PySem.W.Fast.tw8414080100435449719 : True := trivial
theorem PySem.W.Fast.tw11919535280339884702 : True := trivial
theorem PySem.W.Fast.tw5775306554422321334 : True := trivial
theorem PySem.W.Fast.tw11931995422126796175 : True := trivial
theorem PySem.W.Fast.tw5331984492803855255 : True := trivial
theorem PySem.W.Fast.tw11273616497187272526 : True := trivial
theorem PySem.W.Fast.tw1510334460513560488 : True := trivial
theorem PySem.W.Fast.tw5722823444985726458 : True := trivial
theorem PySem.W.Fast.tw1049522932824469438 : True := trivial
theorem PySem.W.Fast.tw17536800163875394971 : True := trivial
theorem PySem.W.Fast.tw2500073456788864559 : True := trivial
theorem PySem.W.Fast.tw3675535941454246144 : True := trivial
theorem PySem.W.Fast.tw12836588492145285769 : True := trivial
theorem PySem.W.Fast.tw11793118175611575355 : True := trivial
theorem PySem.W.Fast.tw14000934111547681503 : True := trivial
theorem PySem.W.Fast.tw8998725222803979670 : True := trivial
theorem PySem.W.Fast.tw11329365130426731007 : True := trivial
theorem PySem.W.Fast.tw15397559385187710381 : True := trivial
theorem PySem.W.Fast.tw7124931934387744016 : True := trivial
theorem PySem.W.Fast.tw4915563073701996471 : True := trivial
theorem PySem.W.Fast.tw11469884331049837531 : True := trivial
theorem PySem.W.Fast.tw10875760917465912133 : True := trivial
theorem PySem.W.Fast.tw8379312469871959459 : True := trivial
theorem PySem.W.Fast.tw893255589683887982 : True := trivial
theorem PySem.W.Fast.tw5618844251507227855 : True := trivial
theorem PySem.W.Fast.tw10708846937900795358 : True := trivial
theorem PySem.W.Fast.tw12438176564530043262 : True := trivial
theorem PySem.W.Fast.tw3272167041173337651 : True := trivial
theorem PySem.W.Fast.tw1713613662531883240 : True := trivial
theorem PySem.W.Fast.tw5665710980381925902 : True := trivial
theorem PySem.W.Fast.tw13062655336458367565 : True := trivial
theorem PySem.W.Fast.tw10321929049232108420 : True := trivial
theorem PySem.W.Fast.tw15470261355091878843 : True := trivial
theorem PySem.W.Fast.tw195348509915849445 : True := trivial
theorem PySem.W.Fast.tw11949481237568987982 : True := trivial
theorem PySem.W.Fast.tw3191268122007546710 : True := trivial
theorem PySem.W.Fast.tw9589055898375037193 : True := trivial
theorem PySem.W.Fast.tw6188094318110845977 : True := trivial
theorem PySem.W.Fast.tw15432070403879734830 : True := trivial
theorem PySem.W.Fast.tw5453600157402807036 : True := trivial
theorem PySem.W.Fast.tw758552623729145948 : True := trivial
theorem PySem.W.Fast.tw16447545367426175963 : True := trivial
theorem PySem.W.Fast.tw12533764758214671875 : True := trivial
theorem PySem.W.Fast.tw6456554187900481843 : True := trivial
theorem PySem.W.Fast.tw14483234917959179711 : True := trivial
theorem PySem.W.Fast.tw5920635622585660502 : True := trivial
theorem PySem.W.Fast.tw12083354582862834387 : True := trivial
theorem PySem.W.Fast.tw10899486325730564109 : True := trivial
theorem PySem.W.Fast.tw11899124800624627486 : True := trivial
theorem PySem.W.Fast.tw7924240176514239098 : True := trivial
theorem PySem.W.Fast.tw16813322565358349501 : True := trivial
theorem PySem.W.Fast.tw11380914058495448707 : True := trivial
theorem PySem.W.Fast.tw17305181845524316111 : True := trivial
theorem PySem.W.Fast.tw11271478301857106072 : True := trivial
theorem PySem.W.Fast.tw16446259054810382650 : True := trivial
theorem PySem.W.Fast.tw11056370810110919729 : True := trivial
theorem PySem.W.Fast.tw4578197805199588230 : True := trivial
theorem PySem.W.Fast.tw18375950636949344810 : True := trivial
theorem PySem.W.Fast.tw4660145348902387156 : True := trivial
theorem PySem.W.Fast.tw8794851184329222025 : True := trivial
theorem PySem.W.Fast.tw7301696452732444536 : True := trivial
theorem PySem.W.Fast.tw4219778432708275968 : True := trivial
theorem PySem.W.Fast.tw7113970606098797320 : True := trivial
theorem PySem.W.Fast.tw13401253349227637010 : True := trivial
theorem PySem.W.Fast.tw4578617503069430304 : True := trivial
theorem PySem.W.Fast.tw6035317945857386313 : True := trivial
theorem PySem.W.Fast.tw1167562604721489445 : True := trivial
theorem PySem.W.Fast.tw9557341383717298729 : True := trivial
theorem PySem.W.Fast.tw10137813302288234354 : True := trivial
theorem PySem.W.Fast.tw8213694441881151583 : True := trivial
theorem PySem.W.Fast.tw1852850275475546722 : True := trivial
theorem PySem.W.Fast.tw7172897707244219823 : True := trivial
theorem PySem.W.Fast.tw6471433405408846360 : True := trivial
theorem PySem.W.Fast.tw16719740145872658252 : True := trivial
theorem PySem.W.Fast.tw11359162685668471885 : True := trivial
theorem PySem.W.Fast.tw2158977689304694699 : True := trivial
theorem PySem.W.Fast.tw10576793495027000860 : True := trivial
theorem PySem.W.Fast.tw3697096315287442323 : True := trivial
theorem PySem.W.Fast.tw15824464200440210499 : True := trivial
theorem PySem.W.Fast.tw9580531587581761922 : True := trivial
theorem PySem.W.Fast.tw8641275988281202814 : True := trivial
theorem PySem.W.Fast.tw5533798590741026946 : True := trivial
theorem PySem.W.Fast.tw6985969776480015012 : True := trivial
theorem PySem.W.Fast.tw7538662207768849061 : True := trivial
theorem PySem.W.Fast.tw1381581329342915245 : True := trivial
theorem PySem.W.Fast.tw4462716255215904688 : True := trivial
theorem PySem.W.Fast.tw16507908416692471015 : True := trivial
theorem PySem.W.Fast.tw7554181078853026475 : True := trivial
theorem PySem.W.Fast.tw1922809384328090180 : True := trivial
theorem PySem.W.Fast.tw7737420473134127832 : True := trivial
theorem PySem.W.Fast.tw18329157425806745193 : True := trivial
theorem PySem.W.Fast.tw15944286998102256289 : True := trivial
theorem PySem.W.Fast.tw18048640074378711686 : True := trivial
theorem PySem.W.Fast.tw12275923127499361684 : True := trivial
theorem PySem.W.Fast.tw10747313320763988369 : True := trivial
theorem PySem.W.Fast.tw11962864028245364247 : True := trivial
theorem PySem.W.Fast.tw16061061087171895809 : True := trivial
theorem PySem.W.Fast.tw5560123171790990946 : True := trivial
theorem PySem.W.Fast.tw16442351451581554068 : True := trivial
theorem PySem.W.Fast.tw12703849193468721659 : True := trivial
theorem PySem.W.Fast.tw10095191664452648923 : True := trivial
theorem PySem.W.Fast.tw6446105406196660199 : True := trivial
theorem PySem.W.Fast.tw2443206664662215868 : True := trivial
theorem PySem.W.Fast.tw12044696333211718341 : True := trivial
theorem PySem.W.Fast.tw14958985907476039821 : True := trivial
theorem PySem.W.Fast.tw15676024028814613714 : True := trivial
theorem PySem.W.Fast.tw2735005420376664310 : True := trivial
theorem PySem.W.Fast.tw3749075821790267990 : True := trivial
theorem PySem.W.Fast.tw3221814773986843871 : True := trivial
theorem PySem.W.Fast.tw12275870346796613668 : True := trivial
theorem PySem.W.Fast.tw2497592702660297431 : True := trivial
theorem PySem.W.Fast.tw7448459051032221183 : True := trivial
theorem PySem.W.Fast.tw13521122339258810991 : True := trivial
theorem PySem.W.Fast.tw78642699227056502 : True := trivial
theorem PySem.W.Fast.tw9836631624796187189 : True := trivial
theorem PySem.W.Fast.tw9353052395129166047 : True := trivial
theorem PySem.W.Fast.tw7777257183344737429 : True := trivial
theorem PySem.W.Fast.tw7643078646512598093 : True := trivial
theorem PySem.W.Fast.tw4309199956809495318 : True := trivial
theorem PySem.W.Fast.tw1866345817442428866 : True := trivial
theorem PySem.W.Fast.tw5729502416773789814 : True := trivial
theorem PySem.W.Fast.tw16647879312592543129 : True := trivial
theorem PySem.W.Fast.tw916064361926952397 : True := trivial
theorem PySem.W.Fast.tw9992356220839436661 : True := trivial
theorem PySem.W.Fast.tw15611440833685294801 : True := trivial
theorem PySem.W.Fast.tw15378755039285198070 : True := trivial
theorem PySem.W.Fast.tw15451467351019329061 : True := trivial
theorem PySem.W.Fast.tw534585230540917044 : True := trivial
theorem PySem.W.Fast.tw15615813556358103679 : True := trivial
theorem PySem.W.Fast.tw6035732898362321195 : True := trivial
theorem PySem.W.Fast.tw6989469281534482721 : True := trivial
theorem PySem.W.Fast.tw2199016088053760879 : True := trivial
theorem PySem.W.Fast.tw1225904587581904404 : True := trivial
theorem PySem.W.Fast.tw1199383726193187204 : True := trivial
theorem PySem.W.Fast.tw14825817199858506284 : True := trivial
theorem PySem.W.Fast.tw12117719565448615048 : True := trivial
theorem PySem.W.Fast.tw14189036812261587087 : True := trivial
theorem PySem.W.Fast.tw16547387095561892155 : True := trivial
theorem PySem.W.Fast.tw7194970807263643816 : True := trivial
theorem PySem.W.Fast.tw616824228267513224 : True := trivial
theorem PySem.W.Fast.tw8992083811178391972 : True := trivial
theorem PySem.W.Fast.tw14063322606325291810 : True := trivial
theorem PySem.W.Fast.tw3911226723376834999 : True := trivial
theorem PySem.W.Fast.tw7780957461187855197 : True := trivial
theorem PySem.W.Fast.tw3053678613466400128 : True := trivial
theorem PySem.W.Fast.tw5847671198330944271 : True := trivial
theorem PySem.W.Fast.tw9427551565069614166 : True := trivial
theorem PySem.W.Fast.tw11127921007715800268 : True := trivial
theorem PySem.W.Fast.tw15561773999720934217 : True := trivial
theorem PySem.W.Fast.tw5024315229510756231 : True := trivial
theorem PySem.W.Fast.tw13084332479686295793 : True := trivial
theorem PySem.W.Fast.tw2553736249838737884 : True := trivial
theorem PySem.W.Fast.tw15936185520853156891 : True := trivial
theorem PySem.W.Fast.tw10807622128626831109 : True := trivial
theorem PySem.W.Fast.tw16654534393544501395 : True := trivial
theorem PySem.W.Fast.tw7095231759351964383 : True := trivial
theorem PySem.W.Fast.tw4356249348863446030 : True := trivial
theorem PySem.W.Fast.tw7872440650581604214 : True := trivial
theorem PySem.W.Fast.tw1331276554265016380 : True := trivial
theorem PySem.W.Fast.tw10140893291697275776 : True := trivial
theorem PySem.W.Fast.tw18042563224303603798 : True := trivial
theorem PySem.W.Fast.tw16501078528374006314 : True := trivial
theorem PySem.W.Fast.tw7179807486376045360 : True := trivial
theorem PySem.W.Fast.tw7454006274640657965 : True := trivial
theorem PySem.W.Fast.tw11033517128367462359 : True := trivial
theorem PySem.W.Fast.tw11352683219492216887 : True := trivial
theorem PySem.W.Fast.tw12095780810893744872 : True := trivial
theorem PySem.W.Fast.tw197288390099550599 : True := trivial
theorem PySem.W.Fast.tw9181035804268370284 : True := trivial
theorem PySem.W.Fast.tw15476894266349401737 : True := trivial
theorem PySem.W.Fast.tw16372901541024270622 : True := trivial
theorem PySem.W.Fast.tw3297149819359281685 : True := trivial
theorem PySem.W.Fast.tw13043479000475273979 : True := trivial
theorem PySem.W.Fast.tw733207699071151524 : True := trivial
theorem PySem.W.Fast.tw3775517148719654541 : True := trivial
theorem PySem.W.Fast.tw17397731869723673698 : True := trivial
theorem PySem.W.Fast.tw9415093252982885124 : True := trivial
theorem PySem.W.Fast.tw13429700890053184458 : True := trivial
theorem PySem.W.Fast.tw958951140570262155 : True := trivial
theorem PySem.W.Fast.tw15504445232374220639 : True := trivial
theorem PySem.W.Fast.tw13876319906093583028 : True := trivial
theorem PySem.W.Fast.tw1641909939307159421 : True := trivial
theorem PySem.W.Fast.tw10941018996872297128 : True := trivial
theorem PySem.W.Fast.tw9999596343520132519 : True := trivial
theorem PySem.W.Fast.tw14919667068995355796 : True := trivial
theorem PySem.W.Fast.tw3286457246168189991 : True := trivial
theorem PySem.W.Fast.tw17021655135989715175 : True := trivial
theorem PySem.W.Fast.tw7808124263293389160 : True := trivial
theorem PySem.W.Fast.tw15887626221363548956 : True := trivial
theorem PySem.W.Fast.tw12761475895645266126 : True := trivial
theorem PySem.W.Fast.tw17795841284986520262 : True := trivial
theorem PySem.W.Fast.tw2190344594356643151 : True := trivial
theorem PySem.W.Fast.tw7638436976510587286 : True := trivial
theorem PySem.W.Fast.tw16926409791182590311 : True := trivial
theorem PySem.W.Fast.tw16688841237499803712 : True := trivial
theorem PySem.W.Fast.tw8003337331581311767 : True := trivial
theorem PySem.W.Fast.tw10531329876373589187 : True := trivial
theorem PySem.W.Fast.tw15297905201630028789 : True := trivial
theorem PySem.W.Fast.tw1935524848685213414 : True := trivial
theorem PySem.W.Fast.tw6885300185545849822 : True := trivial
theorem PySem.W.Fast.tw12833716497807137247 : True := trivial
theorem PySem.W.Fast.tw17032718393520391342 : True := trivial
theorem PySem.W.Fast.tw10966084973965956151 : True := trivial
theorem PySem.W.Fast.tw14000547756497402769 : True := trivial
theorem PySem.W.Fast.tw7099023418155486146 : True := trivial
theorem PySem.W.Fast.tw15376972145969555124 : True := trivial
theorem PySem.W.Fast.tw7259539120421437873 : True := trivial
theorem PySem.W.Fast.tw10304774529827432010 : True := trivial
theorem PySem.W.Fast.tw9853052485918924940 : True := trivial
theorem PySem.W.Fast.tw12929684760952667200 : True := trivial
theorem PySem.W.Fast.tw10957376841705847283 : True := trivial
theorem PySem.W.Fast.tw16535861011084135878 : True := trivial
theorem PySem.W.Fast.tw8766973873726458162 : True := trivial
theorem PySem.W.Fast.tw13193845431016426570 : True := trivial
theorem PySem.W.Fast.tw3417722270503244813 : True := trivial
theorem PySem.W.Fast.tw2097877864196369971 : True := trivial
theorem PySem.W.Fast.tw16862611433397128858 : True := trivial
theorem PySem.W.Fast.tw4177889420525072881 : True := trivial
theorem PySem.W.Fast.tw13059544143243456535 : True := trivial
theorem PySem.W.Fast.tw9468280833036178032 : True := trivial
theorem PySem.W.Fast.tw8871325350578290810 : True := trivial
theorem PySem.W.Fast.tw11373459396678812871 : True := trivial
theorem PySem.W.Fast.tw1139049505893130059 : True := trivial
theorem PySem.W.Fast.tw1898867497181918633 : True := trivial
theorem PySem.W.Fast.tw8580759098901256180 : True := trivial
theorem PySem.W.Fast.tw4124534960759895352 : True := trivial
theorem PySem.W.Fast.tw3993673712791517186 : True := trivial
theorem PySem.W.Fast.tw17977928647364143083 : True := trivial
theorem PySem.W.Fast.tw8950450164620445630 : True := trivial
theorem PySem.W.Fast.tw978759800101097745 : True := trivial
theorem PySem.W.Fast.tw13845111213833244316 : True := trivial
theorem PySem.W.Fast.tw7883371158003154457 : True := trivial
theorem PySem.W.Fast.tw5122503431155310974 : True := trivial
theorem PySem.W.Fast.tw1878281433047567584 : True := trivial
theorem PySem.W.Fast.tw8456712864021149694 : True := trivial
theorem PySem.W.Fast.tw891396120447321903 : True := trivial
theorem PySem.W.Fast.tw10633492213091700003 : True := trivial
theorem PySem.W.Fast.tw13549993430060659446 : True := trivial
theorem PySem.W.Fast.tw9989403201788621438 : True := trivial
theorem PySem.W.Fast.tw13066397564712393958 : True := trivial
theorem PySem.W.Fast.tw8837939867229201653 : True := trivial
theorem PySem.W.Fast.tw4018885731723146550 : True := trivial
theorem PySem.W.Fast.tw6954507666237180291 : True := trivial
theorem PySem.W.Fast.tw4268278790071918052 : True := trivial
theorem PySem.W.Fast.tw1339519068053465555 : True := trivial
theorem PySem.W.Fast.tw8044141505352335481 : True := trivial
theorem PySem.W.Fast.tw2008078709063233401 : True := trivial
theorem PySem.W.Fast.tw7123971701079098280 : True := trivial
theorem PySem.W.Fast.tw15594303123604933750 : True := trivial
theorem PySem.W.Fast.tw6169144401351343546 : True := trivial
theorem PySem.W.Fast.tw2700417776925043802 : True := trivial
theorem PySem.W.Fast.tw17888298037278822644 : True := trivial
theorem PySem.W.Fast.tw17574514613635392363 : True := trivial
theorem PySem.W.Fast.tw13369600948545372469 : True := trivial
theorem PySem.W.Fast.tw6040986983363111721 : True := trivial
theorem PySem.W.Fast.tw12813400477981319783 : True := trivial
theorem PySem.W.Fast.tw12621812936864163609 : True := trivial
theorem PySem.W.Fast.tw193605249706601144 : True := trivial
theorem PySem.W.Fast.tw11787601916748104166 : True := trivial
theorem PySem.W.Fast.tw7596117832681629 : True := trivial
theorem PySem.W.Fast.tw16653765623293053165 : True := trivial
theorem PySem.W.Fast.tw16192282782538916962 : True := trivial
theorem PySem.W.Fast.tw10177595997530977451 : True := trivial
theorem PySem.W.Fast.tw15953665644267839385 : True := trivial
theorem PySem.W.Fast.tw8086614938657216687 : True := trivial
theorem PySem.W.Fast.tw11884238226879512813 : True := trivial
theorem PySem.W.Fast.tw14463551809385929560 : True := trivial
theorem PySem.W.Fast.tw12341760447952213381 : True := trivial
theorem PySem.W.Fast.tw8946002955831594864 : True := trivial
theorem PySem.W.Fast.tw17163100526126015756 : True := trivial
theorem PySem.W.Fast.tw16215938976532944059 : True := trivial
theorem PySem.W.Fast.tw13507707019404225491 : True := trivial
theorem PySem.W.Fast.tw9462898828997010675 : True := trivial
theorem PySem.W.Fast.tw17682224854830005702 : True := trivial
theorem PySem.W.Fast.tw6858478999606886239 : True := trivial
theorem PySem.W.Fast.tw10236689520809774582 : True := trivial
open PySem PySem.W PyProof.Rows
set_option maxRecDepth 100000 in
set_option maxHeartbeats 0 in
theorem PySem.Challenge.cw_actioncaches_s01_answers_holds : PySem.Challenge.rw_actioncaches_s01_answers.Holds := by
  w_on; k_headS; (case hw => exact ⟨[.list [.int 11]], by decide +kernel, by decide +kernel⟩)
  k_fillS
  refine L2.walk_specK (r := PySem.Challenge.rw_actioncaches_s01_answers) (k := 9) (CX := L2.CX0) (ps := ["calls"]) (sp := Ac.sp_answers) (by decide +kernel) rfl rfl ⟨rfl, by decide, by decide⟩ (fun w h Y => PySem.W.kIn_of Y) ?F ?S (fun _ _ _ _ z => z)
  case F =>
    intro w mg fa h Y KX G hmg
    refine' Ac.all_mk KX G hmg ?z_g0 ?z_g1 ?z_g2 ?z_g3 ?z_g4 ?z_g5 ?z_g6 ?z_g7 ?z_g8 ?z_g9 ?z_g10 ?z_g11 ?z_g12 ?z_g13 ?z_g14 ?z_g15 ?z_g16 ?z_g17 ?z_g18 ?z_g19 ?z_g20 ?z_g21 ?z_g22 ?z_g23 ?z_g24 ?z_g25 ?z_g26 ?z_g27 ?z_g28 ?z_n_list ?z_n_reversed ?z_n_sorted ?z_n_sum ?z_n_len ?z_n_enumerate ?z_aCE ?z_pgCE ?z_hdCE ?z_poCE ?z_saCE ?z_mkCE ?z_kcCE ?z_e_tool ?z_e_given ?z_e_status ?z_e_length ?z_e_held ?z_aCS ?z_pgCS ?z_hdCS ?z_poCS ?z_saCS ?z_mkCS ?z_kcCS ?z_s_room ?z_s_entries ?z_aCO ?z_pgCO ?z_hdCO ?z_poCO ?z_saCO ?z_mkCO ?z_kcCO ?z_o_near ?z_o_far ?z_o_far_is_there ?z_o_sends ?z_o_keeps_failing ?z_o_worked ?z_o_from_near ?z_o_from_far ?z_o_sent ?z_o_dropped ?z_o_spoilt ?z_neES ?z_neEO ?z_neSO ?z_a0 ?z_l0 ?z_c0 ?z_k0 ?z_a1 ?z_l1 ?z_c1 ?z_k1 ?z_a2 ?z_l2 ?z_c2 ?z_k2 ?z_a3 ?z_l3 ?z_c3 ?z_k3 ?z_a4 ?z_l4 ?z_c4 ?z_k4 ?z_a5 ?z_l5 ?z_c5 ?z_k5 ?z_a6 ?z_l6 ?z_c6 ?z_k6 ?z_a7 ?z_l7 ?z_c7 ?z_k7 ?z_a8 ?z_l8 ?z_c8 ?z_k8 ?z_a9 ?z_l9 ?z_c9 ?z_k9 ?z_a10 ?z_i10 ?z_l10 ?z_c10 ?z_k10 ?z_a11 ?z_i11 ?z_l11 ?z_c11 ?z_k11 ?z_a12 ?z_i12 ?z_l12 ?z_c12 ?z_k12 ?z_a13 ?z_i13 ?z_l13 ?z_c13 ?z_k13 ?z_a14 ?z_i14 ?z_l14 ?z_c14 ?z_k14 ?z_a15 ?z_i15 ?z_l15 ?z_c15 ?z_k15 ?z_a16 ?z_i16 ?z_l16 ?z_c16 ?z_k16 ?z_a17 ?z_i17 ?z_l17 ?z_c17 ?z_k17 ?z_a18 ?z_i18 ?z_l18 ?z_c18 ?z_k18 ?z_a19 ?z_i19 ?z_l19 ?z_c19 ?z_k19 ?z_a20 ?z_i20 ?z_l20 ?z_c20 ?z_k20 ?z_a21 ?z_i21 ?z_l21 ?z_c21 ?z_k21 ?z_a22 ?z_i22 ?z_l22 ?z_c22 ?z_k22 ?z_a23 ?z_i23 ?z_l23 ?z_c23 ?z_k23 ?z_a24 ?z_i24 ?z_l24 ?z_c24 ?z_k24 ?z_a25 ?z_i25 ?z_l25 ?z_c25 ?z_k25 ?z_a26 ?z_i26 ?z_l26 ?z_c26 ?z_k26 ?z_a27 ?z_i27 ?z_l27 ?z_c27 ?z_k27 ?z_a28 ?z_i28 ?z_l28 ?z_c28 ?z_k28 ?z_a29 ?z_i29 ?z_l29 ?z_c29 ?z_k29 ?z_a30 ?z_i30 ?z_l30 ?z_c30 ?z_k30 ?z_a31 ?z_i31 ?z_l31 ?z_c31 ?z_k31 ?z_a32 ?z_i32 ?z_l32 ?z_c32 ?z_k32 ?z_a33 ?z_i33 ?z_l33 ?z_c33 ?z_k33 ?z_a34 ?z_i34 ?z_l34 ?z_c34 ?z_k34 ?z_a35 ?z_i35 ?z_l35 ?z_c35 ?z_k35 ?z_a36 ?z_i36 ?z_l36 ?z_c36 ?z_k36 ?z_a37 ?z_i37 ?z_l37 ?z_c37 ?z_k37 ?z_a38 ?z_i38 ?z_l38 ?z_c38 ?z_k38 ?z_a39 ?z_i39 ?z_l39 ?z_c39 ?z_k39 ?z_a40 ?z_i40 ?z_l40 ?z_c40 ?z_k40 ?z_a41 ?z_i41 ?z_l41 ?z_c41 ?z_k41 ?z_a42 ?z_i42 ?z_l42 ?z_c42 ?z_k42 ?z_a43 ?z_l43 ?z_c43 ?z_k43 ?z_a44 ?z_l44 ?z_c44 ?z_k44 ?z_tb ?z_tl ?z_th ?z_tt0 ?z_tt1 ?z_tt2 ?z_tt3 ?z_tt4 ?z_tt5 ?z_tt6 ?z_tt7 ?z_tt8 ?z_tt9 ?z_tt10 ?z_tt11
    (case z_g0 => k_is)
    (case z_g1 => k_is)
    (case z_g2 => k_is)
    (case z_g3 => k_is)
    (case z_g4 => k_is)
    (case z_g5 => k_is)
    (case z_g6 => k_is)
    (case z_g7 => k_is)
    (case z_g8 => k_is)
    (case z_g9 => k_is)
    (case z_g10 => k_is)
    (case z_g11 => k_is)
    (case z_g12 => k_is)
    (case z_g13 => k_is)
    (case z_g14 => k_is)
    (case z_g15 => k_is)
    (case z_g16 => k_is)
    (case z_g17 => k_is)
    (case z_g18 => k_is)
    (case z_g19 => k_is)
    (case z_g20 => k_is)
    (case z_g21 => k_is)
    (case z_g22 => k_is)
    (case z_g23 => k_is)
    (case z_g24 => k_is)
    (case z_g25 => k_is)
    (case z_g26 => k_is)
    (case z_g27 => k_is)
    (case z_g28 => k_is)
    (case z_n_list => k_is)
    (case z_n_reversed => k_is)
    (case z_n_sorted => k_is)
    (case z_n_sum => k_is)
    (case z_n_len => k_is)
    (case z_n_enumerate => k_is)
    (case z_aCE => k_is)
    (case z_pgCE => k_is)
    (case z_hdCE => k_is)
    (case z_poCE => k_is)
    (case z_saCE => k_is)
    (case z_mkCE => k_is)
    (case z_kcCE => k_is)
    (case z_e_tool => k_is)
    (case z_e_given => k_is)
    (case z_e_status => k_is)
    (case z_e_length => k_is)
    (case z_e_held => k_is)
    (case z_aCS => k_is)
    (case z_pgCS => k_is)
    (case z_hdCS => k_is)
    (case z_poCS => k_is)
    (case z_saCS => k_is)
    (case z_mkCS => k_is)
    (case z_kcCS => k_is)
    (case z_s_room => k_is)
    (case z_s_entries => k_is)
    (case z_aCO => k_is)
    (case z_pgCO => k_is)
    (case z_hdCO => k_is)
    (case z_poCO => k_is)
    (case z_saCO => k_is)
    (case z_mkCO => k_is)
    (case z_kcCO => k_is)
    (case z_o_near => k_is)
    (case z_o_far => k_is)
    (case z_o_far_is_there => k_is)
    (case z_o_sends => k_is)
    (case z_o_keeps_failing => k_is)
    (case z_o_worked => k_is)
    (case z_o_from_near => k_is)
    (case z_o_from_far => k_is)
    (case z_o_sent => k_is)
    (case z_o_dropped => k_is)
    (case z_o_spoilt => k_is)
    (case z_neES => decide +kernel)
    (case z_neEO => decide +kernel)
    (case z_neSO => decide +kernel)
    (case z_a0 => k_is)
    (case z_l0 => k_is)
    (case z_c0 => k_is)
    (case z_k0 => k_is)
    (case z_a1 => k_is)
    (case z_l1 => k_is)
    (case z_c1 => k_is)
    (case z_k1 => k_is)
    (case z_a2 => k_is)
    (case z_l2 => k_is)
    (case z_c2 => k_is)
    (case z_k2 => k_is)
    (case z_a3 => k_is)
    (case z_l3 => k_is)
    (case z_c3 => k_is)
    (case z_k3 => k_is)
    (case z_a4 => k_is)
    (case z_l4 => k_is)
    (case z_c4 => k_is)
    (case z_k4 => k_is)
    (case z_a5 => k_is)
    (case z_l5 => k_is)
    (case z_c5 => k_is)
    (case z_k5 => k_is)
    (case z_a6 => k_is)
    (case z_l6 => k_is)
    (case z_c6 => k_is)
    (case z_k6 => k_is)
    (case z_a7 => k_is)
    (case z_l7 => k_is)
    (case z_c7 => k_is)
    (case z_k7 => k_is)
    (case z_a8 => k_is)
    (case z_l8 => k_is)
    (case z_c8 => k_is)
    (case z_k8 => k_is)
    (case z_a9 => k_is)
    (case z_l9 => k_is)
    (case z_c9 => k_is)
    (case z_k9 => k_is)
    (case z_a10 => k_is)
    (case z_i10 => k_is)
    (case z_l10 => k_is)
    (case z_c10 => k_is)
    (case z_k10 => k_is)
    (case z_a11 => k_is)
    (case z_i11 => k_is)
    (case z_l11 => k_is)
    (case z_c11 => k_is)
    (case z_k11 => k_is)
    (case z_a12 => k_is)
    (case z_i12 => k_is)
    (case z_l12 => k_is)
    (case z_c12 => k_is)
    (case z_k12 => k_is)
    (case z_a13 => k_is)
    (case z_i13 => k_is)
    (case z_l13 => k_is)
    (case z_c13 => k_is)
    (case z_k13 => k_is)
    (case z_a14 => k_is)
    (case z_i14 => k_is)
    (case z_l14 => k_is)
    (case z_c14 => k_is)
    (case z_k14 => k_is)
    (case z_a15 => k_is)
    (case z_i15 => k_is)
    (case z_l15 => k_is)
    (case z_c15 => k_is)
    (case z_k15 => k_is)
    (case z_a16 => k_is)
    (case z_i16 => k_is)
    (case z_l16 => k_is)
    (case z_c16 => k_is)
    (case z_k16 => k_is)
    (case z_a17 => k_is)
    (case z_i17 => k_is)
    (case z_l17 => k_is)
    (case z_c17 => k_is)
    (case z_k17 => k_is)
    (case z_a18 => k_is)
    (case z_i18 => k_is)
    (case z_l18 => k_is)
    (case z_c18 => k_is)
    (case z_k18 => k_is)
    (case z_a19 => k_is)
    (case z_i19 => k_is)
    (case z_l19 => k_is)
    (case z_c19 => k_is)
    (case z_k19 => k_is)
    (case z_a20 => k_is)
    (case z_i20 => k_is)
    (case z_l20 => k_is)
    (case z_c20 => k_is)
    (case z_k20 => k_is)
    (case z_a21 => k_is)
    (case z_i21 => k_is)
    (case z_l21 => k_is)
    (case z_c21 => k_is)
    (case z_k21 => k_is)
    (case z_a22 => k_is)
    (case z_i22 => k_is)
    (case z_l22 => k_is)
    (case z_c22 => k_is)
    (case z_k22 => k_is)
    (case z_a23 => k_is)
    (case z_i23 => k_is)
    (case z_l23 => k_is)
    (case z_c23 => k_is)
    (case z_k23 => k_is)
    (case z_a24 => k_is)
    (case z_i24 => k_is)
    (case z_l24 => k_is)
    (case z_c24 => k_is)
    (case z_k24 => k_is)
    (case z_a25 => k_is)
    (case z_i25 => k_is)
    (case z_l25 => k_is)
    (case z_c25 => k_is)
    (case z_k25 => k_is)
    (case z_a26 => k_is)
    (case z_i26 => k_is)
    (case z_l26 => k_is)
    (case z_c26 => k_is)
    (case z_k26 => k_is)
    (case z_a27 => k_is)
    (case z_i27 => k_is)
    (case z_l27 => k_is)
    (case z_c27 => k_is)
    (case z_k27 => k_is)
    (case z_a28 => k_is)
    (case z_i28 => k_is)
    (case z_l28 => k_is)
    (case z_c28 => k_is)
    (case z_k28 => k_is)
    (case z_a29 => k_is)
    (case z_i29 => k_is)
    (case z_l29 => k_is)
    (case z_c29 => k_is)
    (case z_k29 => k_is)
    (case z_a30 => k_is)
    (case z_i30 => k_is)
    (case z_l30 => k_is)
    (case z_c30 => k_is)
    (case z_k30 => k_is)
    (case z_a31 => k_is)
    (case z_i31 => k_is)
    (case z_l31 => k_is)
    (case z_c31 => k_is)
    (case z_k31 => k_is)
    (case z_a32 => k_is)
    (case z_i32 => k_is)
    (case z_l32 => k_is)
    (case z_c32 => k_is)
    (case z_k32 => k_is)
    (case z_a33 => k_is)
    (case z_i33 => k_is)
    (case z_l33 => k_is)
    (case z_c33 => k_is)
    (case z_k33 => k_is)
    (case z_a34 => k_is)
    (case z_i34 => k_is)
    (case z_l34 => k_is)
    (case z_c34 => k_is)
    (case z_k34 => k_is)
    (case z_a35 => k_is)
    (case z_i35 => k_is)
    (case z_l35 => k_is)
    (case z_c35 => k_is)
    (case z_k35 => k_is)
    (case z_a36 => k_is)
    (case z_i36 => k_is)
    (case z_l36 => k_is)
    (case z_c36 => k_is)
    (case z_k36 => k_is)
    (case z_a37 => k_is)
    (case z_i37 => k_is)
    (case z_l37 => k_is)
    (case z_c37 => k_is)
    (case z_k37 => k_is)
    (case z_a38 => k_is)
    (case z_i38 => k_is)
    (case z_l38 => k_is)
    (case z_c38 => k_is)
    (case z_k38 => k_is)
    (case z_a39 => k_is)
    (case z_i39 => k_is)
    (case z_l39 => k_is)
    (case z_c39 => k_is)
    (case z_k39 => k_is)
    (case z_a40 => k_is)
    (case z_i40 => k_is)
    (case z_l40 => k_is)
    (case z_c40 => k_is)
    (case z_k40 => k_is)
    (case z_a41 => k_is)
    (case z_i41 => k_is)
    (case z_l41 => k_is)
    (case z_c41 => k_is)
    (case z_k41 => k_is)
    (case z_a42 => k_is)
    (case z_i42 => k_is)
    (case z_l42 => k_is)
    (case z_c42 => k_is)
    (case z_k42 => k_is)
    (case z_a43 => k_is)
    (case z_l43 => k_is)
    (case z_c43 => k_is)
    (case z_k43 => k_is)
    (case z_a44 => k_is)
    (case z_l44 => k_is)
    (case z_c44 => k_is)
    (case z_k44 => k_is)
    (case z_tb => k_is)
    (case z_tl => k_is)
    (case z_th => decide +kernel)
    (case z_tt0 => k_is)
    (case z_tt1 => k_is)
    (case z_tt2 => k_is)
    (case z_tt3 => k_is)
    (case z_tt4 => k_is)
    (case z_tt5 => k_is)
    (case z_tt6 => k_is)
    (case z_tt7 => k_is)
    (case z_tt8 => k_is)
    (case z_tt9 => k_is)
    (case z_tt10 => k_is)
    (case z_tt11 => k_is)
  case S =>
    intro K H xs a hO hwi hask hx
    cases hx with
    | cons h1 h2 =>
      cases h2
      cases h1 with
      | lst hs ha =>
        have e := L2.ints_dw a.1 _ ha
        subst e
        exact ⟨_, a.1, rfl, hs, hask, fun H' p hp => .lst (L2.SqL.of hp) (L2.dw_ints _)⟩

