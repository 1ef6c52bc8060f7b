import PyProof.Rows.All
import Wide.All
import OpenK.AllK
import Wide.FinOn
import PyProof.EqAt
import PyProof.EqKinds
import PyProof.TupleCall
import KE.BitLaws
import KE.OsGo
import KE.OsEnd
import Open.SpecLaws
import PySq05
import PySem.Challenge.RW_trendcells_s01_answers
set_option Elab.async false
set_option linter.all false
set_option maxRecDepth 100000

namespace L2
open PySem PySem.Spec PyProof.Rows
abbrev Key := Sum Int Str
def keyIs : Key → Value → Bool
  | .inl k, v => Value.isInt k v
  | .inr x, v => Value.isStrOf x v
def keyH (w : World) : Key → Int
  | .inl k => hashInt k
  | .inr x => hashStr w x
theorem keyIs_shape : ∀ {k : Key} {v : Value}, keyIs k v = true → (∃ i t, k = Sum.inl i ∧ v = Value.int i t) ∨ (∃ x t, k = Sum.inr x ∧ v = Value.str x t)
  | .inl i, v, h => by
    obtain ⟨t, e⟩ := Value.isInt_shape (k := i) (v := v) h
    exact .inl ⟨i, t, rfl, e⟩
  | .inr x, v, h => by
    obtain ⟨t, e⟩ := Value.isStrOf_shape (x := x) (v := v) h
    exact .inr ⟨x, t, rfl, e⟩
theorem keyIs_int (i : Int) (t : Tok) : keyIs (.inl i) (.int i t) = true := by simp [keyIs, Value.isInt]
theorem keyIs_str (x : Str) (t : Tok) : keyIs (.inr x) (.str x t) = true := by simp [keyIs, Value.isStrOf]
theorem key_ll (a b : Int) : decide ((Sum.inl a : Key) = Sum.inl b) = (a == b) := by
  by_cases e : a = b
  · subst e; simp
  · have h : ¬ (Sum.inl a : Key) = Sum.inl b := fun q => e (Sum.inl.inj q)
    rw [decide_eq_false h]
    exact (beq_eq_false_iff_ne.mpr e).symm
theorem key_rr (a b : Str) : decide ((Sum.inr a : Key) = Sum.inr b) = decide (a = b) := by
  by_cases e : a = b
  · subst e; simp
  · have h : ¬ (Sum.inr a : Key) = Sum.inr b := fun q => e (Sum.inr.inj q)
    rw [decide_eq_false h, decide_eq_false e]
theorem key_lr (a : Int) (b : Str) : decide ((Sum.inl a : Key) = Sum.inr b) = false := decide_eq_false (fun q => nomatch q)
theorem key_rl (a : Str) (b : Int) : decide ((Sum.inr a : Key) = Sum.inl b) = false := decide_eq_false (fun q => nomatch q)
def mixKind (prog : Program) (w : World) : PySem.KeyKind prog w Key where
  is := keyIs
  hash := keyH w
  inj := fun v a b ha hb => by
    rcases keyIs_shape ha with ⟨i, t, rfl, rfl⟩ | ⟨x, t, rfl, rfl⟩
    · rcases keyIs_shape hb with ⟨j, u, rfl, e⟩ | ⟨y, u, rfl, e⟩
      · injection e with e1 _; rw [e1]
      · exact nomatch e
    · rcases keyIs_shape hb with ⟨j, u, rfl, e⟩ | ⟨y, u, rfl, e⟩
      · exact nomatch e
      · injection e with e1 _; rw [e1]
  byValue := fun k v h => by
    rcases keyIs_shape h with ⟨i, t, rfl, rfl⟩ | ⟨x, t, rfl, rfl⟩ <;> rfl
  pyHash := fun hv h => by
    rcases keyIs_shape hv with ⟨i, t, rfl, rfl⟩ | ⟨x, t, rfl, rfl⟩
    · exact wpAny_pyHash_int h
    · exact wpAny_pyHash_str h
  eqBool := fun hu hv h => by
    rcases keyIs_shape hu with ⟨i, t, rfl, rfl⟩ | ⟨x, t, rfl, rfl⟩
    · rcases keyIs_shape hv with ⟨j, u, rfl, rfl⟩ | ⟨y, u, rfl, rfl⟩
      · rw [key_ll] at h; exact wpAny_eqBool_int h
      · rw [key_lr] at h; exact SeqAt.EqAt.int_str i t y u _ _ _ _ h
    · rcases keyIs_shape hv with ⟨j, u, rfl, rfl⟩ | ⟨y, u, rfl, rfl⟩
      · rw [key_rl] at h; exact SeqAt.EqAt.str_int x t j u _ _ _ _ h
      · rw [key_rr] at h; exact wpAny_eqBool_str h
  «strs» := fun k x t v h => by
    rcases keyIs_shape h with ⟨i, u, rfl, e⟩ | ⟨y, u, rfl, e⟩
    · exact nomatch e
    · injection e with e1 _
      subst e1
      cases v <;> rfl
theorem mixKind_int (prog : Program) (w : World) (i : Int) (t : Tok) : (mixKind prog w).is (.inl i) (.int i t) = true := keyIs_int i t
theorem mixKind_str (prog : Program) (w : World) (x : Str) (t : Tok) : (mixKind prog w).is (.inr x) (.str x t) = true := keyIs_str x t
end L2

namespace L2
open PySem PySem.Spec PyProof.Rows
inductive V where
  | non | bl (b : Bool) | int (i : Int) | str (x : Str) | byt (b : Array UInt8) | flt (b : UInt64) | ref (a : Addr) | ty (n : String)
  deriving DecidableEq
def RelV : V → Value → Prop
  | .non, u => u = Value.none
  | .bl b, u => u = Value.bool b
  | .int i, u => ∃ t, u = Value.int i t
  | .str x, u => ∃ t, u = Value.str x t
  | .byt b, u => ∃ t, u = Value.bytes b t
  | .flt b, u => ∃ t, u = Value.float b t
  | .ref a, u => u = Value.ref a
  | .ty n, u => u = Value.type n
abbrev Vals : List V → List Value → Prop := Paired RelV
theorem Vals.length {xs : List V} {us : List Value} (r : Vals xs us) : xs.length = us.length := Paired.length r
theorem Vals.get : ∀ {xs : List V} {us : List Value} {i : Nat} {x : V}, Vals xs us → xs[i]? = some x → ∃ u, us[i]? = some u ∧ RelV x u
  | _, _, _, _, .nil, e => by simp at e
  | _, _, 0, _, .cons r _, e => by simp at e; subst e; exact ⟨_, rfl, r⟩
  | _, _, i + 1, x, .cons _ t, e => by
    obtain ⟨u, h1, h2⟩ := Vals.get (i := i) (x := x) t (by simpa using e)
    exact ⟨u, by simpa using h1, h2⟩
theorem Vals.append : ∀ {xs ys : List V} {us ws : List Value}, Vals xs us → Vals ys ws → Vals (xs ++ ys) (us ++ ws)
  | _, _, _, _, .nil, s => s
  | _, _, _, _, .cons r t, s => .cons r (Vals.append t s)
theorem Vals.take : ∀ {xs : List V} {us : List Value} (n : Nat), Vals xs us → Vals (xs.take n) (us.take n)
  | _, _, 0, _ => .nil
  | _, _, _ + 1, .nil => .nil
  | _, _, n + 1, .cons r t => .cons r (Vals.take n t)
theorem Vals.drop : ∀ {xs : List V} {us : List Value} (n : Nat), Vals xs us → Vals (xs.drop n) (us.drop n)
  | _, _, 0, r => r
  | _, _, _ + 1, .nil => .nil
  | _, _, n + 1, .cons _ t => Vals.drop n t
def RelO : Option V → Option Value → Prop
  | some v, some u => RelV v u
  | none, none => True
  | _, _ => False
def KV {κ : Type} : List (κ × V) → List (κ × Value) → Prop := Paired fun (p : κ × V) (q : κ × Value) => p.1 = q.1 ∧ RelV p.2 q.2
def kV : Key → V
  | .inl i => .int i
  | .inr x => .str x
inductive HO where
  /-- a list -/
  | lst (xs : List V)
  /-- a tuple (never changes) -/
  | tup (xs : List V)
  /-- a dict whose keys are ints and texts; one whose keys are tuples of ints and texts (the empty one is both) -/
  | dK (kvs : List (Key × V)) | dT (kvs : List (List Key × V))
  /-- a set of ints: its members, its size -/
  | set (S : Int → Bool) (n : Nat)
  /-- an instance of the class at C, its dict at dx, its attributes -/
  | ins (C dx : Addr) (fs : List (Str × V))
  /-- the dict of the instance at x -/
  | own (x : Addr)
  /-- the dict of an exception -/
  | xd (fs : List (Str × V))
  /-- a bound method, f of x -/
  | met (f x : Addr)
  /-- a range object lo, lo + 1, .. below hi -/
  | rng (lo hi : Int)
  /-- a thing that is known to the object (the script; a dict while a loop walks it): read, never written while it is so -/
  | frz (o : Obj) (u : HO)
  /-- a code object's table -/
  | tbl (ps : Array Value)
  /-- any other thing, by what is true of its one object (a def of one's own: SetO a S n := HO.ext fun h => ..) -/
  | ext (φ : Heap → Prop)
abbrev Hp := Addr → Option HO
def upd (H : Hp) (a : Addr) (o : HO) : Hp := fun b => if b = a then some o else H b
theorem upd_same {H : Hp} {a : Addr} {o : HO} : upd H a o a = some o := by unfold upd; rw [if_pos rfl]
theorem upd_ne {H : Hp} {a b : Addr} {o : HO} (h : b ≠ a) : upd H a o b = H b := by unfold upd; rw [if_neg h]
theorem upd_upd {H : Hp} {a : Addr} {o u : HO} : upd (upd H a o) a u = upd H a u := by
  funext b; unfold upd; split <;> rfl
theorem ne_of {H : Hp} {a b : Addr} {o u : HO} (h : H a = some o) (h' : H b = some u) (d : o ≠ u) : a ≠ b := by
  intro e; subst e; rw [h] at h'; exact d (Option.some.inj h')
theorem ne_of_none {H : Hp} {a b : Addr} {o : HO} (h : H a = some o) (h' : H b = none) : a ≠ b := by
  intro e; subst e; rw [h] at h'; cases h'
section
variable (P : Program) (w : World)
def ObjOk (H : Hp) (h : Heap) (a : Addr) : HO → Prop
  | .lst xs => xs.length ≤ sizeLine ∧ ∃ (its : List Value) (n : Nat), Vals xs its ∧ h.get? a = some { cls := .type "list", data := .seq its.toArray n }
  | .tup xs => xs.length ≤ sizeLine ∧ ∃ its : List Value, Vals xs its ∧ IsTup h a its.toArray
  | .dK kvs => kvs.length ≤ sizeLine ∧ (a == sysModules) = false ∧ ∃ vs, KV kvs vs ∧ h.DictOf (mixKind P w) a vs
  | .dT kvs => kvs.length ≤ sizeLine ∧ (a == sysModules) = false ∧ ∃ xs : List (List Key × Addr × Value),
      Paired (fun (p : List Key × V) (q : List Key × Addr × Value) => p.1 = q.1 ∧ H q.2.1 = some (.tup (p.1.map kV)) ∧ RelV p.2 q.2.2) kvs xs ∧
      ∃ o es ep, h.get? a = some o ∧ o.ExactDict ∧ o.data = .dict es ep ∧ es.toList = xs.map (entryOfKey (tupleKind (mixKind P w))) ∧ (xs.map (·.1)).Nodup
  | .set S n => h.SetOf (intKind P w) a S n
  | .ins C dx fs => H dx = some (.own a) ∧ fs.length ≤ 1000 ∧ dx ≠ a ∧ h.get? a = some (PySem.W.instObj C dx) ∧
      ∃ mA, h.Ns1 dx mA ∧ (∀ f, RelO (fs.lookup f) (mA f)) ∧ PySem.Within mA (fs.map (·.1))
  | .own _ => ∃ o, h.get? a = some o
  | .xd fs => ∃ mA, h.Ns1 a mA ∧ ∀ f, RelO (fs.lookup f) (mA f)
  | .rng lo hi => ∃ t u v, h.get? a = some { cls := .type "range", data := .fields #[.int lo t, .int hi u, .int 1 v] }
  | .frz o u => h.get? a = some o ∧ ObjOk H h a u
  | .tbl ps => h.get? a = some { cls := .none, data := .fields ps }
  | .met f x => h.get? a = some (PySem.W.methodObj (.ref f) (.ref x))
  | .ext φ => φ h ∧ (∃ o, h.get? a = some o) ∧ ∀ h1 h2 : Heap, φ h1 → (∀ o, h1.get? a = some o → h2.get? a = some o) → φ h2
def HOk (H : Hp) (h : Heap) : Prop := ∀ a o, H a = some o → ObjOk P w H h a o
end

section
variable {P : Program} {w : World} {H H' : Hp} {h h' : Heap} {a : Addr} {o : HO}
theorem ObjOk.lt (x : ObjOk P w H h a o) : a < h.objs.size := by
  cases o with
  | lst xs => obtain ⟨_, _, _, _, e⟩ := x; exact Heap.lt_size e
  | tup xs => obtain ⟨_, _, _, p⟩ := x; exact p.lt
  | dK kvs => obtain ⟨_, _, _, _, o, _, _, e, _⟩ := x; exact Heap.lt_size e
  | dT kvs => obtain ⟨_, _, _, _, o, _, _, e, _⟩ := x; exact Heap.lt_size e
  | set S n => obtain ⟨o, _, _, _, e, _⟩ := x; exact Heap.lt_size e
  | ins C dx fs => obtain ⟨_, _, _, e, _⟩ := x; exact Heap.lt_size e
  | own y => obtain ⟨_, e⟩ := x; exact Heap.lt_size e
  | xd fs => obtain ⟨_, ⟨_, _, _, e, _⟩, _⟩ := x; exact Heap.lt_size e
  | rng lo hi => obtain ⟨_, _, _, e⟩ := x; exact Heap.lt_size e
  | frz ob u => obtain ⟨e, _⟩ := x; exact Heap.lt_size e
  | tbl ps => exact Heap.lt_size (show h.get? a = some _ from x)
  | met f y => exact Heap.lt_size (show h.get? a = some _ from x)
  | ext φ => obtain ⟨_, ⟨_, e⟩, _⟩ := x; exact Heap.lt_size e
theorem Paired.mapP {α β : Type} {F G : α → β → Prop} : ∀ {l₁ : List α} {l₂ : List β}, Paired F l₁ l₂ → (∀ a b, F a b → G a b) → Paired G l₁ l₂
  | _, _, .nil, _ => .nil
  | _, _, .cons r t, f => .cons (f _ _ r) (Paired.mapP t f)
theorem ObjOk.stay (x : ObjOk P w H h a o) (k : ∀ b u, (b = a ∨ H b = some (.own a)) → h.get? b = some u → h'.get? b = some u)
    (ho : ∀ b, H b = some (.own a) → H' b = some (.own a)) (ht : ∀ b xs, H b = some (.tup xs) → H' b = some (.tup xs)) : ObjOk P w H' h' a o := by
  induction o with
  | lst xs => obtain ⟨z, its, n, r, e⟩ := x; exact ⟨z, its, n, r, k _ _ (.inl rfl) e⟩
  | tup xs => obtain ⟨z, its, r, ob, e, c⟩ := x; exact ⟨z, its, r, ob, k _ _ (.inl rfl) e, c⟩
  | dK kvs => obtain ⟨z, y, vs, r, ob, es, ep, e, c⟩ := x; exact ⟨z, y, vs, r, ob, es, ep, k _ _ (.inl rfl) e, c⟩
  | dT kvs =>
    obtain ⟨z, y, xs, r, ob, es, ep, e, c⟩ := x
    exact ⟨z, y, xs, Paired.mapP r fun p q z => ⟨z.1, ht _ _ z.2.1, z.2.2⟩, ob, es, ep, k _ _ (.inl rfl) e, c⟩
  | set S n => obtain ⟨ob, es, ep, t, e, c⟩ := x; exact ⟨ob, es, ep, t, k _ _ (.inl rfl) e, c⟩
  | ins C dx fs =>
    obtain ⟨d, z, ne, e, mA, ⟨od, es, ep, e2, c⟩, r⟩ := x
    exact ⟨ho _ d, z, ne, k _ _ (.inl rfl) e, mA, ⟨od, es, ep, k _ _ (.inr d) e2, c⟩, r⟩
  | own y => obtain ⟨ob, e⟩ := x; exact ⟨ob, k _ _ (.inl rfl) e⟩
  | xd fs => obtain ⟨mA, ⟨od, es, ep, e, c⟩, r⟩ := x; exact ⟨mA, ⟨od, es, ep, k _ _ (.inl rfl) e, c⟩, r⟩
  | rng lo hi => obtain ⟨t, u, v, e⟩ := x; exact ⟨t, u, v, k _ _ (.inl rfl) e⟩
  | frz ob u ih => obtain ⟨e, q⟩ := x; exact ⟨k _ _ (.inl rfl) e, ih q⟩
  | tbl ps =>
    have e : h.get? a = some { cls := .none, data := .fields ps } := x
    show h'.get? a = some { cls := .none, data := .fields ps }
    exact k a _ (.inl rfl) e
  | met f y =>
    have e : h.get? a = some (PySem.W.methodObj (.ref f) (.ref y)) := x
    show h'.get? a = some (PySem.W.methodObj (.ref f) (.ref y))
    exact k a _ (.inl rfl) e
  | ext φ => obtain ⟨p, ⟨o, e⟩, st⟩ := x; exact ⟨st _ _ p fun o q => k _ _ (.inl rfl) q, ⟨o, k _ _ (.inl rfl) e⟩, st⟩
theorem HOk.lt (x : HOk P w H h) (e : H a = some o) : a < h.objs.size := (x a o e).lt
theorem HOk.fresh (x : HOk P w H h) (e : h.objs.size ≤ a) : H a = none := by
  cases q : H a with
  | none => rfl
  | some u => exact absurd (Nat.lt_of_lt_of_le (x.lt q) e) (Nat.lt_irrefl _)
theorem HOk.kept (x : HOk P w H h) (k : ∀ b u, h.get? b = some u → h'.get? b = some u) : HOk P w H h' := fun a o e =>
  (x a o e).stay (fun b u _ q => k b u q) (fun _ q => q) fun _ _ q => q
theorem HOk.laid (x : HOk P w H h) (k : ∀ b u, h.get? b = some u → h'.get? b = some u) (hp : h.objs.size ≤ a) (new : ObjOk P w (upd H a o) h' a o) : HOk P w (upd H a o) h' := fun b u e => by
  have hn := x.fresh hp
  by_cases hb : b = a
  · subst hb; rw [upd_same] at e; cases e; exact new
  · rw [upd_ne hb] at e
    exact (x b u e).stay (fun c v _ q => k c v q) (fun c q => by rw [upd_ne (ne_of_none q hn)]; exact q) fun c xs q => by rw [upd_ne (ne_of_none q hn)]; exact q
end

def Rd (H : Hp) (a : Addr) (u : HO) : Prop := H a = some u ∨ ∃ o, H a = some (.frz o u)
theorem Rd.ok {P : Program} {w : World} {H : Hp} {h : Heap} {a : Addr} {u : HO} (r : Rd H a u) (x : HOk P w H h) : ObjOk P w H h a u := by
  rcases r with r | ⟨o, r⟩
  · exact x a u r
  · obtain ⟨_, q⟩ := x a _ r
    exact q
def Mut : Option HO → Prop
  | some (.lst _) => True
  | some (.dK _) => True
  | some (.dT _) => True
  | some (.set _ _) => True
  | some (.ins _ _ _) => True
  | some (.ext _) => True
  | _ => False
section
variable {P : Program} {w : World} {H : Hp} {h h' : Heap} {x e : Addr} {o' : HO}
theorem HOk.write (ok : HOk P w H h) (mu : Mut (H x)) (he : e = x ∨ H e = some (.own x)) (k : ∀ b u, b ≠ e → h.get? b = some u → h'.get? b = some u) (heo : ∃ u, h'.get? e = some u)
    (new : ObjOk P w (upd H x o') h' x o') : HOk P w (upd H x o') h' := fun b u q => by
  have nown : ∀ c y, H c = some (.own y) → c ≠ x := fun c y r z => by subst z; rw [r] at mu; exact mu
  have ntup : ∀ c xs, H c = some (.tup xs) → c ≠ x := fun c xs r z => by subst z; rw [r] at mu; exact mu
  by_cases hb : b = x
  · subst hb; rw [upd_same] at q; cases q; exact new
  · rw [upd_ne hb] at q
    by_cases hbe : b = e
    · have q' : H b = some (.own x) := by
        rcases he with z | z
        · exact absurd (hbe.trans z) hb
        · rw [hbe]; exact z
      rw [q] at q'; cases q'
      obtain ⟨v, hv⟩ := heo
      exact ⟨v, by rw [hbe]; exact hv⟩
    · refine (ok b u q).stay (fun c v hc r => k c v ?_ r) (fun c r => by rw [upd_ne (nown c b r)]; exact r) fun c xs r => by rw [upd_ne (ntup c xs r)]; exact r
      rcases hc with rfl | hc
      · exact hbe
      · rintro rfl
        rcases he with z | z
        · exact nown c b hc z
        · rw [hc] at z; cases z; exact hb rfl
end


structure Un (fs ex : List Addr) (H H' : Hp) (h h' : Heap) : Prop where
  keep : ∀ b o, h.get? b = some o → H b = none → b ∉ fs → b ∉ ex → h'.get? b = some o
  slot : ∀ b o, h.get? b = some o → H b = none → b ∈ fs → b ∉ ex → ∃ sl, h'.get? b = some { o with slots := sl }
  free : ∀ b o, h.get? b = some o → H b = none → b ∉ ex → H' b = none
  there : ∀ b o, h.get? b = some o → b ∉ ex → ∃ o', h'.get? b = some o'
  tups : ∀ b xs, H b = some (.tup xs) → H' b = some (.tup xs)
  frzs : ∀ b o u, H b = some (.frz o u) → H' b = some (.frz o u)
  tbls : ∀ b ps, H b = some (.tbl ps) → ∃ more, H' b = some (.tbl (ps ++ more))
section
variable {fs fs' ex ex' : List Addr} {H H1 H2 : Hp} {h h1 h2 h' : Heap} {a x e : Addr} {o : HO}
theorem Un.any (u : Un fs ex H H1 h h1) {b : Addr} {ob : Obj} (q : h.get? b = some ob) (n : H b = none) (hx : b ∉ ex) : ∃ sl, h1.get? b = some { ob with slots := sl } := by
  by_cases hb : b ∈ fs
  · exact u.slot b ob q n hb hx
  · exact ⟨ob.slots, u.keep b ob q n hb hx⟩
theorem Un.kept (k : ∀ b u, h.get? b = some u → h'.get? b = some u) : Un fs ex H H h h' :=
  ⟨fun b ob q _ _ _ => k b ob q, fun b ob q _ _ _ => ⟨ob.slots, k b ob q⟩, fun _ _ _ n _ => n, fun b ob q _ => ⟨ob, k b ob q⟩, fun _ _ q => q, fun _ _ _ q => q, fun _ ps q => ⟨#[], by rw [q]; simp⟩⟩
theorem Un.refl : Un fs ex H H h h := Un.kept fun _ _ q => q
theorem Un.laid (k : ∀ b u, h.get? b = some u → h'.get? b = some u) (hp : h.objs.size ≤ a) (hn : H a = none) : Un fs ex H (upd H a o) h h' where
  keep := fun b u q _ _ _ => k b u q
  slot := fun b u q _ _ _ => ⟨u.slots, k b u q⟩
  free := fun b u q n _ => by rw [upd_ne (Nat.ne_of_lt (Nat.lt_of_lt_of_le (Heap.lt_size q) hp))]; exact n
  there := fun b u q _ => ⟨u, k b u q⟩
  tups := fun b xs q => by rw [upd_ne (ne_of_none q hn)]; exact q
  frzs := fun b u xs q => by rw [upd_ne (ne_of_none q hn)]; exact q
  tbls := fun b ps q => ⟨#[], by rw [upd_ne (ne_of_none q hn), q]; simp⟩
theorem Un.write (mu : Mut (H x)) (he : e = x ∨ H e = some (.own x)) (k : ∀ b u, b ≠ e → h.get? b = some u → h'.get? b = some u) (heo : ∃ u, h'.get? e = some u) : Un fs ex H (upd H x o) h h' := by
  have hx : ∀ b, H b = none → b ≠ x := fun b n z => by subst z; rw [n] at mu; exact mu
  have hb : ∀ b, H b = none → b ≠ e := fun b n z => by
    subst z
    rcases he with r | r
    · exact hx b n r
    · rw [n] at r; cases r
  have hm : ∀ b u, H b = some u → ¬ Mut (some u) → b ≠ x := fun b u q nm z => by subst z; rw [q] at mu; exact nm mu
  refine ⟨fun b u q n _ _ => k b u (hb b n) q, fun b u q n _ _ => ⟨u.slots, k b u (hb b n) q⟩, fun b u q n _ => by rw [upd_ne (hx b n)]; exact n, fun b u q _ => ?_,
    fun b xs q => by rw [upd_ne (hm b _ q fun z => z)]; exact q, fun b u xs q => by rw [upd_ne (hm b _ q fun z => z)]; exact q, fun b ps q => ⟨#[], by rw [upd_ne (hm b _ q fun z => z), q]; simp⟩⟩
  by_cases hbe : b = e
  · subst hbe; exact heo
  · exact ⟨u, k b u hbe q⟩
end


def trk (h : Heap) (H : Hp) : List Addr := (List.range h.objs.size).filter fun a => (H a).isSome
def hidT (h : Heap) (H : Hp) : Heap := PySem.W.hideAll h (trk h H)
theorem hidT_size (h : Heap) (H : Hp) : (hidT h H).objs.size = h.objs.size := PySem.W.hideAll_size _ _
theorem hidT_get {h : Heap} {H : Hp} {b : Addr} {o : Obj} (e : h.get? b = some o) (n : H b = none) : (hidT h H).get? b = some o :=
  PySem.W.hideAll_get _ e fun hm => by
    have q : (H b).isSome = true := (List.mem_filter.mp hm).2
    rw [n] at q; simp at q
theorem of_hidT {h : Heap} {H : Hp} {b : Addr} {o : Obj} (e : (hidT h H).get? b = some o) : h.get? b = some o ∧ H b = none := by
  have e' : h.get? b = some o := PySem.W.of_hideAll (trk h H) e
  refine ⟨e', ?_⟩
  cases q : H b with
  | none => rfl
  | some x =>
    have hm : b ∈ trk h H := List.mem_filter.mpr ⟨List.mem_range.mpr (Heap.lt_size e'), by simp [q]⟩
    have z : (hidT h H).get? b = none := PySem.W.hideAll_none (trk h H) hm
    rw [z] at e; cases e

end L2

namespace L2
open PySem PySem.Spec PyProof.Rows
structure Mod (K : PySem.W.Frag) (mg : Str → Option Value) (base : Heap) : Prop where
  kin : K.In base
  glob : base.Ns mainGlobals mg
  blt : ∃ mb, base.Ns builtinsNs mb ∧ ∀ x : Str, x ≠ "__name__" → mb x = bootBuiltins x
  nolimit : base.NoLimit
structure Cx where
  prog : Program
  w : World
  K : PySem.W.Frag
  mg : Str → Option Value
  base : Heap
  A : Around
  N : List Str
  s_0 : Shared
  H_0 : Hp
  env : Env
  outer : List Env
  stack : List Env
  ex : List Addr
  fn : Str → Bool
  calm : Bool
  pn : List (Addr × Obj)
  xe : Value → Shared → Prop
def frs (l : List Env) : List Addr := l.filterMap (·.frame)
abbrev Cx.fs (X : Cx) : List Addr := frs X.outer
def Vis (sc : Scope) (x : Str) : Prop := sc.names.lookup x = some .local ∨ sc.names.lookup x = some .cell ∨ sc.names.lookup x = some .free
def Loc (sc : Scope) (x : Str) : Prop := sc.names.lookup x = some .local ∨ sc.names.lookup x = some .cell
def Look (env : Env) (h : Heap) (m : Str → Option Value) (x : Str) (u : Value) : Prop :=
  (env.kindOf x = some .local ∧ m x = some u) ∨ ((env.kindOf x = some .cell ∨ env.kindOf x = some .free) ∧ ∃ c, env.cells.lookup x = some c ∧ h.IsCell c (some u))
structure Cx.Ok (X : Cx) : Prop where
  mod : Mod X.K X.mg X.base
  kind : X.env.scope.kind = .function
  glob : X.env.globals = mainGlobals
  blt : X.env.builtins = builtinsNs
  above : X.s_0.heap.objs.size ≤ X.env.locals
  inj : ∀ x y c, X.env.cells.lookup x = some c → X.env.cells.lookup y = some c → x = y
  has : ∀ x, (X.env.kindOf x = some .cell ∨ X.env.kindOf x = some .free) → ∃ c, X.env.cells.lookup x = some c
  cab : ∀ x c, X.fn x = true → X.env.cells.lookup x = some c → X.s_0.heap.objs.size ≤ c
  hd : X.calm = true → X.A.handled = none
  frames : X.A.frames = some X.stack
  stk : X.stack = X.outer ∨ (X.stack = X.env :: X.outer ∧ X.env.frame = some X.env.locals)
  exf : ∀ b ∈ X.ex, b ≠ X.env.locals ∧ ∀ x c, X.env.cells.lookup x = some c → c ≠ b
  bs : ∀ b o, X.base.get? b = some o → X.s_0.heap.get? b = some o ∧ X.H_0 b = none
  bsz : X.base.objs.size ≤ X.s_0.heap.objs.size
  noex : ∀ b o, X.base.get? b = some o → b ∉ X.ex
  exfs : ∀ b ∈ X.ex, b ∉ X.fs
  funs : X.s_0.heap.FunFrames X.base X.outer
  frf : ∀ b ∈ X.fs, X.H_0 b = none
structure Inv (X : Cx) (pins : List (Addr × Obj)) (σ : List (Option V)) (H : Hp) (s : Shared) : Prop where
  ok : X.Ok
  os : s.os = X.s_0.os
  bare : AllBare s.gens
  base : Un X.fs X.ex X.H_0 H X.s_0.heap s.heap
  loc : ∃ m, s.heap.Ns X.env.locals m ∧ ∀ (i : Nat) (x : Str) (v : V), X.N[i]? = some x → σ[i]? = some (some v) → Vis X.env.scope x → ∃ u, RelV v u ∧ Look X.env s.heap m x u
  cell : ∀ x c, X.env.cells.lookup x = some c → ∃ v, s.heap.IsCell c v
  free : H X.env.locals = none
  freeC : ∀ x c, X.env.cells.lookup x = some c → H c = none
  pin : ∀ p ∈ X.pn ++ pins, s.heap.get? p.1 = some p.2 ∧ H p.1 = none ∧ p.1 ≠ X.env.locals ∧ p.1 ∉ X.fs ∧ ∀ v, p.2.data ≠ .cell v
  hok : HOk X.prog X.w H s.heap
  len : σ.length = X.N.length
section
variable {X : Cx} {pins : List (Addr × Obj)} {σ : List (Option V)} {H H' : Hp} {s : Shared} {h' : Heap}
theorem Cx.Ok.nofr (ok : X.Ok) {b : Addr} {o : Obj} (e : X.base.get? b = some o) : b ∉ X.fs := fun hb => by
  have := (ok.funs.mem hb).1
  rw [e] at this; cases this
theorem Inv.bs (I : Inv X pins σ H s) : ∀ b o, X.base.get? b = some o → s.heap.get? b = some o ∧ H b = none := fun b o e =>
  ⟨I.base.keep b o (I.ok.bs b o e).1 (I.ok.bs b o e).2 (I.ok.nofr e) (I.ok.noex b o e), I.base.free b o (I.ok.bs b o e).1 (I.ok.bs b o e).2 (I.ok.noex b o e)⟩
theorem Inv.bk (I : Inv X pins σ H s) : ∀ b o, X.base.get? b = some o → s.heap.get? b = some o := fun b o e => (I.bs b o e).1
theorem Inv.mod (I : Inv X pins σ H s) : Mod X.K X.mg X.base := I.ok.mod
theorem Inv.kIn (I : Inv X pins σ H s) : X.K.In s.heap := I.ok.mod.kin.keeps I.bk
theorem Inv.fr (I : Inv X pins σ H s) : ∃ m, Fr X.base X.env.locals s.heap m :=
  let ⟨m, hn, _⟩ := I.loc
  ⟨m, hn, I.bk, Nat.le_trans I.ok.bsz I.ok.above⟩
theorem Inv.lt (I : Inv X pins σ H s) : X.env.locals < s.heap.objs.size := let ⟨_, hn, _⟩ := I.loc; hn.lt
theorem Inv.sz (I : Inv X pins σ H s) : X.s_0.heap.objs.size ≤ s.heap.objs.size := Nat.le_trans I.ok.above (Nat.le_of_lt I.lt)
theorem Inv.nofs (I : Inv X pins σ H s) {a : Addr} (h : s.heap.objs.size ≤ a) : a ∉ X.fs := fun hb => by
  obtain ⟨_, o, ho, _⟩ := I.ok.funs.mem hb
  exact absurd (Nat.lt_of_lt_of_le (Heap.lt_size ho) (Nat.le_trans I.sz h)) (Nat.lt_irrefl _)
theorem Inv.cne (I : Inv X pins σ H s) : ∀ x c, X.env.cells.lookup x = some c → c ≠ X.env.locals := fun x c e z => by
  obtain ⟨v, o, ho, hd⟩ := I.cell x c e
  obtain ⟨m, ⟨o', es, ep, ho', hd', _⟩, _⟩ := I.loc
  rw [z, ho'] at ho; cases ho; rw [hd'] at hd; cases hd
theorem Inv.funs (I : Inv X pins σ H s) : s.heap.FunFrames X.base X.outer := by
  have all : ∀ (l : List Env), (∀ b ∈ frs l, b ∈ X.fs) → X.s_0.heap.FunFrames X.base l → s.heap.FunFrames X.base l := by
    intro l
    induction l with
    | nil => intro _ _; trivial
    | cons env r ih =>
      intro hs hl
      obtain ⟨hk, ⟨L, o, hf, hn, ho, hd⟩, hr⟩ := hl
      have hL : L ∈ X.fs := hs L (by unfold frs; rw [List.filterMap_cons, hf]; exact List.mem_cons_self)
      obtain ⟨sl, e⟩ := I.base.slot L o ho (I.ok.frf L hL) hL fun z => I.ok.exfs L z hL
      exact ⟨hk, ⟨L, _, hf, hn, e, hd⟩, ih (fun b hb => hs b (by unfold frs; rw [List.filterMap_cons, hf]; exact List.mem_cons_of_mem _ hb)) hr⟩
  exact all X.outer (fun _ hb => hb) I.ok.funs
theorem Inv.stack (I : Inv X pins σ H s) : s.heap.FunFrames X.base X.stack := by
  rcases I.ok.stk with e | ⟨e, hf⟩
  · rw [e]; exact I.funs
  · rw [e]
    obtain ⟨m, hn, _⟩ := I.loc
    refine .cons (by rw [I.ok.kind]; decide) hf hn ?_ I.funs
    exact Heap.get?_none_of_le (Nat.le_trans I.ok.bsz I.ok.above)
theorem Inv.stkSub (I : Inv X pins σ H s) : ∀ b ∈ frs X.stack, b ∈ X.env.locals :: X.fs := fun b hb => by
  rcases I.ok.stk with e | ⟨e, hf⟩
  · rw [e] at hb; exact List.mem_cons_of_mem _ hb
  · rw [e] at hb
    unfold frs at hb
    rw [List.filterMap_cons, hf] at hb
    exact hb
theorem Inv.stkFree (I : Inv X pins σ H s) : ∀ b ∈ frs X.stack, H b = none := fun b hb => by
  rcases List.mem_cons.mp (I.stkSub b hb) with e | hb
  · rw [e]; exact I.free
  · obtain ⟨_, o, ho, _⟩ := I.ok.funs.mem hb
    exact I.base.free b o ho (I.ok.frf b hb) fun z => I.ok.exfs b z hb
theorem Inv.step {g' : Array GenState} {t' : Nat} {d' : Drawn} {ch : List Addr} (I : Inv X pins σ H s)
    (hch : ∀ b ∈ ch, (b ∈ X.ex ∨ X.s_0.heap.objs.size ≤ b) ∧ b ≠ X.env.locals ∧ (∀ x c, X.env.cells.lookup x = some c → c ≠ b) ∧ ∀ p ∈ X.pn ++ pins, p.1 ≠ b)
    (keep : ∀ b o, b ≠ X.env.locals → b ∉ X.fs → b ∉ ch → s.heap.get? b = some o → H b = none → h'.get? b = some o)
    (slot : ∀ b o, b ≠ X.env.locals → b ∈ X.fs → b ∉ ch → s.heap.get? b = some o → H b = none → ∃ sl, h'.get? b = some { o with slots := sl }) (free : ∀ b o, b ∉ ch → s.heap.get? b = some o → H b = none → H' b = none)
    (there : ∀ b o, b ∉ ch → s.heap.get? b = some o → ∃ o', h'.get? b = some o')
    (tups : ∀ b xs, H b = some (.tup xs) → H' b = some (.tup xs)) (frzs : ∀ b o u, H b = some (.frz o u) → H' b = some (.frz o u)) (tbls : ∀ b ps, H b = some (.tbl ps) → ∃ more, H' b = some (.tbl (ps ++ more)))
    (ns : ∀ m, s.heap.Ns X.env.locals m → h'.Ns X.env.locals m) (hok : HOk X.prog X.w H' h') (hg : AllBare g') :
    Inv X pins σ H' { s with heap := h', gens := g', drawn := d', toks := t' } := by
  have neL : ∀ b o, X.s_0.heap.get? b = some o → b ≠ X.env.locals := fun b o e => Nat.ne_of_lt (Nat.lt_of_lt_of_le (Heap.lt_size e) I.ok.above)
  have neC : ∀ b o, X.s_0.heap.get? b = some o → b ∉ X.ex → b ∉ ch := fun b o e hx hb => by
    rcases (hch b hb).1 with z | z
    · exact hx z
    · exact absurd (Nat.lt_of_lt_of_le (Heap.lt_size e) z) (Nat.lt_irrefl _)
  have cellK : ∀ x c, X.env.cells.lookup x = some c → ∀ v, s.heap.IsCell c v → h'.IsCell c v := fun x c e v ⟨o, ho, hd⟩ => by
    have nch : c ∉ ch := fun z => (hch c z).2.2.1 x c e rfl
    by_cases hc : c ∈ X.fs
    · obtain ⟨sl, q⟩ := slot c o (I.cne x c e) hc nch ho (I.freeC x c e)
      exact ⟨_, q, hd⟩
    · exact ⟨o, keep c o (I.cne x c e) hc nch ho (I.freeC x c e), hd⟩
  refine ⟨I.ok, I.os, hg, ⟨fun b o e n hb hx => ?_, fun b o e n hb hx => ?_, fun b o e n hx => ?_, fun b o e hx => ?_, fun b xs e => tups b xs (I.base.tups b xs e), fun b o xs e => frzs b o xs (I.base.frzs b o xs e), fun b ps e => ?_⟩, ?_, fun x c e => ?_, ?_, fun x c e => ?_, fun p hp => ?_, hok, I.len⟩
  · exact keep b o (neL b o e) hb (neC b o e hx) (I.base.keep b o e n hb hx) (I.base.free b o e n hx)
  · obtain ⟨sl, e1⟩ := I.base.slot b o e n hb hx
    obtain ⟨sl', e2⟩ := slot b _ (neL b o e) hb (neC b o e hx) e1 (I.base.free b o e n hx)
    exact ⟨sl', e2⟩
  · obtain ⟨o', e1⟩ := I.base.there b o e hx
    exact free b o' (neC b o e hx) e1 (I.base.free b o e n hx)
  · obtain ⟨o', e1⟩ := I.base.there b o e hx
    exact there b o' (neC b o e hx) e1
  · obtain ⟨m1, e1⟩ := I.base.tbls b ps e
    obtain ⟨m2, e2⟩ := tbls b _ e1
    exact ⟨m1 ++ m2, by rw [e2, Array.append_assoc]⟩
  · obtain ⟨m, hn, hl⟩ := I.loc
    refine ⟨m, ns m hn, fun i x v e1 e2 e3 => ?_⟩
    obtain ⟨u, r, l⟩ := hl i x v e1 e2 e3
    refine ⟨u, r, ?_⟩
    rcases l with l | ⟨k, c, e, z⟩
    · exact .inl l
    · exact .inr ⟨k, c, e, cellK x c e _ z⟩
  · obtain ⟨v, z⟩ := I.cell x c e
    exact ⟨v, cellK x c e v z⟩
  · obtain ⟨m, ⟨o, _, _, ho, _⟩, _⟩ := I.loc
    exact free _ o (fun z => (hch _ z).2.1 rfl) ho I.free
  · obtain ⟨v, o, ho, hd⟩ := I.cell x c e
    exact free c o (fun z => (hch c z).2.2.1 x c e rfl) ho (I.freeC x c e)
  · obtain ⟨e, n, ne, nf, d⟩ := I.pin p hp
    have nch : p.1 ∉ ch := fun z => (hch p.1 z).2.2.2 p hp rfl
    exact ⟨keep p.1 p.2 ne nf nch e n, free p.1 p.2 nch e n, ne, nf, d⟩
theorem Inv.un {t' : Nat} (I : Inv X pins σ H s) (u : Un X.fs [] H H' s.heap h') (hok : HOk X.prog X.w H' h') : Inv X pins σ H' { s with heap := h', toks := t' } := by
  obtain ⟨m, ⟨o, es, ep, ho, r⟩, _⟩ := id I.loc
  obtain ⟨sl, hL⟩ := u.any ho I.free (by simp)
  exact I.step (g' := s.gens) (d' := s.drawn) (ch := []) (fun _ z => nomatch z) (fun b o _ hb _ e n => u.keep b o e n hb (by simp)) (fun b o _ hb _ e n => u.slot b o e n hb (by simp)) (fun b o _ e n => u.free b o e n (by simp)) (fun b o _ e => u.there b o e (by simp)) u.tups u.frzs u.tbls (fun m' hm => by
    obtain ⟨o', es', ep', ho', r'⟩ := hm
    rw [ho] at ho'; cases ho'
    exact ⟨_, es', ep', hL, r'⟩) hok I.bare
theorem Inv.call {g' : Array GenState} {t' : Nat} {d' : Drawn} {ch : List Addr} (I : Inv X pins σ H s) (u : Un (frs X.stack) ch H H' s.heap h') (hok : HOk X.prog X.w H' h') (hg : AllBare g')
    (hch : ∀ b ∈ ch, (b ∈ X.ex ∨ X.s_0.heap.objs.size ≤ b) ∧ b ≠ X.env.locals ∧ (∀ x c, X.env.cells.lookup x = some c → c ≠ b) ∧ ∀ p ∈ X.pn ++ pins, p.1 ≠ b) :
    Inv X pins σ H' { s with heap := h', gens := g', drawn := d', toks := t' } := by
  obtain ⟨m, ⟨o, es, ep, ho, r⟩, _⟩ := id I.loc
  obtain ⟨sl, hL⟩ := u.any ho I.free fun z => (hch _ z).2.1 rfl
  exact I.step (ch := ch) hch (fun b o hL hb hc e n => u.keep b o e n (fun z => (List.mem_cons.mp (I.stkSub b z)).elim hL hb) hc) (fun b o _ _ hc e n => u.any e n hc) (fun b o hc e n => u.free b o e n hc) (fun b o hc e => u.there b o e hc) u.tups u.frzs u.tbls (fun m' hm => by
    obtain ⟨o', es', ep', ho', r'⟩ := hm
    rw [ho] at ho'; cases ho'
    exact ⟨_, es', ep', hL, r'⟩) hok hg
theorem Inv.turned {t' : Nat} {it : Addr} (I : Inv X pins σ H s) (k : ∀ b o, b ≠ it → s.heap.get? b = some o → h'.get? b = some o) (hn : H it = none) (hL : it ≠ X.env.locals)
    (h1 : it ∈ X.ex ∨ X.s_0.heap.objs.size ≤ it) (h2 : ∀ x c, X.env.cells.lookup x = some c → c ≠ it) (h3 : ∀ p ∈ X.pn ++ pins, p.1 ≠ it) : Inv X pins σ H { s with heap := h', toks := t' } := by
  have nit : ∀ b u, H b = some u → b ≠ it := fun b u e z => by rw [z, hn] at e; cases e
  refine I.step (g' := s.gens) (d' := s.drawn) (ch := [it]) (fun b hb => ?_) (fun b o _ _ hc e _ => k b o (fun z => hc (by simp [z])) e) (fun b o _ _ hc e _ => ⟨o.slots, k b o (fun z => hc (by simp [z])) e⟩) (fun _ _ _ _ n => n)
    (fun b o hc e => ⟨o, k b o (fun z => hc (by simp [z])) e⟩) (fun _ _ e => e) (fun _ _ _ e => e) (fun b ps e => ⟨#[], by rw [e]; simp⟩) (fun m hm => ?_) (fun b u e => ?_) I.bare
  · have e : b = it := by simpa using hb
    subst e
    exact ⟨h1, hL, h2, h3⟩
  · obtain ⟨o, es, ep, ho, r⟩ := hm
    exact ⟨o, es, ep, k _ o (Ne.symm hL) ho, r⟩
  · refine (I.hok b u e).stay (fun c v hc q => k c v ?_ q) (fun _ q => q) fun _ _ q => q
    rcases hc with z | z
    · rw [z]; exact nit b u e
    · exact nit c _ z
theorem Inv.tok (I : Inv X pins σ H s) (t : Nat) : Inv X pins σ H { s with toks := t } := I.un (h' := s.heap) (t' := t) Un.refl I.hok
theorem Inv.kept {t' : Nat} (I : Inv X pins σ H s) (k : ∀ b u, s.heap.get? b = some u → h'.get? b = some u) : Inv X pins σ H { s with heap := h', toks := t' } := I.un (Un.kept k) (I.hok.kept k)
theorem Inv.laid {a : Addr} {o : HO} {t' : Nat} (I : Inv X pins σ H s) (k : ∀ b u, s.heap.get? b = some u → h'.get? b = some u) (hp : s.heap.objs.size ≤ a) (new : ObjOk X.prog X.w (upd H a o) h' a o) :
    Inv X pins σ (upd H a o) { s with heap := h', toks := t' } := I.un (Un.laid k hp (I.hok.fresh hp)) (I.hok.laid k hp new)
theorem Inv.write {x e : Addr} {o : HO} {t' : Nat} (I : Inv X pins σ H s) (mu : Mut (H x)) (he : e = x ∨ H e = some (.own x)) (k : ∀ b u, b ≠ e → s.heap.get? b = some u → h'.get? b = some u) (heo : ∃ u, h'.get? e = some u)
    (new : ObjOk X.prog X.w (upd H x o) h' x o) : Inv X pins σ (upd H x o) { s with heap := h', toks := t' } := I.un (Un.write mu he k heo) (I.hok.write mu he k heo new)
theorem Inv.weak {σ' : List (Option V)} (I : Inv X pins σ H s) (hl : σ'.length = σ.length) (w : ∀ (i : Nat) v, σ'[i]? = some (some v) → σ[i]? = some (some v)) : Inv X pins σ' H s :=
  ⟨I.ok, I.os, I.bare, I.base, let ⟨m, hn, hl'⟩ := I.loc; ⟨m, hn, fun i x v e1 e2 e3 => hl' i x v e1 (w i v e2) e3⟩, I.cell, I.free, I.freeC, I.pin, I.hok, hl.trans I.len⟩
theorem Inv.pins_of {pins' : List (Addr × Obj)} (I : Inv X pins σ H s) (h : ∀ p ∈ pins', s.heap.get? p.1 = some p.2 ∧ H p.1 = none ∧ p.1 ≠ X.env.locals ∧ p.1 ∉ X.fs ∧ ∀ v, p.2.data ≠ .cell v) : Inv X pins' σ H s :=
  ⟨I.ok, I.os, I.bare, I.base, I.loc, I.cell, I.free, I.freeC, fun p hp => (List.mem_append.mp hp).elim (fun z => I.pin p (List.mem_append_left _ z)) (h p), I.hok, I.len⟩
theorem nodup_ix {N : List Str} (hN : N.Nodup) {i j : Nat} {x : Str} (a : N[i]? = some x) (b : N[j]? = some x) : i = j := by
  obtain ⟨h1, e1⟩ := List.getElem?_eq_some_iff.mp a
  obtain ⟨h2, e2⟩ := List.getElem?_eq_some_iff.mp b
  exact (List.getElem_inj hN).mp (e1.trans e2.symm)
theorem store_ok2 {M : Model} {A : Around} {E : Value → Shared → Prop} {i : Nat} {x : Str} {v : V} {u : Value} {Q : Unit → Shared → Prop} (I : Inv X pins σ H s) (hN : X.N.Nodup) (hi : X.N[i]? = some x) (hx : Loc X.env.scope x) (r : RelV v u)
    (h : ∀ s', Inv X pins (σ.set i (some v)) H s' → (∃ a, Heap.SameBut a s.heap s'.heap ∧ (a = X.env.locals ∨ X.env.cells.lookup x = some a)) → Q () s') (hf : X.fn x = true ∨ X.env.scope.names.lookup x = some .local := by first | exact .inl rfl | exact .inr rfl | assumption) : wpAny M A (storeName X.env x u) Q E s := by
  obtain ⟨m, hn, hl⟩ := id I.loc
  have hcls : (X.env.scope.kind == .class || (X.env.scope.kind == .module && X.env.locals != X.env.globals)) = false := by rw [I.ok.kind]; rfl
  have hiσ : i < σ.length := by rw [I.len]; exact (List.getElem?_eq_some_iff.mp hi).1
  have cne := I.cne
  have tracked : ∀ {a : Addr} {h' : Heap}, (∃ o, s.heap.get? a = some o ∧ H a = none) → Heap.SameBut a s.heap h' → HOk X.prog X.w H h' := fun {a h'} ha hs b ob e => by
    obtain ⟨_, _, hfree⟩ := ha
    refine (I.hok b ob e).stay (fun c w' hc q => (hs.2 c ?_).trans q) (fun _ q => q) fun _ _ q => q
    rintro rfl
    rcases hc with rfl | hc
    · rw [hfree] at e; cases e
    · rw [hfree] at hc; cases hc
  rcases hx with hk | hk
  · refine wpAny_storeName_local hk hn (fun h' hn' hs => ?_) hcls
    obtain ⟨oL, _, _, hoL, _⟩ := id hn
    refine h _ ⟨I.ok, I.os, I.bare, ⟨fun b o e n hb hx => ?_, fun b o e n hb hx => ?_, I.base.free, fun b o e hx => ?_, I.base.tups, I.base.frzs, I.base.tbls⟩, ⟨_, hn', fun j y v' e1 e2 e3 => ?_⟩, fun y c e => ?_, I.free, I.freeC, fun p hp => ?_, tracked ⟨oL, hoL, I.free⟩ hs, by simpa using I.len⟩ ⟨_, hs, .inl rfl⟩
    · exact (hs.2 b (Nat.ne_of_lt (Nat.lt_of_lt_of_le (Heap.lt_size e) I.ok.above))).trans (I.base.keep b o e n hb hx)
    · obtain ⟨sl, e1⟩ := I.base.slot b o e n hb hx
      exact ⟨sl, (hs.2 b (Nat.ne_of_lt (Nat.lt_of_lt_of_le (Heap.lt_size e) I.ok.above))).trans e1⟩
    · obtain ⟨o', e1⟩ := I.base.there b o e hx
      exact ⟨o', (hs.2 b (Nat.ne_of_lt (Nat.lt_of_lt_of_le (Heap.lt_size e) I.ok.above))).trans e1⟩
    · by_cases hj : j = i
      · subst hj
        rw [hi] at e1; cases e1
        rw [List.getElem?_set_self hiσ] at e2
        cases e2
        exact ⟨u, r, .inl ⟨hk, by simp⟩⟩
      · rw [List.getElem?_set_ne (Ne.symm hj)] at e2
        obtain ⟨u', r', q⟩ := hl j y v' e1 e2 e3
        refine ⟨u', r', ?_⟩
        rcases q with ⟨k, e⟩ | ⟨k, c, e, z⟩
        · refine .inl ⟨k, ?_⟩
          have : y ≠ x := fun e => hj (nodup_ix hN e1 (e ▸ hi))
          simp [this, e]
        · exact .inr ⟨k, c, e, z.sameBut hs (cne y c e)⟩
    · obtain ⟨w', z⟩ := I.cell y c e
      exact ⟨w', z.sameBut hs (cne y c e)⟩
    · obtain ⟨e, n, ne, nf, d⟩ := I.pin p hp
      exact ⟨(hs.2 p.1 ne).trans e, n, ne, nf, d⟩
  · have hfn : X.fn x = true := by
      rcases hf with z | z
      · exact z
      · rw [z] at hk; cases hk
    obtain ⟨c, hc⟩ := I.ok.has x (.inl hk)
    obtain ⟨w', z⟩ := I.cell x c hc
    refine wpAny_storeName_cell I.ok.kind hk hc z (fun h' hc' hs => ?_)
    obtain ⟨oc, hoc, hocd⟩ := id z
    refine h { s with heap := h' } ⟨I.ok, I.os, I.bare, ⟨fun b o e n hb hx => ?_, fun b o e n hb hx => ?_, I.base.free, fun b o e hx => ?_, I.base.tups, I.base.frzs, I.base.tbls⟩, ⟨m, hn.sameBut hs (Ne.symm (cne x c hc)), fun j y v' e1 e2 e3 => ?_⟩, fun y c' e => ?_, I.free, I.freeC, fun p hp => ?_, tracked ⟨oc, hoc, I.freeC x c hc⟩ hs, by simpa using I.len⟩ ⟨c, hs, .inr hc⟩
    · exact (hs.2 b (Nat.ne_of_lt (Nat.lt_of_lt_of_le (Heap.lt_size e) (I.ok.cab x c hfn hc)))).trans (I.base.keep b o e n hb hx)
    · obtain ⟨sl, e1⟩ := I.base.slot b o e n hb hx
      exact ⟨sl, (hs.2 b (Nat.ne_of_lt (Nat.lt_of_lt_of_le (Heap.lt_size e) (I.ok.cab x c hfn hc)))).trans e1⟩
    · obtain ⟨o', e1⟩ := I.base.there b o e hx
      exact ⟨o', (hs.2 b (Nat.ne_of_lt (Nat.lt_of_lt_of_le (Heap.lt_size e) (I.ok.cab x c hfn hc)))).trans e1⟩
    · by_cases hj : j = i
      · subst hj
        rw [hi] at e1; cases e1
        rw [List.getElem?_set_self hiσ] at e2
        cases e2
        exact ⟨u, r, .inr ⟨.inl hk, c, hc, hc'⟩⟩
      · rw [List.getElem?_set_ne (Ne.symm hj)] at e2
        obtain ⟨u', r', q⟩ := hl j y v' e1 e2 e3
        refine ⟨u', r', ?_⟩
        rcases q with q | ⟨k, c', e, z'⟩
        · exact .inl q
        · refine .inr ⟨k, c', e, z'.sameBut hs ?_⟩
          rintro rfl
          exact hj (nodup_ix hN e1 (I.ok.inj _ _ _ e hc ▸ hi))
    · by_cases hcc : c' = c
      · subst hcc; exact ⟨_, hc'⟩
      · obtain ⟨w2, z2⟩ := I.cell y c' e
        exact ⟨w2, z2.sameBut hs hcc⟩
    · obtain ⟨e, n, ne, nf, d⟩ := I.pin p hp
      refine ⟨(hs.2 p.1 ?_).trans e, n, ne, nf, d⟩
      intro q
      rw [q, hoc] at e
      have q' : oc = p.2 := Option.some.inj e
      exact d w' (by rw [← q']; exact hocd)
theorem store_ok {M : Model} {A : Around} {E : Value → Shared → Prop} {i : Nat} {x : Str} {v : V} {u : Value} {Q : Unit → Shared → Prop} (I : Inv X pins σ H s) (hN : X.N.Nodup) (hi : X.N[i]? = some x) (hx : Loc X.env.scope x) (r : RelV v u)
    (h : ∀ s', Inv X pins (σ.set i (some v)) H s' → Q () s') (hf : X.fn x = true ∨ X.env.scope.names.lookup x = some .local := by first | exact .inl rfl | exact .inr rfl | assumption) : wpAny M A (storeName X.env x u) Q E s :=
  store_ok2 I hN hi hx r (fun s' I' _ => h s' I') hf
theorem Inv.call' {s' : Shared} {ch : List Addr} (I : Inv X pins σ H s) (ho : s'.os = s.os) (u : Un (frs X.stack) ch H H' s.heap s'.heap) (hok : HOk X.prog X.w H' s'.heap) (hg : AllBare s'.gens)
    (hch : ∀ b ∈ ch, (b ∈ X.ex ∨ X.s_0.heap.objs.size ≤ b) ∧ b ≠ X.env.locals ∧ (∀ x c, X.env.cells.lookup x = some c → c ≠ b) ∧ ∀ p ∈ X.pn ++ pins, p.1 ≠ b) : Inv X pins σ H' s' := by
  obtain ⟨h', g', d', t', o'⟩ := s'
  have e : o' = s.os := ho
  subst e
  exact I.call (g' := g') (t' := t') (d' := d') u hok hg hch
end


abbrev XK := Value → Option Addr → Hp → Prop
abbrev St := List (Option V)
abbrev VK := V → Hp → Prop
abbrev TE := St → Hp → VK → Prop
abbrev TT := St → Hp → (Bool → Hp → Prop) → Prop
abbrev TA := St → Hp → (List V → Hp → Prop) → Prop
structure Ends where
  nx : St → Hp → Prop
  rt : VK
  bk : St → Hp → Prop := fun _ _ => False
  ct : St → Hp → Prop := fun _ _ => False
abbrev TS := Ends → St → Hp → Prop
def EP (X : Cx) (pins : List (Addr × Obj)) (σ : St) (Q : VK) (u : Value) (s' : Shared) : Prop := ∃ v H', Inv X pins σ H' s' ∧ RelV v u ∧ Q v H'
def TP (X : Cx) (pins : List (Addr × Obj)) (σ : St) (Q : Bool → Hp → Prop) (b : Bool) (s' : Shared) : Prop := ∃ H', Inv X pins σ H' s' ∧ Q b H'
def AP (X : Cx) (pins : List (Addr × Obj)) (σ : St) (Q : List V → Hp → Prop) (us : List Value) (s' : Shared) : Prop := ∃ vs H', Inv X pins σ H' s' ∧ Vals vs us ∧ Q vs H'
def SP (X : Cx) (pins : List (Addr × Obj)) (D : Ends) (f : Flow) (s' : Shared) : Prop :=
  match f with
  | .next => ∃ σ' H', Inv X pins σ' H' s' ∧ D.nx σ' H'
  | .brk => ∃ σ' H', Inv X pins σ' H' s' ∧ D.bk σ' H'
  | .cont => ∃ σ' H', Inv X pins σ' H' s' ∧ D.ct σ' H'
  | .ret u => ∃ v σ' H', Inv X pins σ' H' s' ∧ RelV v u ∧ D.rt v H'
def PE (X : Cx) (e : Expr) (t : TE) : Prop :=
  ∀ (pins : List (Addr × Obj)) (s : Shared) (σ : St) (H : Hp) (Q : VK), Inv X pins σ H s → t σ H Q → wpAny (model X.prog X.w) X.A (eval e X.env) (EP X pins σ Q) X.xe s
def PT (X : Cx) (e : Expr) (t : TT) : Prop :=
  ∀ (pins : List (Addr × Obj)) (s : Shared) (σ : St) (H : Hp) (Q : Bool → Hp → Prop), Inv X pins σ H s → t σ H Q → wpAny (model X.prog X.w) X.A (isTrue e X.env (eval e X.env)) (TP X pins σ Q) X.xe s
def PW (X : Cx) (e : Expr) (t : TT) : Prop :=
  ∀ (whole : Sem Value) (pins : List (Addr × Obj)) (s : Shared) (σ : St) (H : Hp) (Q : Bool → Hp → Prop), Inv X pins σ H s → t σ H Q → wpAny (model X.prog X.w) X.A (isTrue e X.env whole) (TP X pins σ Q) X.xe s
theorem PW.pt {X : Cx} {e : Expr} {t : TT} (h : PW X e t) : PT X e t := h _
def PA (X : Cx) (es : List Expr) (t : TA) : Prop :=
  ∀ (pos : Pos) (pins : List (Addr × Obj)) (s : Shared) (σ : St) (H : Hp) (Q : List V → Hp → Prop), Inv X pins σ H s → t σ H Q → wpAny (model X.prog X.w) X.A (spliced (backTo pos (starEach es X.env))) (AP X pins σ Q) X.xe s
def PS (X : Cx) (st : Stmt) (t : TS) : Prop :=
  ∀ (pins : List (Addr × Obj)) (s : Shared) (σ : St) (H : Hp) (D : Ends), Inv X pins σ H s → t D σ H → wpAny (model X.prog X.w) X.A (exec st X.env) (SP X pins D) X.xe s
def PSs (X : Cx) (st : List Stmt) (t : TS) : Prop :=
  ∀ (pins : List (Addr × Obj)) (s : Shared) (σ : St) (H : Hp) (D : Ends), Inv X pins σ H s → t D σ H → wpAny (model X.prog X.w) X.A (execs st X.env) (SP X pins D) X.xe s
theorem thn {α : Type} {t : Sem α} {Q Q' : α → Shared → Prop} {M : Model} {A : Around} {E : Value → Shared → Prop} {s : Shared} (h : wpAny M A t Q E s) (hQ : ∀ a s, Q a s → Q' a s) : wpAny M A t Q' E s := wpAny_mono h hQ fun _ _ x => x
end L2

namespace L2
open PySem PySem.Spec PyProof.Rows
section
variable {X : Cx}
theorem bin {a b : Expr} {ta tb : TE} (ha : PE X a ta) (hb : PE X b tb) {pins : List (Addr × Obj)} {s : Shared} {σ : St} {H : Hp} {R : V → V → Hp → Prop} (I : Inv X pins σ H s) (h : ta σ H fun x H1 => tb σ H1 fun y H2 => R x y H2)
    {α : Type} {Q : α → Shared → Prop} {f : Value → Value → Sem α}
    (hf : ∀ v u s2 x y H2, Inv X pins σ H2 s2 → RelV x v → RelV y u → R x y H2 → wpAny (model X.prog X.w) X.A (f v u) Q X.xe s2) :
    wpAny (model X.prog X.w) X.A (eval a X.env) (fun v s₁ => wpAny (model X.prog X.w) X.A (eval b X.env) (fun u s₂ => wpAny (model X.prog X.w) X.A (f v u) Q X.xe s₂) X.xe s₁) X.xe s := by
  refine thn (ha pins s σ H _ I h) fun v s1 ⟨x, H1, I1, r1, q1⟩ => ?_
  refine thn (hb pins s1 σ H1 _ I1 q1) fun u s2 ⟨y, H2, I2, r2, q2⟩ => ?_
  exact hf v u s2 x y H2 I2 r1 r2 q2

def tVar (i : Nat) : TE := fun σ H Q => ∃ v, σ[i]? = some (some v) ∧ Q v H
def tC (v : V) : TE := fun _ H Q => Q v H
theorem pe_var {i : Nat} {x : Str} {pos : Pos} (hN : X.N[i]? = some x) (hv : Vis X.env.scope x) (hd : (x == ("__debug__" : Str)) = false := by decide) (hcd : (x == ("__classdict__" : Str)) = false := by decide) : PE X (.Name x pos) (tVar i) := by
  intro pins s σ H Q I h
  obtain ⟨v, e, h⟩ := h
  obtain ⟨m, hn, hl⟩ := I.loc
  obtain ⟨u, r, l⟩ := hl i x v hN e hv
  have fin : EP X pins σ Q u s := ⟨v, H, I, r, h⟩
  rcases l with ⟨hk, hm⟩ | ⟨hk, c, hc, hcell⟩
  · exact wpAny_Name (wpAny_loadName_local I.ok.kind hk hn hm fin) hd
  · rcases hk with hk | hk
    · exact wpAny_Name (wpAny_loadName_cell I.ok.kind hk hc hcell fin) hd
    · exact wpAny_Name (wpAny_loadName_free I.ok.kind hk hc hcell fin hcd) hd
theorem pe_int {i j pos} : PE X (.Constant (.int i) j pos) (tC (.int i)) := fun _ _ _ H _ I h => wpAny_Constant_int ⟨.int i, H, I.tok _, ⟨_, rfl⟩, h⟩
theorem pe_non {j pos} : PE X (.Constant .none j pos) (tC .non) := fun _ _ _ H _ I h => Constant_none ⟨.non, H, I, rfl, h⟩
def Gl (X : Cx) (x : Str) : Prop := X.env.kindOf x = some .globalImplicit
theorem ld_glob {E : Value → Shared → Prop} {pins : List (Addr × Obj)} {s : Shared} {σ : St} {H : Hp} {x : Str} {u : Value} {pos : Pos} {Q : Value → Shared → Prop} (I : Inv X pins σ H s) (hg : Gl X x) (hm : X.mg x = some u) (h : Q u s)
    (hd : (x == ("__debug__" : Str)) = false := by decide) : wpAny (model X.prog X.w) X.A (eval (.Name x pos) X.env) Q E s :=
  Calls.Name_function_global I.ok.kind hg (Calls.loadGlobal_global (by rw [I.ok.glob]; exact I.mod.glob.keeps I.bk) hm h) hd
theorem ld_blt {E : Value → Shared → Prop} {pins : List (Addr × Obj)} {s : Shared} {σ : St} {H : Hp} {x : Str} {u : Value} {pos : Pos} {Q : Value → Shared → Prop} (I : Inv X pins σ H s) (hg : Gl X x) (hm : X.mg x = none) (hv : bootBuiltins x = some u) (h : Q u s)
    (hn : x ≠ "__name__" := by decide) (hd : (x == ("__debug__" : Str)) = false := by decide) : wpAny (model X.prog X.w) X.A (eval (.Name x pos) X.env) Q E s := by
  obtain ⟨mb, h1, h2⟩ := I.mod.blt
  exact Calls.Name_function_global I.ok.kind hg (Calls.loadGlobal_builtin (by rw [I.ok.glob]; exact I.mod.glob.keeps I.bk) hm (by rw [I.ok.blt]; exact h1.keeps I.bk) ((h2 x hn).trans hv) h) hd
theorem pe_glob {x : Str} {v : V} {u : Value} {pos : Pos} (hg : Gl X x) (hm : X.mg x = some u) (r : RelV v u) (hd : (x == ("__debug__" : Str)) = false := by decide) : PE X (.Name x pos) (tC v) :=
  fun _ _ _ H _ I h => ld_glob I hg hm ⟨v, H, I, r, h⟩ hd

variable {a b : Expr} {ta tb : TE} {pos : Pos}

def PC (X : Cx) (op : CmpOp) (a b : Expr) (t : TE) : Prop :=
  ∀ (pins : List (Addr × Obj)) (s : Shared) (σ : St) (H : Hp) (Q : VK), Inv X pins σ H s → t σ H Q →
    wpAny (model X.prog X.w) X.A (eval a X.env) (fun v s₁ => wpAny (model X.prog X.w) X.A (eval b X.env) (fun u s₂ => wpAny (model X.prog X.w) X.A (compareOp op v u) (EP X pins σ Q) X.xe s₂) X.xe s₁) X.xe s
theorem nobehind (b : Expr) {op : CmpOp} (h : op ≠ .In) (h2 : op ≠ .NotIn) : behindInMarks op b = false := by
  have e1 : (op == CmpOp.In) = false := by cases op <;> first | rfl | exact absurd rfl h
  have e2 : (op == CmpOp.NotIn) = false := by cases op <;> first | rfl | exact absurd rfl h2
  cases b <;> simp [behindInMarks, e1, e2]
def tIsN (ta : TE) : TE := fun σ H Q => ta σ H fun x H1 => Q (.bl (decide (x = .non))) H1
theorem RelV.none_iff {x : V} {v : Value} (r : RelV x v) : (v == Value.none) = decide (x = .non) := by
  cases x with
  | non => cases r; rfl
  | bl _ => cases r; rfl
  | int _ => obtain ⟨t, rfl⟩ := r; rfl
  | str _ => obtain ⟨t, rfl⟩ := r; rfl
  | byt _ => obtain ⟨t, rfl⟩ := r; rfl
  | flt _ => obtain ⟨t, rfl⟩ := r; rfl
  | ref _ => cases r; rfl
  | ty _ => cases r; rfl
theorem pc_isN {j pos'} (ha : PE X a ta) : PC X .Is a (.Constant .none j pos') (tIsN ta) := by
  intro pins s σ H Q I h
  refine thn (ha pins s σ H _ I h) fun v s1 ⟨x, H1, I1, r1, q1⟩ => ?_
  exact Constant_none (is_none_gen ⟨.bl _, H1, I1, by rw [r1.none_iff]; rfl, q1⟩)
def tB (t : TE) : TT := fun σ H Q => t σ H fun x H1 => ∃ c, x = .bl c ∧ Q c H1
theorem pt_cmp {op : CmpOp} {t : TE} (h : PC X op a b t) (h1 : behindInMarks op b = false := by first | exact nobehind _ (by decide) (by decide) | rfl) : PT X (.Compare a [op] [b] pos) (tB t) := by
  intro pins s σ H Q I hw
  refine wpAny_isTrue_Compare1 (thn (h pins s σ H _ I hw) fun v s1 h1 => thn h1 fun u s2 h2 => thn h2 fun c s3 ⟨x, H1, I1, r1, q1⟩ => ?_) h1
  obtain ⟨d, rfl, q⟩ := q1
  cases r1
  exact wpAny_truthy_bool ⟨H1, I1, q⟩
theorem pt_val {e : Expr} {t : TE} (h : PE X e t) (he : ∀ whole, isTrue e X.env whole = (do let v ← whole; standAt e.pos; holding [v] (truthy v)) := by intro _; rfl) : PT X e (tB t) := by
  intro pins s σ H Q I hw
  refine isTrue_plain (thn (h pins s σ H _ I hw) fun v s1 ⟨x, H1, I1, r1, q1⟩ => ?_) (he _)
  obtain ⟨d, rfl, q⟩ := q1
  cases r1
  exact wpAny_truthy_bool ⟨H1, I1, q⟩

variable {tA tB' : TT} {rest : List Expr}
def tAnd (t u : TT) : TT := fun σ H Q => t σ H fun c H1 => if c = true then u σ H1 Q else Q false H1
def tOr (t u : TT) : TT := fun σ H Q => t σ H fun c H1 => if c = true then Q true H1 else u σ H1 Q
def tNot (t : TT) : TT := fun σ H Q => t σ H fun c H1 => Q (!c) H1
theorem pw_and1 (ha : PT X a tA) : PW X (.BoolOp .And [a] pos) tA := by
  intro wh pins s σ H Q I h
  refine isTrue_and (thn (ha pins s σ H Q I h) fun c s1 e => ?_)
  cases c with
  | true => exact isTrue_and_nil e
  | false => exact e
theorem pw_or1 (ha : PT X a tA) : PW X (.BoolOp .Or [a] pos) tA := by
  intro wh pins s σ H Q I h
  refine isTrue_or (thn (ha pins s σ H Q I h) fun c s1 e => ?_)
  cases c with
  | false => exact isTrue_or_nil e
  | true => exact e
theorem pw_and (ha : PT X a tA) (hb : PW X (.BoolOp .And (b :: rest) pos) tB') : PW X (.BoolOp .And (a :: b :: rest) pos) (tAnd tA tB') := by
  intro wh pins s σ H Q I h
  refine isTrue_and (thn (ha pins s σ H _ I h) fun c s1 ⟨H1, I1, q1⟩ => ?_)
  cases c with
  | true => exact hb wh pins s1 σ H1 Q I1 q1
  | false => exact ⟨H1, I1, q1⟩
theorem pw_or (ha : PT X a tA) (hb : PW X (.BoolOp .Or (b :: rest) pos) tB') : PW X (.BoolOp .Or (a :: b :: rest) pos) (tOr tA tB') := by
  intro wh pins s σ H Q I h
  refine isTrue_or (thn (ha pins s σ H _ I h) fun c s1 ⟨H1, I1, q1⟩ => ?_)
  cases c with
  | true => exact ⟨H1, I1, q1⟩
  | false => exact hb wh pins s1 σ H1 Q I1 q1
theorem pt_not (ha : PT X a tA) : PT X (.UnaryOp .Not a pos) (tNot tA) := by
  intro pins s σ H Q I h
  exact isTrue_not (ha pins s σ H (fun c H1 => Q (!c) H1) I h)
def tAndV (ta tb : TE) : TE := fun σ H Q => ta σ H fun x H1 => ∃ c, x = .bl c ∧ if c = true then tb σ H1 Q else Q (.bl false) H1
def tOrV (ta tb : TE) : TE := fun σ H Q => ta σ H fun x H1 => ∃ c, x = .bl c ∧ if c = true then Q (.bl true) H1 else tb σ H1 Q
theorem pe_one {op} {t : TE} (h : PE X a t) : PE X (.BoolOp op [a] pos) t := fun pins s σ H Q I hw => BoolOp_one (h pins s σ H Q I hw)
theorem pe_and (ha : PE X a ta) (hb : PE X (.BoolOp .And (b :: rest) pos) tb) : PE X (.BoolOp .And (a :: b :: rest) pos) (tAndV ta tb) := by
  intro pins s σ H Q I h
  refine BoolOp_and (thn (ha pins s σ H _ I h) fun v s1 ⟨x, H1, I1, r1, q1⟩ => ?_)
  obtain ⟨c, rfl, q1⟩ := q1
  cases r1
  refine wpAny_truthy_bool ?_
  cases c with
  | true => exact hb pins s1 σ H1 Q I1 q1
  | false => exact ⟨.bl false, H1, I1, rfl, q1⟩
theorem pe_or (ha : PE X a ta) (hb : PE X (.BoolOp .Or (b :: rest) pos) tb) : PE X (.BoolOp .Or (a :: b :: rest) pos) (tOrV ta tb) := by
  intro pins s σ H Q I h
  refine BoolOp_or (thn (ha pins s σ H _ I h) fun v s1 ⟨x, H1, I1, r1, q1⟩ => ?_)
  obtain ⟨c, rfl, q1⟩ := q1
  cases r1
  refine wpAny_truthy_bool ?_
  cases c with
  | false => exact hb pins s1 σ H1 Q I1 q1
  | true => exact ⟨.bl true, H1, I1, rfl, q1⟩
end
end L2

namespace L2
open PySem PySem.Spec PyProof.Rows

def SqL (K : PySem.W.Frag) (H : Hp) (a : Addr) (xs : List V) : Prop :=
  Rd H a (.lst xs) ∨
    ∃ (o : Obj) (its : Array Value) (n : Nat), K.lookup a = some o ∧ o.cls = .type "list" ∧ o.dict = none ∧ o.data = .seq its n ∧ its.size ≤ sizeLine ∧ Vals xs its.toList
def SqT (K : PySem.W.Frag) (H : Hp) (a : Addr) (xs : List V) : Prop :=
  Rd H a (.tup xs) ∨
    ∃ (o : Obj) (its : Array Value) (n : Nat), K.lookup a = some o ∧ o.cls = .type "tuple" ∧ o.data = .seq its n ∧ its.size ≤ sizeLine ∧ Vals xs its.toList
def absV : Value → Option V
  | .none => some .non
  | .bool b => some (.bl b)
  | .int i _ => some (.int i)
  | .str x _ => some (.str x)
  | .bytes b _ => some (.byt b)
  | .float b _ => some (.flt b)
  | .ref a => some (.ref a)
  | .type n => some (.ty n)
  | _ => none
theorem RelV.abs {x : V} {u : Value} (r : RelV x u) : absV u = some x := by
  cases x with
  | non => cases r; rfl
  | bl _ => cases r; rfl
  | int _ => obtain ⟨t, rfl⟩ := r; rfl
  | str _ => obtain ⟨t, rfl⟩ := r; rfl
  | byt _ => obtain ⟨t, rfl⟩ := r; rfl
  | flt _ => obtain ⟨t, rfl⟩ := r; rfl
  | ref _ => cases r; rfl
  | ty _ => cases r; rfl
theorem RelV.inj {x y : V} {u : Value} (r : RelV x u) (q : RelV y u) : x = y := Option.some.inj (r.abs.symm.trans q.abs)
theorem Vals.inj : ∀ {xs ys : List V} {us : List Value}, Vals xs us → Vals ys us → xs = ys
  | _, _, _, .nil, .nil => rfl
  | _, _, _, .cons r t, .cons r' t' => by rw [r.inj r', Vals.inj t t']
section
variable {X : Cx} {pins : List (Addr × Obj)} {σ : St} {H : Hp} {s : Shared} {a : Addr} {xs ys : List V}
theorem SqL.of {K : PySem.W.Frag} (h : H a = some (.lst xs)) : SqL K H a xs := .inl (.inl h)
theorem Inv.list (I : Inv X pins σ H s) (h : SqL X.K H a xs) : ∃ its : List Value, Vals xs its ∧ PlainL s.heap a its.toArray ∧ xs.length ≤ sizeLine := by
  rcases h with h | ⟨o, its, n, hk, hc, hd, hs, hz, r⟩
  · obtain ⟨z, its, n, r, e⟩ := h.ok I.hok
    exact ⟨its, r, ⟨_, n, e, rfl, rfl, rfl⟩, z⟩
  · refine ⟨its.toList, r, ⟨o, n, I.kIn a o hk, hc, hd, by simpa using hs⟩, ?_⟩
    have e := r.length
    simp only [Array.length_toList] at e
    omega
theorem Inv.tuple (I : Inv X pins σ H s) (h : SqT X.K H a xs) : ∃ its : List Value, Vals xs its ∧ IsTup s.heap a its.toArray ∧ xs.length ≤ sizeLine := by
  rcases h with h | ⟨o, its, n, hk, hc, hs, hz, r⟩
  · obtain ⟨z, its, r, p⟩ := h.ok I.hok
    exact ⟨its, r, p, z⟩
  · refine ⟨its.toList, r, ⟨o, I.kIn a o hk, hc, n, by simpa using hs⟩, ?_⟩
    have e := r.length
    simp only [Array.length_toList] at e
    omega
theorem Inv.list_inj (I : Inv X pins σ H s) (h : SqL X.K H a xs) (h' : SqL X.K H a ys) : xs = ys := by
  obtain ⟨its, r, ⟨o, n, e, _, _, d⟩, _⟩ := I.list h
  obtain ⟨its', r', ⟨o', n', e', _, _, d'⟩, _⟩ := I.list h'
  rw [e] at e'; cases e'
  rw [d] at d'
  injection d' with d1 _
  have : its = its' := by simpa using congrArg Array.toList d1
  subst this
  exact r.inj r'
theorem Inv.tuple_inj (I : Inv X pins σ H s) (h : SqT X.K H a xs) (h' : SqT X.K H a ys) : xs = ys := by
  obtain ⟨its, r, ⟨o, e, _, n, d⟩, _⟩ := I.tuple h
  obtain ⟨its', r', ⟨o', e', _, n', d'⟩, _⟩ := I.tuple h'
  rw [e] at e'; cases e'
  rw [d] at d'
  injection d' with d1 _
  have : its = its' := by simpa using congrArg Array.toList d1
  subst this
  exact r.inj r'
end


abbrev Cx.wish (X : Cx) (E : Value → Shared → Prop) : Cx := { X with xe := E }
abbrev Cx.nox (X : Cx) : Cx := X.wish fun _ _ => False
theorem Cx.Ok.wish {X : Cx} (ok : X.Ok) (E : Value → Shared → Prop) : (X.wish E).Ok :=
  ⟨ok.mod, ok.kind, ok.glob, ok.blt, ok.above, ok.inj, ok.has, ok.cab, ok.hd, ok.frames, ok.stk, ok.exf, ok.bs, ok.bsz, ok.noex, ok.exfs, ok.funs, ok.frf⟩
theorem Cx.Ok.unwish {X : Cx} {E : Value → Shared → Prop} (ok : (X.wish E).Ok) : X.Ok :=
  ⟨ok.mod, ok.kind, ok.glob, ok.blt, ok.above, ok.inj, ok.has, ok.cab, ok.hd, ok.frames, ok.stk, ok.exf, ok.bs, ok.bsz, ok.noex, ok.exfs, ok.funs, ok.frf⟩
section
variable {X : Cx} {pins : List (Addr × Obj)} {σ : St} {H : Hp} {s : Shared} {E : Value → Shared → Prop}
theorem Inv.wish (I : Inv X pins σ H s) (E : Value → Shared → Prop) : Inv (X.wish E) pins σ H s := ⟨I.ok.wish E, I.os, I.bare, I.base, I.loc, I.cell, I.free, I.freeC, I.pin, I.hok, I.len⟩
theorem Inv.unwish (I : Inv (X.wish E) pins σ H s) : Inv X pins σ H s := ⟨I.ok.unwish, I.os, I.bare, I.base, I.loc, I.cell, I.free, I.freeC, I.pin, I.hok, I.len⟩
theorem SP.unwish {D : Ends} {f : Flow} {s' : Shared} (h : SP (X.wish E) pins D f s') : SP X pins D f s' := by
  cases f with
  | next => obtain ⟨σ', H', I, q⟩ := h; exact ⟨σ', H', I.unwish, q⟩
  | brk => obtain ⟨σ', H', I, q⟩ := h; exact ⟨σ', H', I.unwish, q⟩
  | cont => obtain ⟨σ', H', I, q⟩ := h; exact ⟨σ', H', I.unwish, q⟩
  | ret u => obtain ⟨v, σ', H', I, r, q⟩ := h; exact ⟨v, σ', H', I.unwish, r, q⟩
theorem PSs.nox {st : List Stmt} {t : TS} (h : PSs X.nox st t) : PSs X st t := fun pins s σ H D I hw =>
  wpAny_mono (h pins s σ H D (I.wish _) hw) (fun _ _ q => q.unwish) fun _ _ z => False.elim z
end


section
variable {X : Cx} {st : Stmt} {rest : List Stmt} {t u : TS} {e : Expr} {te : TE} {pos : Pos}
def tNext : TS := fun D σ H => D.nx σ H
def tSeq (t u : TS) : TS := fun D σ H => t { D with nx := u D } σ H
theorem pss_nil : PSs X [] tNext := fun _ _ σ H _ I h => wpAny_execs_nil ⟨σ, H, I, h⟩
theorem pss_cons (h1 : PS X st t) (h2 : PSs X rest u) : PSs X (st :: rest) (tSeq t u) := by
  intro pins s σ H D I h
  refine wpAny_execs_cons (thn (h1 pins s σ H { D with nx := u D } I h) fun f s1 q => ?_)
  cases f with
  | next =>
    obtain ⟨σ', H', I', q⟩ := q
    exact h2 pins s1 σ' H' D I' q
  | ret v => exact q
  | brk => exact q
  | cont => exact q
theorem pss_one (h1 : PS X st t) : PSs X [st] t := by
  intro pins s σ H D I h
  refine wpAny_execs_cons (thn (h1 pins s σ H D I h) fun f s1 q => ?_)
  cases f with
  | next => exact wpAny_execs_nil q
  | ret v => exact q
  | brk => exact q
  | cont => exact q
def tBreak : TS := fun D σ H => D.bk σ H
theorem ps_break : PS X (.Break pos) tBreak := fun _ _ σ H _ I h => wpAny_Break ⟨σ, H, I, h⟩
theorem Inv.quiet {pins : List (Addr × Obj)} {σ : St} {H : Hp} {s : Shared} (I : Inv X pins σ H s) : interactive X.env = false := by simp [interactive, I.ok.kind]
def tDrop (te : TE) : TS := fun D σ H => te σ H fun _ H1 => D.nx σ H1
theorem ps_expr (he : PE X e te) (hs : swapsWith e none pos.line X.env = pure false := by rfl) : PS X (.Expr e pos) (tDrop te) := by
  intro pins s σ H D I h
  exact wpAny_Expr_any (thn (he pins s σ H _ I h) fun v s1 ⟨x, H1, I1, r1, q1⟩ => ⟨σ, H1, I1, q1⟩) I.quiet hs
def tRet (te : TE) : TS := fun D σ H => te σ H D.rt
theorem ps_ret (he : PE X e te) : PS X (.Return (some e) pos) (tRet te) := by
  intro pins s σ H D I h
  exact wpAny_Return_some (thn (he pins s σ H _ I h) fun v s1 ⟨x, H1, I1, r1, q1⟩ => ⟨x, σ, H1, I1, r1, q1⟩)
def tRetN : TS := fun D _ H => D.rt .non H
theorem ps_retN : PS X (.Return none pos) tRetN := fun _ _ σ H _ I h => wpAny_Return_none ⟨.non, σ, H, I, rfl, h⟩
def tIfS (c : TT) (t u : TS) : TS := fun D σ H => c σ H fun b H1 => if b = true then t D σ H1 else u D σ H1
theorem ps_if {c : Expr} {a b : List Stmt} {tc : TT} (hc : PT X c tc) (ha : PSs X a t) (hb : PSs X b u) : PS X (.If c a b pos) (tIfS tc t u) := by
  intro pins s σ H D I h
  refine wpAny_If (thn (hc pins s σ H _ I h) fun d s1 ⟨H1, I1, q1⟩ => ?_)
  cases d with
  | true => exact ha pins s1 σ H1 D I1 q1
  | false => exact hb pins s1 σ H1 D I1 q1
end


abbrev TG := V → St → Hp → (St → Hp → Prop) → Prop
abbrev TGs := List V → St → Hp → (St → Hp → Prop) → Prop
def PG (X : Cx) (target : Expr) (t : TG) : Prop :=
  ∀ (pins : List (Addr × Obj)) (s : Shared) (σ : St) (H : Hp) (v : V) (u : Value) (Q : St → Hp → Prop), Inv X pins σ H s → RelV v u → t v σ H Q →
    wpAny (model X.prog X.w) X.A (assign target X.env u) (fun _ s' => ∃ σ' H', Inv X pins σ' H' s' ∧ Q σ' H') X.xe s
abbrev TSet := V → V → V → Hp → (Hp → Prop) → Prop
abbrev TIp := V → V → Hp → VK → Prop
section
variable {X : Cx} {pos : Pos}
def gName (i : Nat) : TG := fun v σ H Q => Q (σ.set i (some v)) H
theorem pg_name {i : Nat} {x : Str} (hN : X.N.Nodup) (hi : X.N[i]? = some x) (hx : Loc X.env.scope x) (hf : X.fn x = true ∨ X.env.scope.names.lookup x = some .local := by first | exact .inl rfl | exact .inr rfl | assumption) : PG X (.Name x pos) (gName i) := by
  intro pins s σ H v u Q I r h
  exact wpAny_assign_Name (store_ok I hN hi hx r (fun s' I' => ⟨_, H, I', h⟩) hf)
def tAsg (te : TE) (g : TG) : TS := fun D σ H => te σ H fun x H1 => g x σ H1 D.nx
theorem ps_set {i : Nat} {x : Str} {e : Expr} {te : TE} {pos' : Pos} (hN : X.N.Nodup) (hi : X.N[i]? = some x) (hx : Loc X.env.scope x) (he : PE X e te) (hs : swapsWith e (some (.Name x pos')) pos.line X.env = pure false := by rfl) (hf : X.fn x = true ∨ X.env.scope.names.lookup x = some .local := by first | exact .inl rfl | exact .inr rfl | assumption) :
    PS X (.Assign [.Name x pos'] e pos) (tAsg te (gName i)) := by
  intro pins s σ H D I h
  refine wpAny_Assign_Name (thn (he pins s σ H _ I h) fun v s1 ⟨y, H1, I1, r1, q1⟩ => ?_) hs
  exact store_ok I1 hN hi hx r1 (fun s2 I2 => ⟨_, H1, I2, q1⟩) hf
end


section
variable {X : Cx} {pos : Pos}
def tWhile (c : TT) (tb : TS) : TS := fun D σ H => ∃ W : Nat → St → Hp → Prop, (∃ m, W m σ H) ∧ ∀ m σ H, W m σ H →
  c σ H fun b H1 => if b = true then ∃ N : St → Hp → Prop, (∀ σ' H', N σ' H' → ∃ m', m' < m ∧ W m' σ' H') ∧ tb { D with nx := N, ct := N, bk := D.nx } σ H1 else D.nx σ H1
theorem ps_while {c : Expr} {body : List Stmt} {tc : TT} {tb : TS} (hp : PassesOwn (model X.prog X.w) X.A X.env X.xe) (hc : PT X c tc) (hb : PSs X body tb) : PS X (.While c body [] pos) (tWhile tc tb) := by
  intro pins s σ H D I h
  obtain ⟨W, ⟨m0, w0⟩, turn⟩ := h
  refine wpAny_While (codeAny_whileLoop (fun n s' => ∃ σ' H', Inv X pins σ' H' s' ∧ W n σ' H') ?_ m0 ⟨σ, H, I, w0⟩)
  rintro n s1 ⟨σ1, H1, I1, w1⟩
  refine wpAny_passesOwn hp (thn (hc pins s1 σ1 H1 _ I1 (turn n σ1 H1 w1)) fun b s2 ⟨H2, I2, q2⟩ => ?_)
  cases b with
  | true =>
    obtain ⟨N, hN, q2⟩ := q2
    rw [if_pos rfl]
    refine wpAny_passesOwn hp (thn (hb pins s2 σ1 H2 _ I2 q2) fun f s3 q3 => ?_)
    cases f with
    | next =>
      obtain ⟨σ3, H3, I3, n3⟩ := q3
      obtain ⟨m', hm, w3⟩ := hN σ3 H3 n3
      exact ⟨m', hm, σ3, H3, I3, w3⟩
    | cont =>
      obtain ⟨σ3, H3, I3, n3⟩ := q3
      obtain ⟨m', hm, w3⟩ := hN σ3 H3 n3
      exact ⟨m', hm, σ3, H3, I3, w3⟩
    | brk => exact q3
    | ret v => exact q3
  | false =>
    rw [if_neg Bool.false_ne_true]
    exact wpAny_execs_nil ⟨σ1, H2, I2, q2⟩
end


structure It where
  go : Nat → Hp → Prop
  yld : Nat → Hp → V → Hp → Prop
  stop : Nat → Hp → Prop
def FpOk (X : Cx) (pins : List (Addr × Obj)) (H : Hp) (b : Addr) : Prop :=
  H b = none ∧ b ≠ X.env.locals ∧ b ∉ X.fs ∧ (b ∈ X.ex ∨ X.s_0.heap.objs.size ≤ b) ∧ (∀ x c, X.env.cells.lookup x = some c → c ≠ b) ∧ ∀ p ∈ X.pn ++ pins, p.1 ≠ b
theorem Inv.fpOk {X : Cx} {pins : List (Addr × Obj)} {σ : St} {H H' : Hp} {s : Shared} {b : Addr} (I : Inv X pins σ H s) (hb : s.heap.objs.size ≤ b) (hn : H' b = none) : FpOk X pins H' b := by
  refine ⟨hn, Nat.ne_of_gt (Nat.lt_of_lt_of_le I.lt hb), I.nofs hb, .inr (Nat.le_trans I.sz hb), fun x c e z => ?_, fun p hp z => ?_⟩
  · obtain ⟨v, q⟩ := I.cell x c e
    exact absurd (Nat.lt_of_lt_of_le q.lt (by rw [z]; exact hb)) (Nat.lt_irrefl _)
  · exact absurd (Nat.lt_of_lt_of_le (Heap.lt_size (I.pin p hp).1) (by rw [z]; exact hb)) (Nat.lt_irrefl _)
structure Turn (P : Program) (w : World) (K : PySem.W.Frag) (tg : Expr) (J : It) (fp : List Addr) (it : Addr) (tn : Nat → Heap → Prop) : Prop where
  mem : it ∈ fp
  obj : ∀ i h, tn i h → ∀ b ∈ fp, ∃ o, h.get? b = some o ∧ ∀ v, o.data ≠ .cell v
  keep : ∀ i h h', tn i h → (∀ b ∈ fp, ∀ o, h.get? b = some o → h'.get? b = some o) → tn i h'
  item : ∀ (X : Cx), X.prog = P → X.w = w → X.K = K → X.calm = true → ∀ (i : Nat) (pins : List (Addr × Obj)) (s : Shared) (σ : St) (H : Hp) (E : Value → Shared → Prop), Inv X pins σ H s → (∀ b ∈ fp, FpOk X pins H b) → tn i s.heap → J.go i H →
    wpAny (model P w) X.A (pyNext (.ref it)) (fun r s1 => ∃ u, r = some u ∧
      wpAny (model P w) X.A (letOwnedTupleGo tg (.ref it) u) (fun _ s2 => ∃ x H', Inv X pins σ H' s2 ∧ RelV x u ∧ J.yld i H x H' ∧ tn (i + 1) s2.heap ∧ ∀ b ∈ fp, H' b = none) E s1) E s
  done : ∀ (X : Cx), X.prog = P → X.w = w → X.K = K → X.calm = true → ∀ (i : Nat) (pins : List (Addr × Obj)) (s : Shared) (σ : St) (H : Hp) (E : Value → Shared → Prop), Inv X pins σ H s → (∀ b ∈ fp, FpOk X pins H b) → tn i s.heap → J.stop i H →
    wpAny (model P w) X.A (pyNext (.ref it)) (fun r s1 => r = none ∧ Inv X pins σ H s1) E s
  self : ∀ (A : Around) (i : Nat) (s : Shared) (Q : Value → Shared → Prop) (E : Value → Shared → Prop), tn i s.heap → Q (.ref it) s → wpAny (model P w) A (pyIter (.ref it)) Q E s
abbrev TI := St → Hp → (It → Hp → Prop) → Prop
def PIE (X : Cx) (pins : List (Addr × Obj)) (σ : St) (tg : Expr) (R : It → Hp → Prop) (itv : Value) (s2 : Shared) : Prop :=
  ∃ (it : Addr) (fp : List Addr) (tn : Nat → Heap → Prop) (J : It) (H' : Hp), itv = .ref it ∧ Inv X pins σ H' s2 ∧ Turn X.prog X.w X.K tg J fp it tn ∧ tn 0 s2.heap ∧ (∀ b ∈ fp, FpOk X pins H' b) ∧ R J H'
def PI (X : Cx) (tg iter : Expr) (wi : TI) : Prop :=
  ∀ (pins : List (Addr × Obj)) (s : Shared) (σ : St) (H : Hp) (R : It → Hp → Prop), Inv X pins σ H s → wi σ H R →
    wpAny (model X.prog X.w) X.A (eval iter X.env) (fun v s1 => wpAny (model X.prog X.w) X.A (pyIter v) (PIE X pins σ tg R) X.xe s1) X.xe s
theorem go_of {M : Model} {A : Around} {E : Value → Shared → Prop} {s : Shared} {tg : Expr} {it : Addr} {u : Value} {o : Obj} {n : String} {vs : Array Value} {Q : Unit → Shared → Prop} (ho : s.heap.get? it = some o) (hc : o.cls = .type n) (hd : o.data = .fields vs)
    (hn : ["enumerate", "zip", "dict_itemiterator", "dict_reverseitemiterator", "odict_iterator", "itertools.zip_longest", "itertools.pairwise"].contains n = false) (hQ : Q () s) : wpAny M A (letOwnedTupleGo tg (.ref it) u) Q E s := by
  unfold letOwnedTupleGo
  cases tg <;> first
    | exact wpAny_pure hQ
    | (cases u <;> first
        | exact wpAny_pure hQ
        | (refine wpAny_bind (wpAny_load ho ?_)
           rw [hc, hd]
           show wpAny M A (if (["enumerate", "zip", "dict_itemiterator", "dict_reverseitemiterator", "odict_iterator", "itertools.zip_longest", "itertools.pairwise"].contains n && vs[0]? == some (rawInt _)) = true then _ else _) Q E s
           rw [if_neg (by intro h; rw [hn, Bool.false_and] at h; cases h)]
           exact wpAny_pure hQ))
def Itl (K : PySem.W.Frag) (a : Addr) : It :=
  ⟨fun i H => ∃ xs x, SqL K H a xs ∧ xs[i]? = some x, fun i H x H' => H' = H ∧ ∀ xs, SqL K H a xs → xs[i]? = some x, fun i H => ∃ xs, SqL K H a xs ∧ xs.length ≤ i⟩
def Itt (K : PySem.W.Frag) (a : Addr) : It :=
  ⟨fun i H => ∃ xs x, SqT K H a xs ∧ xs[i]? = some x, fun i H x H' => H' = H ∧ ∀ xs, SqT K H a xs → xs[i]? = some x, fun i H => ∃ xs, SqT K H a xs ∧ xs.length ≤ i⟩
def Itr (lo : Int) (n : Nat) : It := ⟨fun i _ => i < n, fun i H x H' => H' = H ∧ x = .int (lo + i), fun i _ => n ≤ i⟩
theorem turn_list {P : Program} {w : World} {K : PySem.W.Frag} {tg : Expr} (a it : Addr) : Turn P w K tg (Itl K a) [it] it (fun i h => h.IsListIter it a i) where
  mem := by simp
  obj := fun i h st b hb => by
    have e : b = it := by simpa using hb
    subst e
    obtain ⟨o, e, c, d⟩ := st
    exact ⟨o, e, fun v z => by rw [d] at z; cases z⟩
  keep := fun i h h' st k => st.at fun o e => k it (by simp) o e
  item := by
    intro X hP hw hK hc i pins s σ H E I hf st hg
    subst hP hw hK
    obtain ⟨xs, x, hq, hx⟩ := hg
    obtain ⟨its, rv, p, hz⟩ := I.list hq
    obtain ⟨u, hu, ru⟩ := rv.get hx
    obtain ⟨f0, f1, f2, f3, f4, f5⟩ := hf it (by simp)
    refine wpAny_pyNext_list_item st p.isList (x := u) (by simpa using hu) fun h' st' sb => ?_
    have I1 : Inv X pins σ H { s with heap := h' } := I.turned (t' := s.toks) (fun b o hb e => (sb.2 b hb).trans e) f0 f1 f3 f4 f5
    obtain ⟨o, e, c, d⟩ := id st'
    exact ⟨u, rfl, go_of (s := { s with heap := h' }) e c d (by decide) ⟨x, H, I1, ru, ⟨rfl, fun ys hy => by rw [I.list_inj hy hq]; exact hx⟩, st', fun b hb => (hf b hb).1⟩⟩
  done := by
    intro X hP hw hK hc i pins s σ H E I hf st hg
    subst hP hw hK
    obtain ⟨xs, hq, hx⟩ := hg
    obtain ⟨its, rv, p, hz⟩ := I.list hq
    obtain ⟨f0, f1, f2, f3, f4, f5⟩ := hf it (by simp)
    have hl := rv.length
    exact wpAny_pyNext_list_end (I.ok.hd hc) st p.isList (by simp; omega) fun h' eb => ⟨rfl, I.turned (t' := s.toks) (fun b o hb e => eb b o hb e) f0 f1 f3 f4 f5⟩
  self := fun _ _ _ _ _ st h => wpAny_pyIter_listiter st h
theorem turn_tuple {P : Program} {w : World} {K : PySem.W.Frag} {tg : Expr} (a it : Addr) : Turn P w K tg (Itt K a) [it] it (fun i h => h.IsTupleIter it a i) where
  mem := by simp
  obj := fun i h st b hb => by
    have e : b = it := by simpa using hb
    subst e
    obtain ⟨o, e, c, d⟩ := st
    exact ⟨o, e, fun v z => by rw [d] at z; cases z⟩
  keep := fun i h h' st k => st.at fun o e => k it (by simp) o e
  item := by
    intro X hP hw hK hc i pins s σ H E I hf st hg
    subst hP hw hK
    obtain ⟨xs, x, hq, hx⟩ := hg
    obtain ⟨its, rv, p, hz⟩ := I.tuple hq
    obtain ⟨u, hu, ru⟩ := rv.get hx
    obtain ⟨f0, f1, f2, f3, f4, f5⟩ := hf it (by simp)
    refine wpAny_pyNext_tuple_item st (show s.heap.IsTuple a its.toArray from p) (x := u) (by simpa using hu) fun h' st' sb => ?_
    have I1 : Inv X pins σ H { s with heap := h' } := I.turned (t' := s.toks) (fun b o hb e => (sb.2 b hb).trans e) f0 f1 f3 f4 f5
    obtain ⟨o, e, c, d⟩ := id st'
    exact ⟨u, rfl, go_of (s := { s with heap := h' }) e c d (by decide) ⟨x, H, I1, ru, ⟨rfl, fun ys hy => by rw [I.tuple_inj hy hq]; exact hx⟩, st', fun b hb => (hf b hb).1⟩⟩
  done := by
    intro X hP hw hK hc i pins s σ H E I hf st hg
    subst hP hw hK
    obtain ⟨xs, hq, hx⟩ := hg
    obtain ⟨its, rv, p, hz⟩ := I.tuple hq
    obtain ⟨f0, f1, f2, f3, f4, f5⟩ := hf it (by simp)
    have hl := rv.length
    exact wpAny_pyNext_tuple_end (I.ok.hd hc) st (show s.heap.IsTuple a its.toArray from p) (by simp; omega) fun h' eb => ⟨rfl, I.turned (t' := s.toks) (fun b o hb e => eb b o hb e) f0 f1 f3 f4 f5⟩
  self := fun _ _ _ _ _ st h => wpAny_pyIter_tupleiter st h
theorem turn_range {P : Program} {w : World} {K : PySem.W.Frag} {tg : Expr} (it : Addr) (lo : Int) (n : Nat) : Turn P w K tg (Itr lo n) [it] it (fun i h => IsRangeIter h it (lo + (i : Nat) * 1) ((n : Int) - (i : Nat)) 1) where
  mem := by simp
  obj := fun i h st b hb => by
    have e : b = it := by simpa using hb
    subst e
    exact ⟨_, st, fun v z => by
      have z' : Data.fields _ = Data.cell v := z
      cases z'⟩
  keep := fun i h h' st k => k it (by simp) _ st
  item := by
    intro X hP hw hK hc i pins s σ H E I hf st hg
    subst hP hw hK
    obtain ⟨f0, f1, f2, f3, f4, f5⟩ := hf it (by simp)
    have W := Walks.range (prog := X.prog) (w := X.w) (I.ok.hd hc) it lo 1 n
    refine W.item i s _ _ hg st fun v h' tk hv st' kk => ?_
    obtain ⟨t, rfl⟩ := hv
    have I1 : Inv X pins σ H { s with heap := h', toks := tk } := I.turned (fun b o hb e => kk b o (by simpa using hb) e) f0 f1 f3 f4 f5
    refine ⟨_, rfl, go_of (s := { s with heap := h', toks := tk }) (n := "range_iterator") st' rfl rfl (by decide) ⟨.int (lo + i), H, I1, ⟨t, ?_⟩, ⟨rfl, rfl⟩, st', fun b hb => (hf b hb).1⟩⟩
    rw [Int.mul_one]
  done := by
    intro X hP hw hK hc i pins s σ H E I hf st hg
    subst hP hw hK
    obtain ⟨f0, f1, f2, f3, f4, f5⟩ := hf it (by simp)
    exact wpAny_pyNext_range_end (I.ok.hd hc) st (by have : n ≤ i := hg; omega) fun h' eb => ⟨rfl, I.turned (t' := s.toks) (fun b o hb e => eb b o hb e) f0 f1 f3 f4 f5⟩
  self := fun _ _ _ _ _ st h => wpAny_pyIter_rangeiter st h
end L2

namespace L2
open PySem PySem.Spec PyProof.Rows
section
variable {X : Cx} {tg : Expr}
def iList (K : PySem.W.Frag) (tl : TE) : TI := fun σ H R => tl σ H fun x H1 => ∃ a, x = .ref a ∧ (∃ xs, SqL K H1 a xs) ∧ R (Itl K a) H1
def iTup (K : PySem.W.Frag) (tl : TE) : TI := fun σ H R => tl σ H fun x H1 => ∃ a, x = .ref a ∧ (∃ xs, SqT K H1 a xs) ∧ R (Itt K a) H1
theorem pi_list {l : Expr} {tl : TE} (hl : PE X l tl) : PI X tg l (iList X.K tl) := by
  intro pins s σ H R I h
  refine thn (hl pins s σ H _ I h) fun v s1 ⟨x, H1, I1, r1, q1⟩ => ?_
  obtain ⟨a, e, ⟨xs, hq⟩, q⟩ := q1
  subst e
  cases r1
  obtain ⟨its, rv, p, hz⟩ := I1.list hq
  refine wpAny_pyIter_list p.isList ?_
  refine ⟨s1.heap.objs.size, [s1.heap.objs.size], _, _, H1, rfl, I1.kept (t' := s1.toks) fun b o e => Heap.get?_push_of_some _ e, turn_list a _, ⟨_, Heap.get?_push_size _ rfl, rfl, rfl⟩, fun b hb => ?_, q⟩
  have e : b = s1.heap.objs.size := by simpa using hb
  subst e
  exact I1.fpOk (Nat.le_refl _) (I1.hok.fresh (Nat.le_refl _))
theorem pi_tup {l : Expr} {tl : TE} (hl : PE X l tl) : PI X tg l (iTup X.K tl) := by
  intro pins s σ H R I h
  refine thn (hl pins s σ H _ I h) fun v s1 ⟨x, H1, I1, r1, q1⟩ => ?_
  obtain ⟨a, e, ⟨xs, hq⟩, q⟩ := q1
  subst e
  cases r1
  obtain ⟨its, rv, p, hz⟩ := I1.tuple hq
  refine wpAny_pyIter_tuple (show s1.heap.IsTuple a its.toArray from p) ?_
  refine ⟨s1.heap.objs.size, [s1.heap.objs.size], _, _, H1, rfl, I1.kept (t' := s1.toks) fun b o e => Heap.get?_push_of_some _ e, turn_tuple a _, ⟨_, Heap.get?_push_size _ rfl, rfl, rfl⟩, fun b hb => ?_, q⟩
  have e : b = s1.heap.objs.size := by simpa using hb
  subst e
  exact I1.fpOk (Nat.le_refl _) (I1.hok.fresh (Nat.le_refl _))
theorem range_it {pins : List (Addr × Obj)} {σ : St} {H : Hp} {s : Shared} {R : It → Hp → Prop} {E : Value → Shared → Prop} {lo hi : Int} {t u v : Tok} {tk : Nat} (I : Inv X pins σ H s) (h1 : -(2 ^ 62) ≤ lo) (h2 : lo < 2 ^ 62) (h3 : -(2 ^ 62) ≤ hi) (h4 : hi < 2 ^ 62)
    (q : R (Itr lo (hi - lo).toNat) H) : wpAny (model X.prog X.w) X.A (pyIter (.ref s.heap.objs.size)) (PIE X pins σ tg R) E { s with heap := s.heap.push { cls := .type "range", data := .fields #[.int lo t, .int hi u, .int 1 v] }, toks := tk } := by
  refine wpAny_pyIter_range (IsRange.new ..) (small_one h1 h2 h3 h4) ?_
  have I1 : Inv X pins σ H { s with heap := s.heap.push { cls := .type "range", data := .fields #[.int lo t, .int hi u, .int 1 v] }, toks := tk } := I.kept fun b o e => Heap.get?_push_of_some _ e
  refine ⟨(s.heap.push { cls := .type "range", data := .fields #[.int lo t, .int hi u, .int 1 v] }).objs.size, [(s.heap.push { cls := .type "range", data := .fields #[.int lo t, .int hi u, .int 1 v] }).objs.size], _, _, H, rfl,
    I1.kept (t' := tk) fun b o e => Heap.get?_push_of_some _ e, turn_range _ lo (hi - lo).toNat, ?_, fun b hb => ?_, q⟩
  · have e1 : lo + ((0 : Nat) : Int) * 1 = lo := by simp
    have e2 : (((hi - lo).toNat : Nat) : Int) - ((0 : Nat) : Int) = Builtin.Range.rangeSize lo hi 1 := by rw [rangeSize_one]; split <;> omega
    show IsRangeIter _ _ (lo + ((0 : Nat) : Int) * 1) ((((hi - lo).toNat : Nat) : Int) - ((0 : Nat) : Int)) 1
    rw [e1, e2]
    exact Heap.get?_push_size _ rfl
  · have e : b = (s.heap.push { cls := .type "range", data := .fields #[.int lo t, .int hi u, .int 1 v] }).objs.size := by simpa using hb
    subst e
    exact I1.fpOk (Nat.le_refl _) (I1.hok.fresh (Nat.le_refl _))
def iRng1 (ta : TA) : TI := fun σ H R => ta σ H fun vs H1 => ∃ j : Int, vs = [.int j] ∧ -(2 ^ 62) ≤ j ∧ j < 2 ^ 62 ∧ R (Itr 0 j.toNat) H1
theorem pi_range1 {a : Expr} {ta : TA} {p pos : Pos} (hg : Gl X "range") (hm : X.mg "range" = none) (ha : PA X [a] ta) (hs : starEach [a] X.env = [(false, eval a X.env)] := by rfl) : PI X tg (.Call (.Name "range" p) [a] [] pos) (iRng1 ta) := by
  intro pins s σ H R I h
  refine Call_ (ld_blt I hg hm boot_range (PyProof.Rows.callWith_type1 (thn (ha pos pins s σ H _ I h) fun us s1 ⟨vs, H1, I1, r1, q1⟩ => ?_) hs rfl))
  obtain ⟨j, e, q1, q2, q⟩ := q1
  subst e
  cases r1 with
  | cons r rr =>
    cases rr
    obtain ⟨t, rfl⟩ := r
    exact call_range_1 (range_it I1 (by omega) (by omega) q1 q2 (by simpa using q))

def tFor (wi : TI) (g : TG) (tb : TS) : TS := fun D σ H => wi σ H fun J H1 => ∃ W : Nat → Nat → St → Hp → Prop, (∃ m, W 0 m σ H1) ∧ ∀ i m σ H, W i m σ H →
  (J.stop i H ∧ D.nx σ H) ∨ (J.go i H ∧ ∃ N : St → Hp → Prop, (∀ σ' H', N σ' H' → ∃ m', m' < m ∧ W (i + 1) m' σ' H') ∧ ∀ x H', J.yld i H x H' → g x σ H' fun σ2 H2 => tb { D with nx := N, ct := N, bk := D.nx } σ2 H2)
def pinsAt (fp : List Addr) (h : Heap) : List (Addr × Obj) := fp.filterMap fun b => (h.get? b).map fun o => (b, o)
theorem mem_pinsAt {fp : List Addr} {h : Heap} {b : Addr} {o : Obj} (hb : b ∈ fp) (e : h.get? b = some o) : (b, o) ∈ pinsAt fp h := List.mem_filterMap.mpr ⟨b, hb, by rw [e]; rfl⟩
theorem of_pinsAt {fp : List Addr} {h : Heap} {p : Addr × Obj} (hp : p ∈ pinsAt fp h) : p.1 ∈ fp ∧ h.get? p.1 = some p.2 := by
  obtain ⟨b, hb, e⟩ := List.mem_filterMap.mp hp
  cases q : h.get? b with
  | none => rw [q] at e; cases e
  | some o =>
    rw [q] at e
    have e' : (b, o) = p := Option.some.inj e
    subst e'
    exact ⟨hb, q⟩
theorem Inv.pinned {pins : List (Addr × Obj)} {σ : St} {H : Hp} {s : Shared} {fp : List Addr} (I : Inv X pins σ H s) (hf : ∀ b ∈ fp, FpOk X pins H b) (ho : ∀ b ∈ fp, ∃ o, s.heap.get? b = some o ∧ ∀ v, o.data ≠ .cell v) : Inv X (pins ++ pinsAt fp s.heap) σ H s :=
  I.pins_of fun p hp => (List.mem_append.mp hp).elim (fun z => I.pin p (List.mem_append_right _ z)) fun z => by
    obtain ⟨hb, e⟩ := of_pinsAt z
    obtain ⟨f0, f1, f2, _⟩ := hf p.1 hb
    obtain ⟨o, e', d⟩ := ho p.1 hb
    rw [e] at e'; cases e'
    exact ⟨e, f0, f1, f2, d⟩
theorem Inv.unpinned {pins pl : List (Addr × Obj)} {σ : St} {H : Hp} {s : Shared} (I : Inv X (pins ++ pl) σ H s) : Inv X pins σ H s := I.pins_of fun p hp => I.pin p (List.mem_append_right _ (List.mem_append_left _ hp))
theorem ps_for {iter : Expr} {body : List Stmt} {wi : TI} {g : TG} {tb : TS} {pos : Pos} (hp : PassesOwn (model X.prog X.w) X.A X.env X.xe) (hc : X.calm = true) (hi : PI X tg iter wi) (hg : PG X tg g) (hb : PSs X body tb)
    (hs : ∀ x, foldedSetIterable iter X.env x = pure x := by intro _; rfl) : PS X (.For tg iter body [] pos) (tFor wi g tb) := by
  intro pins s σ H D I h
  refine wpAny_For (thn (hi pins s σ H _ I h) fun v s1 h1 => thn h1 fun itv s2 h2 => ?_) hs
  obtain ⟨it, fp, tn, J, H2, e, I2, T, st2, f2, W, ⟨m0, w0⟩, turn⟩ := h2
  subst e
  have stat : ∀ {H' : Hp}, (∀ b ∈ fp, H' b = none) → ∀ b ∈ fp, FpOk X pins H' b := fun hn b hb => ⟨hn b hb, (f2 b hb).2⟩
  refine codeAny_forLoop_any (fun n s' => ∃ i σ' H', Inv X pins σ' H' s' ∧ tn i s'.heap ∧ (∀ b ∈ fp, H' b = none) ∧ W i n σ' H') ?_ m0 ⟨0, σ, H2, I2, st2, fun b hb => (f2 b hb).1, w0⟩
  rintro n s3 ⟨i, σ3, H3, I3, st3, fr3, w3⟩
  rcases turn i n σ3 H3 w3 with ⟨stop, qn⟩ | ⟨go, N, hN, step⟩
  · refine wpAny_passesOwn hp (thn (T.done X rfl rfl rfl hc i pins s3 σ3 H3 X.xe I3 (stat fr3) st3 stop) fun r s4 ⟨hr, I4⟩ => ?_)
    subst hr
    exact wpAny_execs_nil ⟨σ3, H3, I4, qn⟩
  · refine wpAny_passesOwn hp (thn (T.item X rfl rfl rfl hc i pins s3 σ3 H3 X.xe I3 (stat fr3) st3 go) fun r s4 ⟨u, hr, h4⟩ => ?_)
    subst hr
    refine wpAny_passesOwn hp (thn h4 fun _ s5 ⟨x, H5, I5, r5, y5, st5, fr5⟩ => ?_)
    have I5' := I5.pinned (stat fr5) (T.obj _ _ st5)
    refine wpAny_passesOwn hp (thn (hg _ s5 σ3 H5 x u _ I5' r5 (step x H5 y5)) fun _ s6 ⟨σ6, H6, I6, q6⟩ => ?_)
    refine wpAny_passesOwn hp (thn (hb _ s6 σ6 H6 _ I6 q6) fun f s7 q7 => ?_)
    have again : ∀ {σ7 : St} {H7 : Hp}, Inv X (pins ++ pinsAt fp s5.heap) σ7 H7 s7 → N σ7 H7 → ∃ m, m < n ∧ ∃ i σ' H', Inv X pins σ' H' s7 ∧ tn i s7.heap ∧ (∀ b ∈ fp, H' b = none) ∧ W i m σ' H' := fun {σ7 H7} I7 n7 => by
      obtain ⟨m', hm, w7⟩ := hN σ7 H7 n7
      refine ⟨m', hm, i + 1, σ7, H7, I7.unpinned, T.keep _ _ _ st5 fun b hb o e => (I7.pin (b, o) (List.mem_append_right _ (List.mem_append_right _ (mem_pinsAt hb e)))).1, fun b hb => ?_, w7⟩
      obtain ⟨o, e, d⟩ := T.obj _ _ st5 b hb
      exact (I7.pin (b, o) (List.mem_append_right _ (List.mem_append_right _ (mem_pinsAt hb e)))).2.1
    cases f with
    | next => obtain ⟨σ7, H7, I7, n7⟩ := q7; exact again I7 n7
    | cont => obtain ⟨σ7, H7, I7, n7⟩ := q7; exact again I7 n7
    | brk => obtain ⟨σ7, H7, I7, q7⟩ := q7; exact ⟨σ7, H7, I7.unpinned, q7⟩
    | ret v => obtain ⟨x7, σ7, H7, I7, r7, q7⟩ := q7; exact ⟨x7, σ7, H7, I7.unpinned, r7, q7⟩
end


theorem for_list {K : PySem.W.Frag} {a : Addr} {xs : List V} {g : TG} {tb : TS} {D : Ends} {σ : St} {H : Hp} (Pv : Nat → St → Hp → Prop) (h0 : Pv 0 σ H) (hl : ∀ i σ H, i ≤ xs.length → Pv i σ H → SqL K H a xs)
    (hs : ∀ i x σ H, xs[i]? = some x → Pv i σ H → g x σ H fun σ2 H2 => tb { D with nx := Pv (i + 1), ct := Pv (i + 1), bk := D.nx } σ2 H2) (hd : ∀ σ H, Pv xs.length σ H → D.nx σ H) :
    ∃ W : Nat → Nat → St → Hp → Prop, (∃ m, W 0 m σ H) ∧ ∀ i m σ H, W i m σ H →
      ((Itl K a).stop i H ∧ D.nx σ H) ∨ ((Itl K a).go i H ∧ ∃ N : St → Hp → Prop, (∀ σ' H', N σ' H' → ∃ m', m' < m ∧ W (i + 1) m' σ' H') ∧ ∀ x H', (Itl K a).yld i H x H' → g x σ H' fun σ2 H2 => tb { D with nx := N, ct := N, bk := D.nx } σ2 H2) := by
  refine ⟨fun i m σ H => m = xs.length - i ∧ i ≤ xs.length ∧ Pv i σ H, ⟨xs.length, by simp, Nat.zero_le _, h0⟩, ?_⟩
  rintro i m σ H ⟨rfl, hi, p⟩
  have q := hl i σ H hi p
  by_cases hlt : i < xs.length
  · refine .inr ⟨⟨xs, xs[i], q, by simp [hlt]⟩, Pv (i + 1), fun σ' H' p' => ⟨xs.length - (i + 1), by omega, rfl, hlt, p'⟩, fun x H' y => ?_⟩
    obtain ⟨e, y⟩ := y
    subst e
    exact hs i x σ _ (y xs q) p
  · have e : i = xs.length := by omega
    subst e
    exact .inl ⟨⟨xs, q, Nat.le_refl _⟩, hd σ H p⟩
theorem for_tup {K : PySem.W.Frag} {a : Addr} {xs : List V} {g : TG} {tb : TS} {D : Ends} {σ : St} {H : Hp} (Pv : Nat → St → Hp → Prop) (h0 : Pv 0 σ H) (hl : ∀ i σ H, i ≤ xs.length → Pv i σ H → SqT K H a xs)
    (hs : ∀ i x σ H, xs[i]? = some x → Pv i σ H → g x σ H fun σ2 H2 => tb { D with nx := Pv (i + 1), ct := Pv (i + 1), bk := D.nx } σ2 H2) (hd : ∀ σ H, Pv xs.length σ H → D.nx σ H) :
    ∃ W : Nat → Nat → St → Hp → Prop, (∃ m, W 0 m σ H) ∧ ∀ i m σ H, W i m σ H →
      ((Itt K a).stop i H ∧ D.nx σ H) ∨ ((Itt K a).go i H ∧ ∃ N : St → Hp → Prop, (∀ σ' H', N σ' H' → ∃ m', m' < m ∧ W (i + 1) m' σ' H') ∧ ∀ x H', (Itt K a).yld i H x H' → g x σ H' fun σ2 H2 => tb { D with nx := N, ct := N, bk := D.nx } σ2 H2) := by
  refine ⟨fun i m σ H => m = xs.length - i ∧ i ≤ xs.length ∧ Pv i σ H, ⟨xs.length, by simp, Nat.zero_le _, h0⟩, ?_⟩
  rintro i m σ H ⟨rfl, hi, p⟩
  have q := hl i σ H hi p
  by_cases hlt : i < xs.length
  · refine .inr ⟨⟨xs, xs[i], q, by simp [hlt]⟩, Pv (i + 1), fun σ' H' p' => ⟨xs.length - (i + 1), by omega, rfl, hlt, p'⟩, fun x H' y => ?_⟩
    obtain ⟨e, y⟩ := y
    subst e
    exact hs i x σ _ (y xs q) p
  · have e : i = xs.length := by omega
    subst e
    exact .inl ⟨⟨xs, q, Nat.le_refl _⟩, hd σ H p⟩
theorem for_range {lo : Int} {n : Nat} {g : TG} {tb : TS} {D : Ends} {σ : St} {H : Hp} (Pv : Nat → St → Hp → Prop) (h0 : Pv 0 σ H)
    (hs : ∀ i σ H, i < n → Pv i σ H → g (.int (lo + i)) σ H fun σ2 H2 => tb { D with nx := Pv (i + 1), ct := Pv (i + 1), bk := D.nx } σ2 H2) (hd : ∀ σ H, Pv n σ H → D.nx σ H) :
    ∃ W : Nat → Nat → St → Hp → Prop, (∃ m, W 0 m σ H) ∧ ∀ i m σ H, W i m σ H →
      ((Itr lo n).stop i H ∧ D.nx σ H) ∨ ((Itr lo n).go i H ∧ ∃ N : St → Hp → Prop, (∀ σ' H', N σ' H' → ∃ m', m' < m ∧ W (i + 1) m' σ' H') ∧ ∀ x H', (Itr lo n).yld i H x H' → g x σ H' fun σ2 H2 => tb { D with nx := N, ct := N, bk := D.nx } σ2 H2) := by
  refine ⟨fun i m σ H => m = n - i ∧ i ≤ n ∧ Pv i σ H, ⟨n, by simp, Nat.zero_le _, h0⟩, ?_⟩
  rintro i m σ H ⟨rfl, hi, p⟩
  by_cases hlt : i < n
  · refine .inr ⟨hlt, Pv (i + 1), fun σ' H' p' => ⟨n - (i + 1), by omega, rfl, hlt, p'⟩, fun x H' y => ?_⟩
    obtain ⟨e, y⟩ := y
    subst e y
    exact hs i σ _ hlt p
  · have e : i = n := by omega
    subst e
    exact .inl ⟨Nat.le_refl _, hd σ H p⟩
theorem while_by {c : TT} {tb : TS} {D : Ends} {σ : St} {H : Hp} (Pv : St → Hp → Prop) (μ : St → Hp → Nat) (h0 : Pv σ H)
    (hs : ∀ σ H, Pv σ H → c σ H fun b H1 => if b = true then tb { D with nx := fun σ' H' => Pv σ' H' ∧ μ σ' H' < μ σ H, ct := fun σ' H' => Pv σ' H' ∧ μ σ' H' < μ σ H, bk := D.nx } σ H1 else D.nx σ H1)
    (mono : ∀ σ H Q Q', (∀ b H1, Q b H1 → Q' b H1) → c σ H Q → c σ H Q') : tWhile c tb D σ H := by
  refine ⟨fun m σ H => m = μ σ H ∧ Pv σ H, ⟨_, rfl, h0⟩, ?_⟩
  rintro m σ H ⟨rfl, p⟩
  refine mono σ H _ _ (fun b H1 q => ?_) (hs σ H p)
  cases b with
  | true => exact ⟨_, fun σ' H' ⟨p', l⟩ => ⟨_, l, rfl, p'⟩, q⟩
  | false => exact q
end L2

namespace L2
open PySem PySem.Spec PyProof.Rows
abbrev R2 := V → V → Hp → VK → Prop
def OpR (X : Cx) (f : Value → Value → Sem Value) (r : R2) : Prop :=
  ∀ (pins : List (Addr × Obj)) (s : Shared) (σ : St) (H : Hp) (x y : V) (v u : Value) (Q : VK), Inv X pins σ H s → RelV x v → RelV y u → r x y H Q →
    wpAny (model X.prog X.w) X.A (f v u) (EP X pins σ Q) X.xe s
def UnR (X : Cx) (f : Value → Sem Value) (r : V → Hp → VK → Prop) : Prop :=
  ∀ (pins : List (Addr × Obj)) (s : Shared) (σ : St) (H : Hp) (x : V) (v : Value) (Q : VK), Inv X pins σ H s → RelV x v → r x H Q →
    wpAny (model X.prog X.w) X.A (f v) (EP X pins σ Q) X.xe s
def CallR (X : Cx) (f : Value) (r : List V → Hp → VK → Prop) : Prop :=
  ∀ (pins : List (Addr × Obj)) (s : Shared) (σ : St) (H : Hp) (xs : List V) (us : List Value) (Q : VK), Inv X pins σ H s → Vals xs us → r xs H Q →
    wpAny (model X.prog X.w) X.A (call f us) (EP X pins σ Q) X.xe s
def tOp (r : R2) (ta tb : TE) : TE := fun σ H Q => ta σ H fun x H1 => tb σ H1 fun y H2 => r x y H2 Q
def tUn (r : V → Hp → VK → Prop) (ta : TE) : TE := fun σ H Q => ta σ H fun x H1 => r x H1 Q
def rI (C : Int → Int → Prop) (g : Int → Int → V) : R2 := fun x y H Q => ∃ i j, x = .int i ∧ y = .int j ∧ C i j ∧ Q (g i j) H
def rI0 (g : Int → Int → V) : R2 := fun x y H Q => ∃ i j, x = .int i ∧ y = .int j ∧ Q (g i j) H
def rU (g : Int → V) : V → Hp → VK → Prop := fun x H Q => ∃ i, x = .int i ∧ Q (g i) H
section
variable {X : Cx} {a b c : Expr} {ta tb tc : TE} {pos : Pos}
theorem binT (ha : PE X a ta) (hb : PE X b tb) {pins : List (Addr × Obj)} {s : Shared} {σ : St} {H : Hp} {R : V → V → Hp → Prop} (I : Inv X pins σ H s)
    (h : ta σ H fun x H1 => tb σ H1 fun y H2 => R x y H2) {Q : Value → Shared → Prop} {f : Value → Value → Sem Value}
    (hf : ∀ v u s2 x y H2, Inv X pins σ H2 s2 → RelV x v → RelV y u → R x y H2 → wpAny (model X.prog X.w) X.A (f v u) Q X.xe s2) :
    wpAny (model X.prog X.w) X.A (eval a X.env) (fun v s₁ => wpAny (model X.prog X.w) X.A (eval b X.env) (fun u s₂ => wpAny (model X.prog X.w) X.A (f v u) Q X.xe s₂) X.xe s₁) X.xe s := by
  refine thn (ha pins s σ H _ I h) fun v s1 ⟨x, H1, I1, r1, q1⟩ => ?_
  refine thn (hb pins s1 σ H1 _ I1 q1) fun u s2 ⟨y, H2, I2, r2, q2⟩ => ?_
  exact hf v u s2 x y H2 I2 r1 r2 q2
theorem pe_op {op : Operator} {r : R2} (ho : OpR X (binaryOp op) r) (ha : PE X a ta) (hb : PE X b tb) : PE X (.BinOp a op b pos) (tOp r ta tb) := by
  intro pins s σ H Q I h
  exact wpAny_BinOp (binT ha hb I h fun v u s2 x y H2 I2 rx ry q => ho pins s2 σ H2 x y v u Q I2 rx ry q)
theorem pe_un {op : UnaryOp} {r : V → Hp → VK → Prop} (ho : UnR X (unaryOp op) r) (ha : PE X a ta) : PE X (.UnaryOp op a pos) (tUn r ta) := by
  intro pins s σ H Q I h
  exact UnaryOp_ (thn (ha pins s σ H _ I h) fun v s1 ⟨x, H1, I1, r1, q1⟩ => ho pins s1 σ H1 x v Q I1 r1 q1)

theorem opI {f : Value → Value → Sem Value} {C : Int → Int → Prop} {g : Int → Int → Int}
    (rule : ∀ (i j : Int) (t u : Tok) (s : Shared) (Q : Value → Shared → Prop) (E : Value → Shared → Prop), C i j → Q (.int (g i j) s.toks) { s with toks := s.toks + 1 } → wpAny (model X.prog X.w) X.A (f (.int i t) (.int j u)) Q E s) :
    OpR X f (rI C fun i j => .int (g i j)) := by
  intro pins s σ H x y v u Q I rx ry h
  obtain ⟨i, j, rfl, rfl, hc, q⟩ := h
  obtain ⟨t, rfl⟩ := rx
  obtain ⟨t', rfl⟩ := ry
  exact rule i j t t' s _ _ hc ⟨.int (g i j), H, I.tok _, ⟨_, rfl⟩, q⟩
theorem opI0 {f : Value → Value → Sem Value} {g : Int → Int → Int}
    (rule : ∀ (i j : Int) (t u : Tok) (s : Shared) (Q : Value → Shared → Prop) (E : Value → Shared → Prop), Q (.int (g i j) s.toks) { s with toks := s.toks + 1 } → wpAny (model X.prog X.w) X.A (f (.int i t) (.int j u)) Q E s) :
    OpR X f (rI0 fun i j => .int (g i j)) := by
  intro pins s σ H x y v u Q I rx ry h
  obtain ⟨i, j, rfl, rfl, q⟩ := h
  obtain ⟨t, rfl⟩ := rx
  obtain ⟨t', rfl⟩ := ry
  exact rule i j t t' s _ _ ⟨.int (g i j), H, I.tok _, ⟨_, rfl⟩, q⟩
theorem opB0 {f : Value → Value → Sem Value} {g : Int → Int → Bool}
    (rule : ∀ (i j : Int) (t u : Tok) (s : Shared) (Q : Value → Shared → Prop) (E : Value → Shared → Prop), Q (.bool (g i j)) s → wpAny (model X.prog X.w) X.A (f (.int i t) (.int j u)) Q E s) :
    OpR X f (rI0 fun i j => .bl (g i j)) := by
  intro pins s σ H x y v u Q I rx ry h
  obtain ⟨i, j, rfl, rfl, q⟩ := h
  obtain ⟨t, rfl⟩ := rx
  obtain ⟨t', rfl⟩ := ry
  exact rule i j t t' s _ _ ⟨.bl (g i j), H, I, rfl, q⟩
def CMul (i j : Int) : Prop := (-(2 ^ 64) < i ∧ i < 2 ^ 64) ∨ (-(2 ^ 64) < j ∧ j < 2 ^ 64)
theorem CMul.ok {i j : Int} (h : CMul i j) : IntMulOk i j := by
  rcases h with ⟨h1, h2⟩ | ⟨h1, h2⟩
  · exact .of_left (intBits_le_64 h1 h2)
  · exact .of_right (intBits_le_64 h1 h2)
theorem op_add : OpR X (binaryOp .Add) (rI0 fun i j => .int (i + j)) := opI0 fun _ _ _ _ _ _ _ q => add_int q
theorem op_sub : OpR X (binaryOp .Sub) (rI0 fun i j => .int (i - j)) := opI0 fun _ _ _ _ _ _ _ q => sub_int q
theorem op_mul : OpR X (binaryOp .Mult) (rI CMul fun i j => .int (i * j)) := opI fun _ _ _ _ _ _ _ hc q => mul_int q hc.ok
theorem op_mod : OpR X (binaryOp .Mod) (rI (fun _ j => 0 < j) fun i j => .int (i % j)) := opI fun i j _ _ _ _ _ hc q => by
  have h1 : (0 : Int) < j := hc
  exact mod_int' (by omega) (by rw [Int.fmod_eq_emod_of_nonneg i (by omega)]; exact q)
theorem op_or : OpR X (binaryOp .BitOr) (rI0 fun i j => .int (Builtin.bitOr i j)) := opI0 fun _ _ _ _ _ _ _ q => or_int q
theorem unI {f : Value → Sem Value} {g : Int → Int}
    (rule : ∀ (i : Int) (t : Tok) (s : Shared) (Q : Value → Shared → Prop) (E : Value → Shared → Prop), Q (.int (g i) s.toks) { s with toks := s.toks + 1 } → wpAny (model X.prog X.w) X.A (f (.int i t)) Q E s) :
    UnR X f (rU fun i => .int (g i)) := by
  intro pins s σ H x v Q I rx h
  obtain ⟨i, rfl, q⟩ := h
  obtain ⟨t, rfl⟩ := rx
  exact rule i t s _ _ ⟨.int (g i), H, I.tok _, ⟨_, rfl⟩, q⟩
theorem un_neg : UnR X (unaryOp .USub) (rU fun i => .int (-i)) := unI fun _ _ _ _ _ q => neg_int q

end


def scal : V → V → Bool
  | .non, .non => true | .non, .int _ => true | .int _, .non => true | .non, .bl _ => true | .bl _, .non => true | .non, .str _ => true | .str _, .non => true
  | .int _, .int _ => true | .bl _, .bl _ => true | .str _, .str _ => true | .byt _, .byt _ => true
  | .int _, .str _ => true | .str _, .int _ => true | .bl _, .str _ => true | .str _, .bl _ => true
  | _, _ => false
def rEq : R2 := fun x y H Q => scal x y = true ∧ Q (.bl (decide (x = y))) H
theorem dec_int {i j : Int} : decide (V.int i = V.int j) = (i == j) := by
  rw [Bool.eq_iff_iff]
  simp
theorem dec_bl {i j : Bool} : decide (V.bl i = V.bl j) = (i == j) := by
  rw [Bool.eq_iff_iff]
  simp
theorem dec_str {i j : Str} : decide (V.str i = V.str j) = (i == j) := by
  rw [Bool.eq_iff_iff]
  simp
theorem dec_byt {i j : Array UInt8} : decide (V.byt i = V.byt j) = (i.toList == j.toList) := by
  rw [Bool.eq_iff_iff]
  cases i
  cases j
  simp
section
variable {X : Cx} {a b c : Expr} {ta tb tc : TE} {pos : Pos}
theorem fin_bl {pins : List (Addr × Obj)} {σ : St} {H : Hp} {s : Shared} {Q : VK} {k k' : Bool} (I : Inv X pins σ H s) (q : Q (.bl k) H) (e : k = k') : EP X pins σ Q (.bool k') s := by
  subst e
  exact ⟨.bl k, H, I, rfl, q⟩
theorem op_eq : OpR X (compareOp .Eq) rEq := by
  intro pins s σ H x y v u Q I rx ry h
  obtain ⟨hs, q⟩ := h
  cases x with
  | non =>
    cases rx
    cases y with
    | non => cases ry; exact PySem.EqNone.eq_none_none (fin_bl I q (by simp))
    | bl j => cases ry; exact PySem.EqNone.eq_none_bool (fin_bl I q (by simp))
    | int j => obtain ⟨t', rfl⟩ := ry; exact PySem.EqNone.eq_none_int (fin_bl I q (by simp))
    | str j => obtain ⟨t', rfl⟩ := ry; exact PySem.EqNone.eq_none_str (fin_bl I q (by simp))
    | _ => exact absurd (show false = true from hs) Bool.false_ne_true
  | bl i =>
    cases rx
    cases y with
    | non => cases ry; exact PySem.EqNone.eq_bool_none (fin_bl I q (by simp))
    | bl j => cases ry; exact eq_bool (fin_bl I q dec_bl)
    | str j => obtain ⟨t', rfl⟩ := ry; exact PySem.EqMixed.eq_bool_str (fin_bl I q (by simp))
    | _ => exact absurd (show false = true from hs) Bool.false_ne_true
  | int i =>
    obtain ⟨t, rfl⟩ := rx
    cases y with
    | non => cases ry; exact PySem.EqNone.eq_int_none (fin_bl I q (by simp))
    | int j => obtain ⟨t', rfl⟩ := ry; exact eq_int (fin_bl I q dec_int)
    | str j => obtain ⟨t', rfl⟩ := ry; exact PySem.EqMixed.eq_int_str (fin_bl I q (by simp))
    | _ => exact absurd (show false = true from hs) Bool.false_ne_true
  | str i =>
    obtain ⟨t, rfl⟩ := rx
    cases y with
    | non => cases ry; exact PySem.EqNone.eq_str_none (fin_bl I q (by simp))
    | bl j => cases ry; exact PySem.EqMixed.eq_str_bool (fin_bl I q (by simp))
    | int j => obtain ⟨t', rfl⟩ := ry; exact PySem.EqMixed.eq_str_int (fin_bl I q (by simp))
    | str j => obtain ⟨t', rfl⟩ := ry; exact eq_str (fin_bl I q dec_str)
    | _ => exact absurd (show false = true from hs) Bool.false_ne_true
  | byt i =>
    obtain ⟨t, rfl⟩ := rx
    cases y with
    | byt j => obtain ⟨t', rfl⟩ := ry; exact PySem.W.eq_bytes (fin_bl I q dec_byt)
    | _ => exact absurd (show false = true from hs) Bool.false_ne_true
  | _ => cases y <;> exact absurd (show false = true from hs) Bool.false_ne_true
theorem op_lt : OpR X (compareOp .Lt) (rI0 fun i j => .bl (decide (i < j))) := opB0 fun _ _ _ _ _ _ _ q => lt_int q
theorem op_le : OpR X (compareOp .LtE) (rI0 fun i j => .bl (decide (i ≤ j))) := opB0 fun _ _ _ _ _ _ _ q => le_int q
theorem op_gt : OpR X (compareOp .Gt) (rI0 fun i j => .bl (decide (j < i))) := opB0 fun _ _ _ _ _ _ _ q => gt_int q
theorem op_ge : OpR X (compareOp .GtE) (rI0 fun i j => .bl (decide (j ≤ i))) := opB0 fun _ _ _ _ _ _ _ q => ge_int q
theorem nomark (b : Expr) {op : CmpOp} (h : op ≠ .In := by decide) (h2 : op ≠ .NotIn := by decide) : behindInMarks op b = false := by
  have e1 : (op == CmpOp.In) = false := by cases op <;> first | rfl | exact absurd rfl h
  have e2 : (op == CmpOp.NotIn) = false := by cases op <;> first | rfl | exact absurd rfl h2
  cases b <;> simp [behindInMarks, e1, e2]
theorem pe_cmpR {op : CmpOp} {r : R2} (ho : OpR X (compareOp op) r) (ha : PE X a ta) (hb : PE X b tb) (hm : behindInMarks op b = false) : PE X (.Compare a [op] [b] pos) (tOp r ta tb) := by
  intro pins s σ H Q I h
  exact wpAny_Compare1 (binT ha hb I h fun v u s2 x y H2 I2 rx ry q => ho pins s2 σ H2 x y v u Q I2 rx ry q) hm
def tTest (t : TE) : TT := fun σ H Q => t σ H fun x H' => ∃ k, x = .bl k ∧ Q k H'
theorem pt_cmpR {op : CmpOp} {r : R2} (ho : OpR X (compareOp op) r) (ha : PE X a ta) (hb : PE X b tb) (hm : behindInMarks op b = false) : PT X (.Compare a [op] [b] pos) (tTest (tOp r ta tb)) := by
  intro pins s σ H Q I h
  refine wpAny_isTrue_Compare1 (thn (ha pins s σ H _ I h) fun v s1 ⟨x, H1, I1, r1, q1⟩ => thn (hb pins s1 σ H1 _ I1 q1) fun u s2 ⟨y, H2, I2, r2, q2⟩ =>
    thn (ho pins s2 σ H2 x y v u _ I2 r1 r2 q2) fun c s3 ⟨z, H3, I3, r3, k, e, q3⟩ => ?_) hm
  subst e
  cases r3
  exact wpAny_truthy_bool ⟨H3, I3, q3⟩
def tChain (r r' : R2) (ta tb tc : TE) : TE := fun σ H Q => ta σ H fun x H1 => tb σ H1 fun y H2 => r x y H2 fun z H3 => ∃ k, z = .bl k ∧
  (if k = true then tc σ H3 fun w' H4 => r' y w' H4 Q else Q (.bl false) H3)
theorem pe_chain {op op' : CmpOp} {r r' : R2} (ho : OpR X (compareOp op) r) (ho' : OpR X (compareOp op') r') (ha : PE X a ta) (hb : PE X b tb) (hc : PE X c tc)
    (hm : lastMarks [op, op'] [b, c] = false := by with_unfolding_all rfl) : PE X (.Compare a [op, op'] [b, c] pos) (tChain r r' ta tb tc) := by
  intro pins s σ H Q I h
  refine Compare_chain (thn (ha pins s σ H _ I h) fun v s1 ⟨x, H1, I1, r1, q1⟩ => chain_link (thn (hb pins s1 σ H1 _ I1 q1) fun u s2 ⟨y, H2, I2, r2, q2⟩ =>
    thn (ho pins s2 σ H2 x y v u _ I2 r1 r2 q2) fun d s3 ⟨z, H3, I3, r3, k, e, q3⟩ => ?_)) hm
  subst e
  cases r3
  refine wpAny_truthy_bool ?_
  cases k with
  | false => exact ite_ff ⟨.bl false, H3, I3, rfl, q3⟩
  | true => exact ite_tt (chain_last (thn (hc pins s3 σ H3 _ I3 q3) fun w' s4 ⟨z', H4, I4, r4, q4⟩ => ho' pins s4 σ H4 y z' u w' Q I4 r2 r4 q4))
theorem pt_chain {op op' : CmpOp} {r r' : R2} (ho : OpR X (compareOp op) r) (ho' : OpR X (compareOp op') r') (ha : PE X a ta) (hb : PE X b tb) (hc : PE X c tc)
    (hm : lastMarks [op, op'] [b, c] = false := by with_unfolding_all rfl) : PT X (.Compare a [op, op'] [b, c] pos) (tTest (tChain r r' ta tb tc)) := by
  intro pins s σ H Q I h
  refine isTrue_chain (thn (ha pins s σ H _ I h) fun v s1 ⟨x, H1, I1, r1, q1⟩ => test_link (thn (hb pins s1 σ H1 _ I1 q1) fun u s2 ⟨y, H2, I2, r2, q2⟩ =>
    thn (ho pins s2 σ H2 x y v u _ I2 r1 r2 q2) fun d s3 ⟨z, H3, I3, r3, k, e, q3⟩ => ?_)) hm
  subst e
  cases r3
  refine wpAny_truthy_bool ?_
  cases k with
  | false =>
    obtain ⟨k', e', q'⟩ := q3
    cases e'
    exact ite_ff ⟨H3, I3, q'⟩
  | true =>
    refine ite_tt (test_last (thn (hc pins s3 σ H3 _ I3 q3) fun w' s4 ⟨z', H4, I4, r4, q4⟩ => thn (ho' pins s4 σ H4 y z' u w' _ I4 r2 r4 q4) fun d' s5 ⟨z2, H5, I5, r5, k2, e2, q5⟩ => ?_))
    subst e2
    cases r5
    exact wpAny_truthy_bool ⟨H5, I5, q5⟩

theorem line63 : (sizeLine : Nat) < 2 ^ 63 := by rw [sizeLine_eq]; decide


theorem vals1 {x : V} {us : List Value} (r : Vals [x] us) : ∃ u, us = [u] ∧ RelV x u := by
  cases r with
  | cons r1 r2 => cases r2; exact ⟨_, rfl, r1⟩
theorem vals2 {x y : V} {us : List Value} (r : Vals [x, y] us) : ∃ u w', us = [u, w'] ∧ RelV x u ∧ RelV y w' := by
  cases r with
  | cons r1 r2 =>
    cases r2 with
    | cons r3 r4 => cases r4; exact ⟨_, _, rfl, r1, r3⟩
theorem call_abs : CallR X (.builtin "abs") (fun xs H Q => ∃ i, xs = [.int i] ∧ Q (.int (if i < 0 then -i else i)) H) := by
  intro pins s σ H xs us Q I r h
  obtain ⟨i, rfl, q⟩ := h
  obtain ⟨u, rfl, t, rfl⟩ := vals1 r
  exact call_abs_int fun u tk => ⟨.int (if i < 0 then -i else i), H, I.tok _, ⟨_, rfl⟩, q⟩
theorem call_max2 (hc : X.calm = true) : CallR X (.builtin "max") (fun xs H Q => ∃ i j, xs = [.int i, .int j] ∧ Q (.int (if j > i then j else i)) H) := by
  intro pins s σ H xs us Q I r h
  obtain ⟨i, j, rfl, q⟩ := h
  obtain ⟨u, w', rfl, ⟨t, rfl⟩, ⟨t', rfl⟩⟩ := vals2 r
  refine max_two_ints (I.ok.hd hc) fun h' tk k => ⟨_, H, I.kept k, ?_, q⟩
  by_cases hj : j > i
  · rw [if_pos hj, if_pos hj]; exact ⟨_, rfl⟩
  · rw [if_neg hj, if_neg hj]; exact ⟨_, rfl⟩
theorem call_min2 (hc : X.calm = true) : CallR X (.builtin "min") (fun xs H Q => ∃ i j, xs = [.int i, .int j] ∧ Q (.int (if j < i then j else i)) H) := by
  intro pins s σ H xs us Q I r h
  obtain ⟨i, j, rfl, q⟩ := h
  obtain ⟨u, w', rfl, ⟨t, rfl⟩, ⟨t', rfl⟩⟩ := vals2 r
  refine min_two_ints (I.ok.hd hc) fun h' tk k => ⟨_, H, I.kept k, ?_, q⟩
  by_cases hj : j < i
  · rw [if_pos hj, if_pos hj]; exact ⟨_, rfl⟩
  · rw [if_neg hj, if_neg hj]; exact ⟨_, rfl⟩
end
end L2

namespace L2
open PySem PySem.Spec PyProof.Rows

structure ObjM (h : Heap) (x dx C : Addr) (mA : Str → Option Value) : Prop where
  obj : h.get? x = some (PySem.W.instObj C dx)
  ns : h.Ns1 dx mA
  ne : dx ≠ x
theorem lookIn_ns {h : Heap} {dx : Addr} {mA : Str → Option Value} (n : h.Ns1 dx mA) : ∃ od, h.get? dx = some od ∧ ∀ name, PySem.W.lookIn name od = some (mA name) := by
  obtain ⟨o, es, ep, ho, hd, hk, _, hm⟩ := n
  refine ⟨o, ho, fun name => ?_⟩
  have e := hm name
  unfold nsFind findBy at e
  rw [← Array.find?_toList] at e
  unfold PySem.W.lookIn
  rw [hd]
  dsimp only
  split
  · rename_i y q
    rw [q] at e
    exact congrArg some e
  · rename_i q
    rw [q] at e
    have a : es.toList.any (·.refKey) = false := by
      rw [List.any_eq_false]
      intro y hy
      obtain ⟨z, t, hkey⟩ := hk y (Array.mem_toList_iff.mp hy)
      simp [DictEntry.refKey, hkey]
    have a' : ¬ es.toList.any (·.refKey) = true := by rw [a]; exact Bool.false_ne_true
    rw [if_neg a']
    exact congrArg some e
theorem ObjM.look {h : Heap} {x dx C : Addr} {mA : Str → Option Value} (I : ObjM h x dx C mA) : ∃ od, PySem.W.InstAt h x (PySem.W.instObj C dx) C (some od) ∧ ∀ name, PySem.W.lookIn name od = some (mA name) :=
  let ⟨od, ho, hl⟩ := lookIn_ns I.ns
  ⟨od, ⟨I.obj, rfl, rfl, ho⟩, hl⟩
section
variable {prog : Program} {w : World} {A : Around} {E : Value → Shared → Prop} {s : Shared} {K : PySem.W.Frag} {x dx C f : Addr} {mA : Str → Option Value} {name : Str} {v : Value}
theorem get_map {expr : Bool} {Q : Value → Shared → Prop} (X : K.In s.heap) (I : ObjM s.heap x dx C mA) (hg : PySem.W.plainGet K C name = true) (hh : PySem.W.hasDictIn K C = true)
    (ha : PySem.W.findIn K (.ref C) name = some none) (hv : mA name = some v) (hv' : PySem.W.handedIn v = true) (h : Q v { s with toks := s.toks + 1 }) :
    wpAny (model prog w) A (getAttr (.ref x) name expr) Q E s := by
  obtain ⟨od, J, hl⟩ := I.look
  exact PySem.W.get_value X J (PySem.W.plainGet_of hg).1 (PySem.W.findObj_own hh ha rfl (by rw [hl, hv])) hv' h
theorem get_meth {pl : Sem Bool} {Q : Value × List Value → Shared → Prop} (X : K.In s.heap) (I : ObjM s.heap x dx C mA) (hg : PySem.W.plainGet K C name = true)
    (hf : PySem.W.findIn K (.ref C) name = some (some (.ref f))) (ht : PySem.W.isFn K (.ref f) = true) (hv : mA name = none) (h : Q (.ref f, [.ref x]) s) :
    wpAny (model prog w) A (getMethod (.ref x) name pl) Q E s := by
  obtain ⟨od, J, hl⟩ := I.look
  exact PySem.W.method_fn X J (PySem.W.plainGet_of hg).1 (PySem.W.plainGet_of hg).2 hf (beq_iff_eq.mp ht) (by show (PySem.W.lookIn name od).map (·.isSome) = some false; rw [hl, hv]; rfl) h
theorem set_map {ns : List Str} {Q : Unit → Shared → Prop} (X : K.In s.heap) (I : ObjM s.heap x dx C mA)
    (hs : PySem.W.findIn K (.ref C) "__setattr__" = some (some (.builtin "object.__setattr__"))) (hp : PySem.W.plainOver K C = true) (ht : PySem.W.takerIn K C name = some none) (hh : PySem.W.hasDictIn K C = true)
    (hw : PySem.Within mA ns) (hsz : ns.length ≤ sizeLine)
    (h : ∀ h', ObjM h' x dx C (fun y => if y = name then some v else mA y) → Heap.SameBut dx s.heap h' → Q () { s with heap := h', toks := s.toks + 2 }) :
    wpAny (model prog w) A (setAttr (.ref x) name v) Q E s := by
  obtain ⟨od, J, hl⟩ := I.look
  refine PySem.W.set_plain X J hs (PySem.W.osa_open (s := { s with toks := s.toks + 1 }) (r := none) X J hp ht fun b => ?_)
  obtain ⟨cd, hc, hd'⟩ := PySem.W.any_some hh
  have hx : s.heap.get? x = some ⟨.ref C, some dx, .plain, #[]⟩ := I.obj
  refine wpAny_bind (wpAny_pure (wpAny_bind (wpAny_bind (wpAny_loadPart hx (wpAny_bind (PySem.W.Looks.here (s := { s with toks := s.toks + 1 }) (PySem.W.looks_clsIn X hc) ?_))))))
  rw [hd']
  refine wpAny_pure (a := some dx) (wpAny_bind (wpAny_pure (wpAny_bind ?_)))
  refine wpAny_nsSet1 (s := { s with toks := s.toks + 1 }) I.ns fun h' hn2 hs2 => ?_
  obtain ⟨oD, esD, epD, hoD, hdD, hcD⟩ := hn2.count (PySem.Within.cons name v hw)
  refine wpAny_bind (wpAny_lookBehind hoD (by rw [hdD]; exact pastItsLine_dict (Nat.le_trans hcD (by rw [List.length_cons]; omega))) ?_)
  exact wpAny_pure (h _ ⟨(hs2.2 _ (Ne.symm I.ne)).trans I.obj, hn2, I.ne⟩ hs2)
theorem make_map {R : Result → Shared → Prop} {vs : List Value} {kw : List (Str × Value)} (X : K.In s.heap) (hm : PySem.W.makesIn K C = true)
    (hi : PySem.W.findIn K (.ref C) "__init__" = some (some (.ref f))) (hf : PySem.W.typeIn K (.ref f) = some (.type "function"))
    (h : codeAny (model prog w) (A.under (.builtin "type.__call__" ⟨.ref C :: vs, kw⟩)) (.call (.ref f) ⟨.ref (s.heap.objs.size + 1) :: vs, kw⟩) (PySem.W.InitBack (s.heap.objs.size + 1) R)
      { s with heap := (s.heap.push PySem.W.emptyDict).push (PySem.W.instObj C s.heap.objs.size) }) :
    codeAny (model prog w) A (.call (.ref C) ⟨vs, kw⟩) R s := by
  obtain ⟨hh, g, d, t, os⟩ := s
  exact PySem.W.make_core (PySem.W.makes_of X hm) (PySem.W.looks_findIn X hi) (fun self => PySem.W.bind_fn X self hf) (.inl rfl) h
end


def putF (f : Str) (v : V) : List (Str × V) → List (Str × V)
  | [] => [(f, v)]
  | (g, x) :: r => if g = f then (g, v) :: r else (g, x) :: putF f v r
theorem lookup_putF (f g : Str) (v : V) : ∀ fs : List (Str × V), (putF f v fs).lookup g = if g = f then some v else fs.lookup g
  | [] => by
    show List.lookup g [(f, v)] = _
    by_cases h : g = f
    · have hb : (g == f) = true := beq_iff_eq.mpr h
      simp only [List.lookup, hb, if_pos h]
    · have hb : (g == f) = false := beq_eq_false_iff_ne.mpr h
      simp only [List.lookup, hb, if_neg h]
  | (k, x) :: r => by
    have ih := lookup_putF f g v r
    rw [show putF f v ((k, x) :: r) = (if k = f then (k, v) :: r else (k, x) :: putF f v r) from rfl]
    by_cases hk : k = f
    · rw [if_pos hk]
      by_cases h : g = k
      · have hb : (g == k) = true := beq_iff_eq.mpr h
        simp only [List.lookup, hb, if_pos (h.trans hk)]
      · have hb : (g == k) = false := beq_eq_false_iff_ne.mpr h
        simp only [List.lookup, hb, if_neg (fun e : g = f => h (e.trans hk.symm))]
    · rw [if_neg hk]
      by_cases h : g = k
      · have hb : (g == k) = true := beq_iff_eq.mpr h
        simp only [List.lookup, hb, if_neg (fun e : g = f => hk (h.symm.trans e))]
      · have hb : (g == k) = false := beq_eq_false_iff_ne.mpr h
        simp only [List.lookup, hb]
        exact ih
theorem keys_putF (f : Str) (v : V) : ∀ fs : List (Str × V), f ∈ (putF f v fs).map (·.1) ∧ ∀ g, g ∈ fs.map (·.1) → g ∈ (putF f v fs).map (·.1)
  | [] => ⟨by simp [putF], fun g h => by simp at h⟩
  | (k, x) :: r => by
    obtain ⟨i1, i2⟩ := keys_putF f v r
    rw [show putF f v ((k, x) :: r) = (if k = f then (k, v) :: r else (k, x) :: putF f v r) from rfl]
    by_cases hk : k = f
    · rw [if_pos hk]
      subst hk
      exact ⟨by simp, fun g h => by simpa using h⟩
    · rw [if_neg hk]
      refine ⟨?_, fun g h => ?_⟩
      · rw [List.map_cons]
        exact List.mem_cons_of_mem _ i1
      · rw [List.map_cons] at h ⊢
        rcases List.mem_cons.mp h with e | e
        · exact List.mem_cons.mpr (.inl e)
        · exact List.mem_cons_of_mem _ (i2 g e)
theorem length_putF (f : Str) (v : V) : ∀ fs : List (Str × V), (putF f v fs).length ≤ fs.length + 1
  | [] => by simp [putF]
  | (k, x) :: r => by
    have ih := length_putF f v r
    rw [show putF f v ((k, x) :: r) = (if k = f then (k, v) :: r else (k, x) :: putF f v r) from rfl]
    by_cases hk : k = f
    · rw [if_pos hk, List.length_cons, List.length_cons]; omega
    · rw [if_neg hk, List.length_cons, List.length_cons]; omega
theorem RelO.some_of {v : V} {o : Option Value} (r : RelO (some v) o) : ∃ u, o = some u ∧ RelV v u := by
  cases o with
  | none => exact (show False from r).elim
  | some u => exact ⟨u, rfl, r⟩
theorem RelO.none_of {o : Option Value} (r : RelO none o) : o = none := by
  cases o with
  | none => rfl
  | some u => exact (show False from r).elim
theorem handed_of {v : V} {u : Value} (r : RelV v u) : PySem.W.handedIn u = true := by
  cases v with
  | non => cases (show u = Value.none from r); rfl
  | bl b => cases (show u = Value.bool b from r); rfl
  | int i => obtain ⟨t, e⟩ := (show ∃ t, u = Value.int i t from r); cases e; rfl
  | str x => obtain ⟨t, e⟩ := (show ∃ t, u = Value.str x t from r); cases e; rfl
  | byt b => obtain ⟨t, e⟩ := (show ∃ t, u = Value.bytes b t from r); cases e; rfl
  | flt b => obtain ⟨t, e⟩ := (show ∃ t, u = Value.float b t from r); cases e; rfl
  | ref a => cases (show u = Value.ref a from r); rfl
  | ty n => cases (show u = Value.type n from r); rfl
section
variable {P : Program} {w : World} {H H' : Hp} {h h' : Heap} {a C dx : Addr} {fs fs' : List (Str × V)}
theorem ins_get (hok : HOk P w H h) (e : H a = some (.ins C dx fs)) : ∃ mA, ObjM h a dx C mA ∧ (∀ f, RelO (fs.lookup f) (mA f)) ∧ PySem.Within mA (fs.map (·.1)) ∧ fs.length ≤ 1000 ∧ H dx = some (.own a) := by
  obtain ⟨d, z, ne, ob, mA, n, r, q⟩ := (show ObjOk P w H h a (.ins C dx fs) from hok a _ e)
  exact ⟨mA, ⟨ob, n, ne⟩, r, q, z, d⟩
end


structure Cls (K : PySem.W.Frag) (C : Addr) : Prop where
  pg : PySem.W.plainGet K C Str.empty = true
  hd : PySem.W.hasDictIn K C = true
  po : PySem.W.plainOver K C = true
  sa : PySem.W.findIn K (.ref C) "__setattr__" = some (some (.builtin "object.__setattr__"))
theorem Cls.get {K : PySem.W.Frag} {C : Addr} (c : Cls K C) (f : Str) : PySem.W.plainGet K C f = true := c.pg
def NoAttr (K : PySem.W.Frag) (C : Addr) (f : Str) : Prop := PySem.W.findIn K (.ref C) f = some none
theorem NoAttr.taker {K : PySem.W.Frag} {C : Addr} {f : Str} (n : NoAttr K C f) : PySem.W.takerIn K C f = some none := by
  unfold PySem.W.takerIn
  rw [show PySem.W.findIn K (.ref C) f = some none from n]
  rfl
structure Con (K : PySem.W.Frag) (C : Addr) (f : Str) (v : V) (u : Value) : Prop where
  at_ : PySem.W.findIn K (.ref C) f = some (some u)
  rel : RelV v u
  get : PySem.W.specialIn K u "__get__" = some none
  cp : PySem.W.copiedNames.contains f = false
structure Meth (K : PySem.W.Frag) (C : Addr) (m : Str) (f : Addr) : Prop where
  at_ : PySem.W.findIn K (.ref C) m = some (some (.ref f))
  fn : PySem.W.isFn K (.ref f) = true
  kp : PySem.W.keepIn K (.ref f) = true
section
variable {X : Cx} {pins : List (Addr × Obj)} {σ : St} {H : Hp} {s : Shared} {a C dx : Addr} {fs : List (Str × V)} {f : Str} {v : V} {A : Around} {E : Value → Shared → Prop}
theorem getattr_ok {b : Bool} {Q : Value → Shared → Prop} (I : Inv X pins σ H s) (e : H a = some (.ins C dx fs)) (c : Cls X.K C) (n : NoAttr X.K C f) (l : fs.lookup f = some v)
    (h : ∀ u s', Inv X pins σ H s' → RelV v u → Q u s') : wpAny (model X.prog X.w) A (getAttr (.ref a) f b) Q E s := by
  obtain ⟨mA, O, r, _, _, _⟩ := ins_get I.hok e
  obtain ⟨u, hu, ru⟩ := RelO.some_of (v := v) (o := mA f) (by rw [← l]; exact r f)
  exact get_map I.kIn O (c.get f) c.hd n hu (handed_of ru) (h u _ (I.tok _) ru)
theorem getmeth_ok {m : Str} {g : Addr} {pl : Sem Bool} {Q : Value × List Value → Shared → Prop} (I : Inv X pins σ H s) (e : H a = some (.ins C dx fs)) (c : Cls X.K C) (k : Meth X.K C m g) (l : fs.lookup m = none)
    (h : Q (.ref g, [.ref a]) s) : wpAny (model X.prog X.w) A (getMethod (.ref a) m pl) Q E s := by
  obtain ⟨mA, O, r, _, _, _⟩ := ins_get I.hok e
  have hn : mA m = none := RelO.none_of (by rw [← l]; exact r m)
  exact get_meth I.kIn O (c.get m) k.at_ k.fn hn h
theorem setattr_ok {y : V} {u : Value} {Q : Unit → Shared → Prop} (I : Inv X pins σ H s) (e : H a = some (.ins C dx fs)) (c : Cls X.K C) (n : NoAttr X.K C f) (hl : fs.length < 1000) (ry : RelV y u)
    (h : ∀ s', Inv X pins σ (upd H a (.ins C dx (putF f y fs))) s' → Q () s') : wpAny (model X.prog X.w) A (setAttr (.ref a) f u) Q E s := by
  obtain ⟨mA, O, r, wi, _, ho⟩ := ins_get I.hok e
  have hz : (fs.map (·.1)).length ≤ sizeLine := by rw [List.length_map, sizeLine_eq]; omega
  refine set_map I.kIn O c.sa c.po n.taker c.hd wi hz fun h' O' sb => h _ ?_
  have hd : ∃ o, h'.get? dx = some o := let ⟨o, _, _, e', _⟩ := O'.ns; ⟨o, e'⟩
  refine I.write (x := a) (e := dx) (by rw [e]; exact True.intro) (.inr ho) (fun b q hb z => (sb.2 b hb).trans z) hd ?_
  refine ⟨by rw [upd_ne O.ne]; exact ho, ?_, O.ne, O'.obj, _, O'.ns, fun g => ?_, fun g hg => ?_⟩
  · have := length_putF f y fs; omega
  · show RelO ((putF f y fs).lookup g) (if g = f then some u else mA g)
    rw [lookup_putF]
    by_cases q : g = f
    · rw [if_pos q, if_pos q]; exact ry
    · rw [if_neg q, if_neg q]; exact r g
  · by_cases q : g = f
    · rw [q]; exact (keys_putF f y fs).1
    · refine (keys_putF f y fs).2 g (wi g fun z => hg ?_)
      show (if g = f then some u else mA g) = none
      rw [if_neg q]; exact z
theorem Inv.made (I : Inv X pins σ H s) : Inv X pins σ (upd (upd H s.heap.objs.size (.own (s.heap.objs.size + 1))) (s.heap.objs.size + 1) (.ins C s.heap.objs.size []))
    { s with heap := (s.heap.push PySem.W.emptyDict).push (PySem.W.instObj C s.heap.objs.size) } := by
  have e1 : (s.heap.push PySem.W.emptyDict).get? s.heap.objs.size = some PySem.W.emptyDict := Heap.get?_push_size s.heap rfl
  have e2 : ((s.heap.push PySem.W.emptyDict).push (PySem.W.instObj C s.heap.objs.size)).get? (s.heap.objs.size + 1) = some (PySem.W.instObj C s.heap.objs.size) := by
    have := Heap.get?_push_size (s.heap.push PySem.W.emptyDict) (o := PySem.W.instObj C s.heap.objs.size) rfl
    rwa [Heap.size_push] at this
  have e3 : (s.heap.push PySem.W.emptyDict).Ns s.heap.objs.size (fun _ => none) := ⟨PySem.W.emptyDict, #[], _, e1, rfl, (fun e he => absurd he (by simp)), fun _ => rfl⟩
  have I1 := I.laid (a := s.heap.objs.size) (o := .own (s.heap.objs.size + 1)) (h' := s.heap.push PySem.W.emptyDict) (t' := s.toks) (fun b u q => Heap.get?_push_of_some _ q) (Nat.le_refl _) ⟨_, e1⟩
  refine I1.laid (a := s.heap.objs.size + 1) (o := .ins C s.heap.objs.size []) (t' := s.toks) (fun b u q => Heap.get?_push_of_some _ q) (Nat.le_of_eq (Heap.size_push _ _)) ?_
  have ne : s.heap.objs.size ≠ s.heap.objs.size + 1 := Nat.ne_of_lt (Nat.lt_succ_self _)
  refine ⟨by rw [upd_ne ne, upd_same], Nat.zero_le _, ne, e2, fun _ => none, (Heap.Ns1.of_empty e3).at fun o q => Heap.get?_push_of_some _ q, fun _ => True.intro, fun y hy => absurd rfl hy⟩
theorem attr_of {prog : Program} {w : World} {env : Env} {e : Expr} {f : Str} {pos : Pos} {s : Shared} {Q : Value → Shared → Prop} (hb : attributeBase e f env (eval e env) = eval e env)
    (h : wpAny (model prog w) A (eval e env) (fun o s₁ => wpAny (model prog w) A (getAttr o f true) Q E s₁) E s) : wpAny (model prog w) A (eval (.Attribute e f pos) env) Q E s :=
  Attribute_any_ h (by rw [arm_eval_Attribute, hb])
end


def tFld (K : PySem.W.Frag) (ta : TE) (f : Str) : TE := fun σ H Q => ta σ H fun x H1 => ∃ a C dx fs v, x = .ref a ∧ H1 a = some (.ins C dx fs) ∧ Cls K C ∧ NoAttr K C f ∧ fs.lookup f = some v ∧ Q v H1
def sFld (K : PySem.W.Frag) (ta tv : TE) (f : Str) : TS := fun D σ H => tv σ H fun y H1 => ta σ H1 fun x H2 => ∃ a C dx fs, x = .ref a ∧ H2 a = some (.ins C dx fs) ∧ Cls K C ∧ NoAttr K C f ∧ fs.length < 1000 ∧
  D.nx σ (upd H2 a (.ins C dx (putF f y fs)))
def InOp (X : Cx) (op : Operator) (rd : V → V → Hp → VK → Prop) : Prop :=
  ∀ (pins : List (Addr × Obj)) (s : Shared) (σ : St) (H : Hp) (x y : V) (u v : Value) (Q : VK), Inv X pins σ H s → RelV x u → RelV y v → rd x y H Q → wpAny (model X.prog X.w) X.A (inplaceOp op u v) (EP X pins σ Q) X.xe s
def sFldAug (K : PySem.W.Frag) (ta tv : TE) (rd : V → V → Hp → VK → Prop) (f : Str) : TS := fun D σ H => ta σ H fun x H1 => ∃ a C dx fs v, x = .ref a ∧ H1 a = some (.ins C dx fs) ∧ Cls K C ∧ NoAttr K C f ∧ fs.lookup f = some v ∧
  tv σ H1 fun y H2 => rd v y H2 fun z H3 => ∃ dx' fs', H3 a = some (.ins C dx' fs') ∧ fs'.length < 1000 ∧ D.nx σ (upd H3 a (.ins C dx' (putF f z fs')))
section
variable {X : Cx} {o e value : Expr} {f : Str} {pos pos' tpos : Pos} {ta tv : TE}
theorem pe_fld (he : PE X e ta) (hb : attributeBase e f X.env (eval e X.env) = eval e X.env) : PE X (.Attribute e f pos) (tFld X.K ta f) := by
  intro pins s σ H Q I h
  refine attr_of hb (thn (he pins s σ H _ I h) fun u s1 ⟨x, H1, I1, rx, a, C, dx, fs, v, ex, ea, c, n, l, q⟩ => ?_)
  subst ex
  obtain rfl : u = Value.ref a := rx
  exact getattr_ok I1 ea c n l fun u' s2 I2 ru => ⟨v, H1, I2, ru, q⟩
theorem ps_fld (ha : PE X o ta) (hv : PE X value tv) (hs : swapsWith value (some (.Attribute o f pos')) pos.line X.env = pure false) : PS X (.Assign [.Attribute o f pos'] value pos) (sFld X.K ta tv f) := by
  intro pins s σ H D I h
  refine plainObj_wpAny_Assign_Attribute (thn (hv pins s σ H _ I h) fun u s1 ⟨y, H1, I1, ry, q⟩ => thn (ha pins s1 σ H1 _ I1 q) fun ov s2 ⟨x, H2, I2, rx, a, C, dx, fs, ex, ea, c, n, l, q2⟩ => ?_) hs
  subst ex
  obtain rfl : ov = Value.ref a := rx
  exact setattr_ok I2 ea c n l ry fun s3 I3 => ⟨σ, _, I3, q2⟩
theorem ps_fldaug {op : Operator} {rd : V → V → Hp → VK → Prop} (ha : PE X o ta) (hv : PE X value tv) (hop : InOp X op rd) : PS X (.AugAssign (.Attribute o f tpos) op value pos) (sFldAug X.K ta tv rd f) := by
  intro pins s σ H D I h
  refine wpAny_AugAssign_AttributeAny (thn (ha pins s σ H _ I h) fun ov s1 ⟨x, H1, I1, rx, a, C, dx, fs, v, ex, ea, c, n, l, q⟩ => ?_)
  subst ex
  obtain rfl : ov = Value.ref a := rx
  refine getattr_ok I1 ea c n l fun u s2 I2 ru => thn (hv pins s2 σ H1 _ I2 q) fun w3 s3 ⟨y, H2, I3, ry, q3⟩ => thn (hop pins s3 σ H2 v y u w3 _ I3 ru ry q3) fun w4 s4 ⟨z, H3, I4, rz, dx', fs', ea', l', q4⟩ => ?_
  exact setattr_ok I4 ea' c n l' rz fun s5 I5 => ⟨σ, _, I5, q4⟩
def rAdd : V → V → Hp → VK → Prop := fun x y H Q => ∃ i j, x = .int i ∧ y = .int j ∧ Q (.int (i + j)) H
theorem in_add : InOp X .Add rAdd := by
  rintro pins s σ H x y u v Q I rx ry ⟨i, j, rfl, rfl, q⟩
  obtain ⟨t, rfl⟩ := (show ∃ t, u = Value.int i t from rx)
  obtain ⟨t', rfl⟩ := (show ∃ t', v = Value.int j t' from ry)
  exact PyProof.Rows.iadd_int ⟨.int (i + j), H, I.tok _, ⟨_, rfl⟩, q⟩
theorem methcall_of {pl : Sem Bool} {m : Str} {apos : Pos} {args : List Expr} {pins : List (Addr × Obj)} {s : Shared} {σ : St} {H : Hp} {Q : Value → Shared → Prop} {te : TE} (he : PE X e te) (I : Inv X pins σ H s)
    (h : te σ H fun x H1 => ∃ a C dx fs g, x = .ref a ∧ H1 a = some (.ins C dx fs) ∧ Cls X.K C ∧ Meth X.K C m g ∧ fs.lookup m = none ∧
      ∀ s1, Inv X pins σ H1 s1 → wpAny (model X.prog X.w) X.A (callWith pos (.ref g) [.ref a] (backTo pos (starEach args X.env)) (backToKw pos (keywordEach [] X.env))) Q X.xe s1)
    (ht : eval (.Call (.Attribute e m apos) args [] pos) X.env = (do
      let ov ← eval e X.env
      standAt apos.atName
      let (f, first) ← holding [ov] (getMethod ov m pl)
      callWith pos f first (backTo pos (starEach args X.env)) (backToKw pos (keywordEach [] X.env)))) :
    wpAny (model X.prog X.w) X.A (eval (.Call (.Attribute e m apos) args [] pos) X.env) Q X.xe s := by
  refine PySem.W.methodCall_KW (pl := pl) (thn (he pins s σ H _ I h) fun u s1 ⟨x, H1, I1, rx, a, C, dx, fs, g, ex, ea, c, k, l, q⟩ => ?_) ht
  subst ex
  obtain rfl : u = Value.ref a := rx
  exact getmeth_ok I1 ea c k l (q s1 I1)
end


section
variable {X : Cx} {pins : List (Addr × Obj)} {σ : St} {H : Hp} {s : Shared} {A : Around} {E : Value → Shared → Prop} {Q : Value → Shared → Prop} {c : Value} {b : Bool}
inductive TyOf (K : PySem.W.Frag) (H : Hp) : V → Value → Prop where
  | non : TyOf K H .non (.type "NoneType")
  | bl (x : Bool) : TyOf K H (.bl x) (.type "bool")
  | int (i : Int) : TyOf K H (.int i) (.type "int")
  | str (x : Str) : TyOf K H (.str x) (.type "str")
  | flt (x : UInt64) : TyOf K H (.flt x) (.type "float")
  | lst {a : Addr} {xs : List V} (e : H a = some (.lst xs)) : TyOf K H (.ref a) (.type "list")
  | frz {a : Addr} {o : Obj} {xs : List V} (e : H a = some (.frz o (.lst xs))) : TyOf K H (.ref a) (.type "list")
  | tup {a : Addr} {xs : List V} (e : H a = some (.tup xs)) : TyOf K H (.ref a) (.type "tuple")
  | dK {a : Addr} {kvs : List (Key × V)} (e : H a = some (.dK kvs)) : TyOf K H (.ref a) (.type "dict")
  | dT {a : Addr} {kvs : List (List Key × V)} (e : H a = some (.dT kvs)) : TyOf K H (.ref a) (.type "dict")
  | ins {a C dx : Addr} {fs : List (Str × V)} (e : H a = some (.ins C dx fs)) (cl : Cls K C) (ha : PySem.W.findIn K (.ref C) "__class__" = some (some (.builtin "object.__class__")))
      (hn : PySem.W.specialIn K (.builtin "object.__class__") "__get__" = some (some (.builtin "getset_descriptor.__get__"))) (htk : PySem.W.takesIn K (.builtin "object.__class__") = some true)
      (hm : PySem.W.mroIn K C (.type "object") = some true) : TyOf K H (.ref a) (.ref C)
end
end L2

namespace L2
open PySem PySem.Spec PyProof.Rows

structure Room (k : Nat) (A : Around) : Prop where
  hd : A.handled = none
  dp : A.depth + 3 * k + 5 < recursionLimit
  un : A.units + 16 * k + 200 < cLine
theorem Room.mono {j k : Nat} {A : Around} (r : Room k A) (h : j ≤ k) : Room j A := ⟨r.hd, by have := r.dp; omega, by have := r.un; omega⟩
theorem Room.deeper {k : Nat} {A : Around} (r : Room (k + 1) A) (env : Env) : Room k (A.deeper env) :=
  ⟨r.hd, by have := r.dp; show A.depth + 1 + 3 * k + 5 < _; omega, by have := r.un; show A.units + 3 + 16 * k + 200 < _; omega⟩
theorem make_depth {A : Around} {C : Addr} {us : List Value} {kw : List (Str × Value)} : (A.under (.builtin "type.__call__" ⟨.ref C :: us, kw⟩)).depth = A.depth + 1 := by
  first | rfl | simp [Around.under, Code.weight, Code.isCreation, Code.isGuard, Code.isCaller, Code.frames, Code.isFrame, guardIds]
theorem make_units {A : Around} {C : Addr} {us : List Value} {kw : List (Str × Value)} : (A.under (.builtin "type.__call__" ⟨.ref C :: us, kw⟩)).units = A.units + 1 := by
  first | rfl | simp [Around.under, Code.cUnits, Code.frames, Code.isFrame]
theorem Room.make {k : Nat} {A : Around} (r : Room (k + 1) A) (C : Addr) (us : List Value) (kw : List (Str × Value)) : Room k (A.under (.builtin "type.__call__" ⟨.ref C :: us, kw⟩)) :=
  ⟨r.hd, by have := r.dp; rw [make_depth]; omega, by have := r.un; rw [make_units]; omega⟩
theorem Room.depth {k : Nat} {A : Around} (r : Room k A) : A.depth < recursionLimit := by have := r.dp; omega
theorem Room.units {k : Nat} {A : Around} (r : Room k A) : A.units + 64 < cLine := by have := r.un; omega

def tNil : TA := fun _ H Q => Q [] H
def tCons (ta : TE) (tr : TA) : TA := fun σ H Q => ta σ H fun x H1 => tr σ H1 fun xs H2 => Q (x :: xs) H2
section
variable {X : Cx} {e : Expr} {es : List Expr} {te : TE} {t : TA} {pos : Pos}
theorem pa_nil : PA X [] tNil := fun _ _ _ _ H Q I h => Calls.spliced_nil ⟨[], H, I, .nil, h⟩
theorem pa_cons (ha : PE X e te) (hr : PA X es t) (hs : starEach (e :: es) X.env = (false, eval e X.env) :: starEach es X.env := by rfl) : PA X (e :: es) (tCons te t) := by
  intro pos pins s σ H Q I h
  rw [hs]
  show wpAny _ _ (spliced ((false, eval e X.env) :: backTo pos (starEach es X.env))) _ _ s
  refine Calls.spliced_cons (thn (ha pins s σ H _ I h) fun u s1 ⟨x, H1, I1, r1, q1⟩ => ?_)
  exact thn (hr pos pins s1 σ H1 _ I1 q1) fun us s2 ⟨xs, H2, I2, r2, q2⟩ => ⟨x :: xs, H2, I2, .cons r1 r2, q2⟩
def tLst (t : TA) : TE := fun σ H Q => t σ H fun xs H1 => xs.length ≤ sizeLine ∧ ∀ p, H1 p = none → Q (.ref p) (upd H1 p (.lst xs))
theorem pe_lst (h : PA X es t) : PE X (.List es pos) (tLst t) := by
  intro pins s σ H Q I hq
  refine wpAny_List_spliced (thn (h pos pins s σ H _ I hq) fun us s1 ⟨xs, H1, I1, r, z, q⟩ => ⟨by rw [← r.length]; exact z, ?_⟩)
  have hf : H1 s1.heap.objs.size = none := I1.hok.fresh (Nat.le_refl _)
  refine ⟨.ref s1.heap.objs.size, upd H1 s1.heap.objs.size (.lst xs), I1.laid (t' := s1.toks) (fun b u e => Heap.get?_push_of_some _ e) (Nat.le_refl _) ?_, rfl, q _ hf⟩
  exact ⟨z, us, 0, r, Heap.get?_push_size _ rfl⟩
end


abbrev Sp := List V → Hp → VK → XK → Prop
abbrev CXT := List Env → Hp → Shared → XK → Value → Shared → Prop
structure Env0 (P : Program) (w : World) (K : PySem.W.Frag) (mg : Str → Option Value) (base : Heap) (A : Around) (outer : List Env) (s : Shared) (H : Hp) : Prop where
  frames : A.frames = some outer
  mod : Mod K mg base
  bs : ∀ b o, base.get? b = some o → s.heap.get? b = some o ∧ H b = none
  bsz : base.objs.size ≤ s.heap.objs.size
  funs : s.heap.FunFrames base outer
  frf : ∀ b ∈ frs outer, H b = none
  hok : HOk P w H s.heap
  bare : AllBare s.gens
def CE (outer : List Env) (P : Program) (w : World) (H : Hp) (s : Shared) (Q : VK) (u : Value) (s' : Shared) : Prop :=
  ∃ v H', s'.os = s.os ∧ AllBare s'.gens ∧ Un (frs outer) [] H H' s.heap s'.heap ∧ HOk P w H' s'.heap ∧ RelV v u ∧ Q v H'
def CR (CX : CXT) (outer : List Env) (P : Program) (w : World) (H : Hp) (s : Shared) (Q : VK) (E : XK) (r : Result) (s' : Shared) : Prop :=
  match r with
  | .ok (.ret u) => CE outer P w H s Q u s'
  | .ok _ => False
  | .error e => CX outer H s E e s'
structure FnOk (P : Program) (w : World) (K : PySem.W.Frag) (mg : Str → Option Value) (base : Heap) (CX : CXT) (k : Nat) (f : Addr) (fd : FuncData) (ps : List Str) (sp : Sp) : Prop where
  len : ∀ vs H Q E, sp vs H Q E → vs.length = ps.length
  run : ∀ (A : Around) (outer : List Env) (s : Shared) (H : Hp) (args : Args) (us : List Value) (vs : List V) (Q : VK) (E : XK), Room k A → Env0 P w K mg base A outer s H → BindsTo s fd args (ps.zip us) → Vals vs us → sp vs H Q E →
    codeAny (model P w) A (.call (.ref f) args) (CR CX outer P w H s Q E) s
theorem FnOk.imp {P : Program} {w : World} {K : PySem.W.Frag} {mg : Str → Option Value} {base : Heap} {CX : CXT} {k : Nat} {f : Addr} {fd : FuncData} {ps : List Str} {sp sp' : Sp} (F : FnOk P w K mg base CX k f fd ps sp)
    (h : ∀ vs H Q E, sp' vs H Q E → sp vs H Q E) : FnOk P w K mg base CX k f fd ps sp' :=
  ⟨fun vs H Q E q => F.len vs H Q E (h _ _ _ _ q), fun A outer s H args us vs Q E hr he hb hv hs => F.run A outer s H args us vs Q E hr he hb hv (h _ _ _ _ hs)⟩
theorem Env0.make {P : Program} {w : World} {K : PySem.W.Frag} {mg : Str → Option Value} {base : Heap} {A : Around} {outer : List Env} {s : Shared} {H : Hp} (e : Env0 P w K mg base A outer s H) (C : Addr) (us : List Value) (kw : List (Str × Value)) :
    Env0 P w K mg base (A.under (.builtin "type.__call__" ⟨.ref C :: us, kw⟩)) outer s H := ⟨by first | exact e.frames | (simpa [Around.under, Code.envs, Code.isFrame, pushEnvs] using e.frames), e.mod, e.bs, e.bsz, e.funs, e.frf, e.hok, e.bare⟩
section
variable {X : Cx} {pins : List (Addr × Obj)} {σ : St} {H : Hp} {s s' : Shared}
theorem Inv.env0 (I : Inv X pins σ H s) : Env0 X.prog X.w X.K X.mg X.base X.A X.stack s H :=
  ⟨I.ok.frames, I.ok.mod, I.bs, Nat.le_trans I.ok.bsz I.sz, I.stack, I.stkFree, I.hok, I.bare⟩
theorem Inv.after {Q : VK} {u : Value} (I : Inv X pins σ H s) (h : CE X.stack X.prog X.w H s Q u s') : EP X pins σ Q u s' := by
  obtain ⟨v, H', os, bare, un, hok, r, q⟩ := h
  obtain ⟨hh, g, d, t, os'⟩ := s'
  obtain rfl : os' = s.os := os
  exact ⟨v, H', I.call (h' := hh) (g' := g) (d' := d) (t' := t) (ch := []) un hok bare (fun b z => absurd z (by simp)), r, q⟩
end


def tCall (sp : Sp) (dvs : List V) (E : XK) (t : TA) : TE := fun σ H Q => t σ H fun vs H1 => sp (vs ++ dvs) H1 Q E
def tMeth (C : Addr) (m : Str) (sp : Sp) (dvs : List V) (E : XK) (ta : TE) (t : TA) : TE := fun σ H Q => ta σ H fun x H1 => ∃ a dx fs, x = .ref a ∧ H1 a = some (.ins C dx fs) ∧ fs.lookup m = none ∧
  t σ H1 fun vs H2 => sp (x :: (vs ++ dvs)) H2 Q E
def tMake (C : Addr) (sp : Sp) (dvs : List V) (E : XK) (t : TA) : TE := fun σ H Q => t σ H fun vs H1 => ∀ x dx, H1 x = none → H1 dx = none → dx ≠ x →
  sp (.ref x :: (vs ++ dvs)) (upd (upd H1 dx (.own x)) x (.ins C dx [])) (fun v H2 => v = .non ∧ Q (.ref x) H2) E
def Binds (K : PySem.W.Frag) (fd : FuncData) (ps : List Str) (ds : List Value) : Prop :=
  ∀ (s : Shared) (us : List Value), K.In s.heap → (us ++ ds).length = ps.length → BindsTo s fd ⟨us, []⟩ (ps.zip (us ++ ds))
theorem Binds.all {K : PySem.W.Frag} {fd : FuncData} {ps : List Str} (h : ∀ us : List Value, us.length = ps.length → bindArgs fd ⟨us, []⟩ = pure (ps.zip us)) : Binds K fd ps [] := fun s us _ hl => by
  rw [List.append_nil] at hl ⊢
  exact .of_eq (h us hl)
def Passes (CX : CXT) (X : Cx) (E : XK) : Prop := ∀ (pins : List (Addr × Obj)) (σ : St) (H : Hp) (s : Shared) (e : Value) (s' : Shared), Inv X pins σ H s → CX X.stack H s E e s' → X.xe e s'
section
variable {X : Cx} {CX : CXT} {k : Nat} {f C : Addr} {fd : FuncData} {ps : List Str} {sp : Sp} {dvs : List V} {ds : List Value} {E : XK} {x m : Str} {p pos apos : Pos} {e o : Expr} {es : List Expr} {ta : TE} {t : TA}
theorem run_fn {pins : List (Addr × Obj)} {σ : St} {H : Hp} {s : Shared} {Q : VK} {us : List Value} {vs : List V} (F : FnOk X.prog X.w X.K X.mg X.base CX k f fd ps sp) (hr : Room k X.A) (hb : Binds X.K fd ps ds) (hd : Vals dvs ds) (hx : Passes CX X E)
    (I : Inv X pins σ H s) (r : Vals vs us) (h : sp (vs ++ dvs) H Q E) : wpAny (model X.prog X.w) X.A (call (.ref f) us) (EP X pins σ Q) X.xe s := by
  have r2 : Vals (vs ++ dvs) (us ++ ds) := r.append hd
  have hl : (us ++ ds).length = ps.length := by rw [← r2.length]; exact F.len _ _ _ _ h
  refine wpAny_call (codeAny_mono (F.run X.A X.stack s H ⟨us, []⟩ (us ++ ds) (vs ++ dvs) Q E hr I.env0 (hb s us I.kIn hl) r2 h) fun r s' hq => ?_)
  cases r with
  | error e => exact hx pins σ H s e s' I hq
  | ok fl =>
    cases fl with
    | ret u => exact I.after hq
    | next => exact False.elim hq
    | brk => exact False.elim hq
    | cont => exact False.elim hq
theorem pe_call (F : FnOk X.prog X.w X.K X.mg X.base CX k f fd ps sp) (hr : Room k X.A) (hg : Gl X x) (hm : X.mg x = some (.ref f)) (hk : PySem.W.keepIn X.K (.ref f) = true) (hb : Binds X.K fd ps ds) (hd : Vals dvs ds) (hx : Passes CX X E)
    (ha : PA X (e :: es) t) (hdb : (x == ("__debug__" : Str)) = false := by decide) (he : starEach (e :: es) X.env = (false, eval e X.env) :: starEach es X.env := by rfl) (hpl : (backTo pos (starEach es X.env)).any (·.1) = false := by rfl) :
    PE X (.Call (.Name x p) (e :: es) [] pos) (tCall sp dvs E t) := by
  intro pins s σ H Q I h
  refine wpAny_Call_Name_kw (ld_glob I hg hm ?_ hdb)
  refine PySem.W.callWith_K (h₀ := X.base) I.ok.mod.kin hk (thn (ha pos pins s σ H _ I h) fun us s1 ⟨vs, H1, I1, r, q⟩ => ⟨I1.kIn, ?_⟩) he hpl
  exact run_fn F hr hb hd hx I1 r q
theorem pe_meth {pl : Sem Bool} (he : PE X o ta) (c : Cls X.K C) (hm : Meth X.K C m f) (F : FnOk X.prog X.w X.K X.mg X.base CX k f fd ps sp) (hr : Room k X.A) (hb : Binds X.K fd ps ds) (hd : Vals dvs ds) (hx : Passes CX X E) (ha : PA X (e :: es) t)
    (hst : starEach (e :: es) X.env = (false, eval e X.env) :: starEach es X.env := by rfl) (hpl : (backTo pos (starEach es X.env)).any (·.1) = false := by rfl)
    (ht : eval (.Call (.Attribute o m apos) (e :: es) [] pos) X.env = (do
      let ov ← eval o X.env
      standAt apos.atName
      let (f, first) ← holding [ov] (getMethod ov m pl)
      callWith pos f first (backTo pos (starEach (e :: es) X.env)) (backToKw pos (keywordEach [] X.env))) := by rfl) :
    PE X (.Call (.Attribute o m apos) (e :: es) [] pos) (tMeth C m sp dvs E ta t) := by
  intro pins s σ H Q I h
  refine PySem.W.methodCall_KW (pl := pl) (thn (he pins s σ H _ I h) fun u s1 ⟨x, H1, I1, rx, a, dx, fs, ex, ea, l, q⟩ => ?_) ht
  subst ex
  obtain rfl : u = Value.ref a := rx
  refine getmeth_ok I1 ea c hm l ?_
  refine PySem.W.callWith_K (first := [.ref a]) (h₀ := X.base) I.ok.mod.kin hm.kp (thn (ha pos pins s1 σ H1 _ I1 q) fun us s2 ⟨vs, H2, I2, r, q2⟩ => ⟨I2.kIn, ?_⟩) hst hpl
  exact run_fn (us := .ref a :: us) (vs := .ref a :: vs) F hr hb hd hx I2 (.cons rfl r) q2
theorem pe_meth0 {pl : Sem Bool} (he : PE X o ta) (c : Cls X.K C) (hm : Meth X.K C m f) (F : FnOk X.prog X.w X.K X.mg X.base CX k f fd ps sp) (hr : Room k X.A) (hb : Binds X.K fd ps ds) (hd : Vals dvs ds) (hx : Passes CX X E)
    (ht : eval (.Call (.Attribute o m apos) [] [] pos) X.env = (do
      let ov ← eval o X.env
      standAt apos.atName
      let (f, first) ← holding [ov] (getMethod ov m pl)
      callWith pos f first (backTo pos (starEach [] X.env)) (backToKw pos (keywordEach [] X.env))) := by rfl) :
    PE X (.Call (.Attribute o m apos) [] [] pos) (tMeth C m sp dvs E ta tNil) := by
  intro pins s σ H Q I h
  refine PySem.W.methodCall_KW (pl := pl) (thn (he pins s σ H _ I h) fun u s1 ⟨x, H1, I1, rx, a, dx, fs, ex, ea, l, q⟩ => ?_) ht
  subst ex
  obtain rfl : u = Value.ref a := rx
  refine getmeth_ok I1 ea c hm l ?_
  exact PySem.W.callWith_K0 (first := [.ref a]) I1.kIn hm.kp (run_fn (us := [.ref a]) (vs := [.ref a]) F hr hb hd hx I1 (.cons rfl .nil) q)
structure Mk (K : PySem.W.Frag) (C f : Addr) : Prop where
  makes : PySem.W.makesIn K C = true
  init : PySem.W.findIn K (.ref C) "__init__" = some (some (.ref f))
  fn : PySem.W.isFn K (.ref f) = true
  kp : PySem.W.keepIn K (.ref C) = true
theorem run_make {pins : List (Addr × Obj)} {σ : St} {H : Hp} {s : Shared} {Q : VK} {us : List Value} {vs : List V} (M : Mk X.K C f) (F : FnOk X.prog X.w X.K X.mg X.base CX k f fd ps sp) (hr : Room (k + 1) X.A) (hb : Binds X.K fd ps ds) (hd : Vals dvs ds)
    (hx : Passes CX X E) (I : Inv X pins σ H s) (r : Vals vs us)
    (h : ∀ x dx, H x = none → H dx = none → dx ≠ x → sp (.ref x :: (vs ++ dvs)) (upd (upd H dx (.own x)) x (.ins C dx [])) (fun v H2 => v = .non ∧ Q (.ref x) H2) E) :
    wpAny (model X.prog X.w) X.A (call (.ref C) us) (EP X pins σ Q) X.xe s := by
  have hq := h (s.heap.objs.size + 1) s.heap.objs.size (I.hok.fresh (Nat.le_succ _)) (I.hok.fresh (Nat.le_refl _)) (Nat.ne_of_lt (Nat.lt_succ_self _))
  have I2 := Inv.made (C := C) I
  have r2 : Vals (V.ref (s.heap.objs.size + 1) :: (vs ++ dvs)) (Value.ref (s.heap.objs.size + 1) :: (us ++ ds)) := .cons rfl (r.append hd)
  have hl : (Value.ref (s.heap.objs.size + 1) :: us ++ ds).length = ps.length := by
    have e := r2.length
    rw [F.len _ _ _ _ hq] at e
    exact e.symm
  refine wpAny_call (make_map (f := f) I.kIn M.makes M.init (beq_iff_eq.mp M.fn) (codeAny_mono (F.run _ X.stack _ _ ⟨Value.ref (s.heap.objs.size + 1) :: us, []⟩ (Value.ref (s.heap.objs.size + 1) :: (us ++ ds)) _ _ E (hr.make C us [])
    (I2.env0.make C us []) (hb _ (Value.ref (s.heap.objs.size + 1) :: us) I2.kIn hl) r2 hq) fun r s' hq' => ?_))
  cases r with
  | error e => exact hx pins σ _ _ e s' I2 hq'
  | ok fl =>
    cases fl with
    | ret u =>
      obtain ⟨v, H', I3, rv, ev, q3⟩ := I2.after hq'
      subst ev
      exact ⟨rv, ⟨V.ref (s.heap.objs.size + 1), H', I3, rfl, q3⟩⟩
    | next => exact False.elim hq'
    | brk => exact False.elim hq'
    | cont => exact False.elim hq'
theorem pe_make (M : Mk X.K C f) (F : FnOk X.prog X.w X.K X.mg X.base CX k f fd ps sp) (hr : Room (k + 1) X.A) (hg : Gl X x) (hm : X.mg x = some (.ref C)) (hb : Binds X.K fd ps ds) (hd : Vals dvs ds) (hx : Passes CX X E)
    (ha : PA X (e :: es) t) (hdb : (x == ("__debug__" : Str)) = false := by decide) (he : starEach (e :: es) X.env = (false, eval e X.env) :: starEach es X.env := by rfl) (hpl : (backTo pos (starEach es X.env)).any (·.1) = false := by rfl) :
    PE X (.Call (.Name x p) (e :: es) [] pos) (tMake C sp dvs E t) := by
  intro pins s σ H Q I h
  refine wpAny_Call_Name_kw (ld_glob I hg hm ?_ hdb)
  refine PySem.W.callWith_K (h₀ := X.base) I.ok.mod.kin M.kp (thn (ha pos pins s σ H _ I h) fun us s1 ⟨vs, H1, I1, r, q⟩ => ⟨I1.kIn, ?_⟩) he hpl
  exact run_make M F hr hb hd hx I1 r q
theorem pe_make0 (M : Mk X.K C f) (F : FnOk X.prog X.w X.K X.mg X.base CX k f fd ps sp) (hr : Room (k + 1) X.A) (hg : Gl X x) (hm : X.mg x = some (.ref C)) (hb : Binds X.K fd ps ds) (hd : Vals dvs ds) (hx : Passes CX X E)
    (hdb : (x == ("__debug__" : Str)) = false := by decide) : PE X (.Call (.Name x p) [] [] pos) (tMake C sp dvs E tNil) := by
  intro pins s σ H Q I h
  refine wpAny_Call_Name_kw (ld_glob I hg hm ?_ hdb)
  exact PySem.W.callWith_K0 I.kIn M.kp (run_make (us := []) M F hr hb hd hx I .nil h)
end


section
variable {X : Cx} {CX : CXT} {k : Nat} {f C : Addr} {fd : FuncData} {ps ks : List Str} {sp : Sp} {E : XK} {x m : Str} {p pos apos kpos : Pos} {e o : Expr} {es : List Expr} {kws : List Keyword} {te ta : TE} {t tk : TA} {nm : Option Str}
structure KBinds (K : PySem.W.Frag) (fd : FuncData) (ps ks : List Str) (g : List Value → List Value → List Value) (gV : List V → List V → List V) : Prop where
  to : ∀ (s : Shared) (us ws : List Value), K.In s.heap → (g us ws).length = ps.length → BindsTo s fd ⟨us, ks.zip ws⟩ (ps.zip (g us ws))
  rel : ∀ {vs : List V} {us : List Value} {zs : List V} {ws : List Value}, Vals vs us → Vals zs ws → Vals (gV vs zs) (g us ws)
variable {g : List Value → List Value → List Value} {gV : List V → List V → List V}
end


structure FnScope (N P : List Str) (sc : Scope) : Prop where
  kind : sc.kind = .function
  co : sc.isCoroutine = false
  gen : sc.isGenerator = false
  nd : N.Nodup
  pre : N.take P.length = P
  par : ∀ x ∈ P, sc.names.lookup x = some .local ∨ sc.names.lookup x = some .cell
  nofree : ∀ y ∈ sc.names, y.2 ≠ .free
theorem bindL_out {kindOf : Str → Option NameKind} {x : Str} : ∀ {binds : List (Str × Value)} {m : Str → Option Value}, (∀ v, (x, v) ∉ binds) → bindL kindOf binds m x = m x
  | [], _, _ => rfl
  | (n, v) :: r, m, h => by
    unfold bindL
    rw [bindL_out fun w hw => h w (List.mem_cons_of_mem _ hw)]
    split
    · have : x ≠ n := by rintro rfl; exact h v List.mem_cons_self
      simp [this]
    · rfl
theorem bindC_out {kindOf : Str → Option NameKind} {x : Str} : ∀ {binds : List (Str × Value)} {m : Str → Option Value}, (∀ v, (x, v) ∉ binds) → bindC kindOf binds m x = m x
  | [], _, _ => rfl
  | (n, v) :: r, m, h => by
    unfold bindC
    rw [bindC_out fun w hw => h w (List.mem_cons_of_mem _ hw)]
    split
    · rfl
    · have : x ≠ n := by rintro rfl; exact h v List.mem_cons_self
      simp [this]
theorem bindL_get {kindOf : Str → Option NameKind} {x : Str} {v : Value} : ∀ {P : List Str} {vs : List Value} {i : Nat} {m : Str → Option Value}, P.Nodup → P[i]? = some x → vs[i]? = some v → kindOf x = some .local →
    bindL kindOf (P.zip vs) m x = some v
  | [], _, _, _, _, h, _, _ => by simp at h
  | _ :: _, [], _, _, _, _, h, _ => by simp at h
  | p :: P, w :: vs, 0, m, nd, h1, h2, hk => by
    simp at h1 h2; subst h1; subst h2
    show bindL kindOf ((p, w) :: P.zip vs) m p = _
    unfold bindL
    rw [bindL_out fun v hv => (List.nodup_cons.mp nd).1 (List.of_mem_zip hv).1, if_pos hk]
    simp
  | p :: P, w :: vs, i + 1, m, nd, h1, h2, hk => by
    show bindL kindOf ((p, w) :: P.zip vs) m x = _
    unfold bindL
    exact bindL_get (i := i) (List.nodup_cons.mp nd).2 (by simpa using h1) (by simpa using h2) hk
theorem bindC_get {kindOf : Str → Option NameKind} {x : Str} {v : Value} : ∀ {P : List Str} {vs : List Value} {i : Nat} {m : Str → Option Value}, P.Nodup → P[i]? = some x → vs[i]? = some v → kindOf x ≠ some .local →
    bindC kindOf (P.zip vs) m x = some v
  | [], _, _, _, _, h, _, _ => by simp at h
  | _ :: _, [], _, _, _, _, h, _ => by simp at h
  | p :: P, w :: vs, 0, m, nd, h1, h2, hk => by
    simp at h1 h2; subst h1; subst h2
    show bindC kindOf ((p, w) :: P.zip vs) m p = _
    unfold bindC
    rw [bindC_out fun v hv => (List.nodup_cons.mp nd).1 (List.of_mem_zip hv).1, if_neg hk]
    simp
  | p :: P, w :: vs, i + 1, m, nd, h1, h2, hk => by
    show bindC kindOf ((p, w) :: P.zip vs) m x = _
    unfold bindC
    exact bindC_get (i := i) (List.nodup_cons.mp nd).2 (by simpa using h1) (by simpa using h2) hk
def start (N : List Str) (vs : List V) : St := vs.map some ++ List.replicate (N.length - vs.length) none
def cxOf (CX : CXT) (P : Program) (w : World) (K : PySem.W.Frag) (mg : Str → Option Value) (base : Heap) (N : List Str) (qual : Str) (scope : Scope) (f : Addr) (cd : Value) (A : Around) (outer : List Env) (s : Shared) (H : Hp) (E : XK) : Cx where
  prog := P
  w := w
  K := K
  mg := mg
  base := base
  A := A.deeper (envOfC qual scope s.heap.objs.size f cd)
  N := N
  s_0 := s
  H_0 := H
  env := envOfC qual scope s.heap.objs.size f cd
  outer := outer
  stack := envOfC qual scope s.heap.objs.size f cd :: outer
  ex := []
  calm := true
  fn := fun _ => true
  pn := []
  xe := fun e s' => wpAny (model P w) (A.deeper (envOfC qual scope s.heap.objs.size f cd)) (leaving (envOfC qual scope s.heap.objs.size f cd) e) (fun _ s'' => CX outer H s E e s'') (fun e' s'' => CX outer H s E e' s'') s'
theorem cell_has {sc : Scope} {n : Nat} {x : Str} (h : sc.names.lookup x = some .cell) : ∃ c, (cellsFrom n sc.names []).lookup x = some c := by
  have q := PySem.W.cellsFrom_some sc.names n [] (.inl h)
  exact Option.isSome_iff_exists.mp q
theorem inv_start {CX : CXT} {P : Program} {w : World} {K : PySem.W.Frag} {mg : Str → Option Value} {base : Heap} {N ps : List Str} {qual : Str} {scope : Scope} {f : Addr} {cd : Value} {A : Around} {outer : List Env} {s s1 : Shared} {H : Hp} {E : XK} {us : List Value} {vs : List V}
    (S : FnScope N ps scope) (hd : A.handled = none) (e0 : Env0 P w K mg base A outer s H) (hl : vs.length = ps.length) (r : Vals vs us)
    (x : InCallC s s.heap.objs.size (bindL (envOfC qual scope s.heap.objs.size f cd).kindOf (ps.zip us) fun _ => none) (cellsFrom (s.heap.objs.size + 1) scope.names []) (bindC (envOfC qual scope s.heap.objs.size f cd).kindOf (ps.zip us) fun _ => none) s1) :
    Inv (cxOf CX P w K mg base N qual scope f cd A outer s H E) [] (start N vs) H s1 := by
  have hpl : ps.length ≤ N.length := by have := congrArg List.length S.pre; rw [List.length_take] at this; omega
  obtain ⟨h1, tk, rfl, hk⟩ := x.done
  have noA : ∀ b : Addr, b ∉ (cxOf CX P w K mg base N qual scope f cd A outer s H E).ex := fun b z => absurd (show b ∈ ([] : List Addr) from z) (by simp)
  refine ⟨⟨e0.mod, S.kind, rfl, rfl, Nat.le_refl _, fun y z c h1 h2 => ?_, fun y hy => ?_, fun y c _ h => ?_, fun _ => hd, Around.frames_deeper e0.frames, .inr ⟨rfl, rfl⟩, fun b z => absurd z (noA b), e0.bs, e0.bsz, fun b _ _ => noA b, fun b z => absurd z (noA b), e0.funs, e0.frf⟩,
    rfl, e0.bare, Un.kept hk, ⟨_, x.toInCall.ns, fun i y v h1 h2 h3 => ?_⟩, fun y c h => ⟨_, x.cell y c h⟩, e0.hok.fresh (Nat.le_refl _), fun y c h => ?_, fun p hp => absurd (show p ∈ ([] : List (Addr × Obj)) from hp) (by simp), e0.hok.kept hk, ?_⟩
  · exact name_of_addr x.apart (PySem.mem_of_lookup h1) (PySem.mem_of_lookup h2)
  · have hy : scope.names.lookup y = some .cell ∨ scope.names.lookup y = some .free := hy
    rcases hy with hy | hy
    · exact cell_has hy
    · exact absurd rfl (S.nofree _ (PySem.mem_of_lookup hy))
  · exact Nat.le_of_lt (x.above y c (PySem.mem_of_lookup h))
  · have hi : i < vs.length := by
      unfold start at h2
      by_cases hi : i < vs.length
      · exact hi
      · rw [List.getElem?_append_right (by simpa using hi)] at h2
        rw [List.getElem?_replicate] at h2
        split at h2 <;> cases h2
    have ha : vs[i]? = some v := by
      unfold start at h2
      rw [List.getElem?_append_left (by simpa using hi), List.getElem?_map] at h2
      cases e : vs[i]? with
      | none => rw [e] at h2; cases h2
      | some a => rw [e] at h2; cases h2; rfl
    obtain ⟨u, hu, rv⟩ := r.get ha
    have hp : ps[i]? = some y := by
      rw [← S.pre, List.getElem?_take_of_lt (by omega)]; exact h1
    have ndP : ps.Nodup := by rw [← S.pre]; exact S.nd.sublist (List.take_sublist _ _)
    refine ⟨u, rv, ?_⟩
    rcases S.par y (List.mem_of_getElem? hp) with k | k
    · exact .inl ⟨k, bindL_get ndP hp hu k⟩
    · obtain ⟨c, e⟩ := cell_has (n := s.heap.objs.size + 1) k
      refine .inr ⟨.inl k, c, e, ?_⟩
      have q := x.cell y c e
      rw [bindC_get ndP hp hu (by show scope.names.lookup y ≠ _; rw [k]; decide)] at q
      exact q
  · exact e0.hok.fresh (Nat.le_of_lt (x.above y c (PySem.mem_of_lookup h)))
  · unfold start
    show _ = N.length
    rw [List.length_append, List.length_map, List.length_replicate]
    omega
theorem fn_of {CX : CXT} {P : Program} {w : World} {K : PySem.W.Frag} {mg : Str → Option Value} {base : Heap} {k : Nat} {f : Addr} {name qual : Str} {params : Arguments} {body : List Stmt} {scope : Scope} {dV kV doc pm cdv ct oc : Value} {an od : Option Addr}
    {osl : Array (Option Value)} {N ps : List Str} {sp : Sp} (lk : K.lookup f = some ⟨oc, od, .func (PySem.W.fnOf name qual params body scope dV kV doc pm an cdv ct), osl⟩) (hcd : PySem.W.codeIn K cdv qual = true) (S : FnScope N ps scope)
    (len : ∀ vs H Q E, sp vs H Q E → vs.length = ps.length)
    (hbody : ∀ (A : Around) (outer : List Env) (s : Shared) (H : Hp) (vs : List V) (Q : VK) (E : XK), Room k (A.deeper (envOfC qual scope s.heap.objs.size f cdv)) → sp vs H Q E →
      ∃ t, PSs (cxOf CX P w K mg base N qual scope f cdv A outer s H E) body t ∧ t { nx := fun _ H' => Q .non H', rt := Q } (start N vs) H) :
    FnOk P w K mg base CX (k + 1) f (PySem.W.fnOf name qual params body scope dV kV doc pm an cdv ct) ps sp := by
  refine ⟨len, fun A outer s H args us vs Q E hr e0 hb r hsp => ?_⟩
  have hl := len _ _ _ _ hsp
  have KX : K.In s.heap := e0.mod.kin.keeps fun b o e => (e0.bs b o e).1
  have lim : s.heap.NoLimit := e0.mod.nolimit.keeps fun b o e => (e0.bs b o e).1
  have hkind : ∀ y ∈ ps.zip us, scope.names.lookup y.1 = some .local ∨ (scope.names.lookup y.1 = some .cell ∧ ((cellsFrom (s.heap.objs.size + 1) scope.names []).lookup y.1).isSome = true) := fun ⟨n, v⟩ hy => by
    rcases S.par n (List.of_mem_zip hy).1 with q | q
    · exact .inl q
    · exact .inr ⟨q, PySem.W.cellsFrom_some _ _ _ (.inl q)⟩
  refine codeAny_call_function hr.depth (KX _ _ lk) rfl S.co S.gen rfl (PySem.W.codeRec_of KX hcd) (hb _ _ _ _ ?_)
  refine wpAny_newFunctionEnv_cells S.kind hkind fun env he s1 x => ?_
  subst he
  refine ⟨lim.keeps x.toInCall.keep, codeAny_func ?_⟩
  obtain ⟨t, ht, hq⟩ := hbody A outer s H vs Q E (hr.deeper _) hsp
  have I : Inv (cxOf CX P w K mg base N qual scope f cdv A outer s H E) [] (start N vs) H s1 := inv_start S hr.hd e0 hl r x
  refine wpAny_mono (ht [] s1 (start N vs) H _ I hq) (fun fl s' hs => ?_) fun e s' hs => hs
  have fin : ∀ {σ' : St} {H' : Hp} {v : V} {u : Value}, Inv (cxOf CX P w K mg base N qual scope f cdv A outer s H E) [] σ' H' s' → RelV v u → Q v H' → CE outer P w H s Q u s' :=
    fun {σ' H' v u} J rv q => ⟨v, H', J.os, J.bare, J.base, J.hok, rv, q⟩
  cases fl with
  | ret u =>
    obtain ⟨v, σ', H', J, rv, q⟩ := hs
    exact fin J rv q
  | next =>
    obtain ⟨σ', H', J, q⟩ := hs
    exact fin (v := V.non) (u := Value.none) J rfl q
  | brk =>
    obtain ⟨_, _, _, q⟩ := hs
    exact False.elim q
  | cont =>
    obtain ⟨_, _, _, q⟩ := hs
    exact False.elim q
end L2

namespace L2
open PySem PySem.Spec PyProof.Rows
section
variable {X : Cx} {x : Str} {p pos : Pos} {e : Expr} {es : List Expr} {t : TA} {id T : String} {r : List V → Hp → VK → Prop}
def tCB (r : List V → Hp → VK → Prop) (t : TA) : TE := fun σ H Q => t σ H fun vs H1 => r vs H1 Q
theorem pe_callB (hc : CallR X (.builtin id) r) (hg : Gl X x) (hm : X.mg x = none) (hv : bootBuiltins x = some (.builtin id)) (ha : PA X (e :: es) t) (hn : x ≠ "__name__" := by decide) (hdb : (x == ("__debug__" : Str)) = false := by decide)
    (he : starEach (e :: es) X.env = (false, eval e X.env) :: starEach es X.env := by rfl) (hpl : (backTo pos (starEach es X.env)).any (·.1) = false := by rfl) : PE X (.Call (.Name x p) (e :: es) [] pos) (tCB r t) := by
  intro pins s σ H Q I h
  refine wpAny_Call_Name_kw (ld_blt I hg hm hv ?_ hn hdb)
  exact PyProof.Rows.callWith_builtin1 (thn (ha pos pins s σ H _ I h) fun us s1 ⟨vs, H1, I1, r1, q1⟩ => hc pins s1 σ H1 vs us Q I1 r1 q1) he hpl
theorem pe_callTy (hc : CallR X (.type T) r) (hg : Gl X x) (hm : X.mg x = none) (hv : bootBuiltins x = some (.type T)) (ha : PA X (e :: es) t) (hn : x ≠ "__name__" := by decide) (hdb : (x == ("__debug__" : Str)) = false := by decide)
    (he : starEach (e :: es) X.env = (false, eval e X.env) :: starEach es X.env := by rfl) (hpl : (backTo pos (starEach es X.env)).any (·.1) = false := by rfl) : PE X (.Call (.Name x p) (e :: es) [] pos) (tCB r t) := by
  intro pins s σ H Q I h
  refine wpAny_Call_Name_kw (ld_blt I hg hm hv ?_ hn hdb)
  exact PyProof.Rows.callWith_type1 (thn (ha pos pins s σ H _ I h) fun us s1 ⟨vs, H1, I1, r1, q1⟩ => hc pins s1 σ H1 vs us Q I1 r1 q1) he hpl
end
end L2

namespace HT
open PySem PyProof.Rows
section
open PySem.SeqAt
open PySem.AutoSeq1 (wpAny_loadPart')
open PySem.MeetsSeq PySem.MeetsSeq2 PySem.MeetsSeq3
end

section
variable {prog : Program} {w : World} {A : Around} {E : Value → Shared → Prop} {s : Shared}

def sIx (n d : Nat) : Option Int → Nat
  | none => d
  | some v => if v < 0 then (v + (n : Int)).toNat else min v.toNat n
theorem sIx_nat (n d k : Nat) : sIx n d (some (k : Int)) = min k n := by
  show (if (k : Int) < 0 then ((k : Int) + (n : Int)).toNat else min (k : Int).toNat n) = min k n
  rw [if_neg (by omega), Int.toNat_natCast]
end
end HT

namespace L2
open PySem PySem.Spec PyProof.Rows

abbrev TO := St → Hp → (Option Int → Hp → Prop) → Prop
def PO (X : Cx) (e : Option Expr) (t : TO) : Prop :=
  ∀ (pins : List (Addr × Obj)) (s : Shared) (σ : St) (H : Hp) (Q : Option Int → Hp → Prop), Inv X pins σ H s → t σ H Q →
    wpAny (model X.prog X.w) X.A (evalPart e X.env) (fun u s' => ∃ o H', Inv X pins σ H' s' ∧ IsPart u o ∧ Q o H') X.xe s
def tNoPart : TO := fun _ H Q => Q none H
def tPart (t : TE) : TO := fun σ H Q => t σ H fun x H1 => ∃ i, x = .int i ∧ Q (some i) H1
section
variable {X : Cx} {e : Expr} {te : TE} {lo hi : Option Expr} {tl th : TO} {pos p2 : Pos}
theorem po_none : PO X none tNoPart := by
  intro pins s σ H Q I h
  rw [evalPart_none]
  exact wpAny_pure ⟨none, H, I, .none, h⟩
theorem po_some (h : PE X e te) : PO X (some e) (tPart te) := by
  intro pins s σ H Q I hw
  rw [evalPart_some]
  refine thn (h pins s σ H _ I hw) fun u s1 ⟨x, H1, I1, r1, q1⟩ => ?_
  obtain ⟨i, rfl, q⟩ := q1
  obtain ⟨t, rfl⟩ := r1
  exact ⟨some i, H1, I1, .int i t, q⟩
def SlR (X : Cx) (r : V → Option Int → Option Int → Hp → VK → Prop) : Prop :=
  ∀ (pins : List (Addr × Obj)) (s : Shared) (σ : St) (H : Hp) (x : V) (v vl vu : Value) (lo hi : Option Int) (sl : Addr) (Q : VK), Inv X pins σ H s → RelV x v → s.heap.IsSliceOf sl vl vu .none → IsPart vl lo → IsPart vu hi → r x lo hi H Q →
    ∃ T id, typeLookup (.type T) "__getitem__" = pure (some (.builtin id)) ∧ s.TypeIs v T ∧ wpAny (model X.prog X.w) X.A (getItem v (.ref sl)) (EP X pins σ Q) X.xe s
def tSl (r : V → Option Int → Option Int → Hp → VK → Prop) (te : TE) (tl th : TO) : TE := fun σ H Q => te σ H fun x H1 => tl σ H1 fun l H2 => th σ H2 fun u H3 => r x l u H3 Q
theorem pe_slice {r : V → Option Int → Option Int → Hp → VK → Prop} (hr : SlR X r) (he : PE X e te) (hl : PO X lo tl) (hu : PO X hi th) : PE X (.Subscript e (.Slice lo hi none p2) pos) (tSl r te tl th) := by
  intro pins s σ H Q I h
  refine Subscript_ (thn (he pins s σ H _ I h) fun v s1 ⟨x, H1, I1, r1, q1⟩ => ?_)
  refine wpAny_Slice (thn (hl pins s1 σ H1 _ I1 q1) fun vl s2 ⟨l, H2, I2, pl, q2⟩ => thn (hu pins s2 σ H2 _ I2 q2) fun vu s3 ⟨u, H3, I3, pu, q3⟩ => ?_)
  rw [evalPart_none]
  refine wpAny_pure ?_
  have I4 : Inv X pins σ H3 { s3 with heap := s3.heap.push { cls := .type "slice", data := .fields #[vl, vu, .none] } } := I3.kept (t' := s3.toks) fun b ob q => Heap.get?_push_of_some _ q
  obtain ⟨T, id, hT, ht, hg⟩ := hr pins { s3 with heap := s3.heap.push { cls := .type "slice", data := .fields #[vl, vu, .none] } } σ H3 x v vl vu l u s3.heap.objs.size Q I4 r1 (Heap.IsSliceOf.new ..) pl pu q3
  show wpAny (model X.prog X.w) X.A (subscriptTail e (.Slice lo hi none p2) v (.ref s3.heap.objs.size)) (EP X pins σ Q) X.xe { s3 with heap := s3.heap.push { cls := .type "slice", data := .fields #[vl, vu, .none] } }
  exact tail_any (ops := [.ref s3.heap.objs.size, v]) ht hT hg (by with_unfolding_all rfl)
def cutV (xs : List V) (lo hi : Option Int) : List V := (xs.drop (HT.sIx xs.length 0 lo)).take (HT.sIx xs.length xs.length hi - HT.sIx xs.length 0 lo)
theorem cutV_length (xs : List V) (lo hi : Option Int) : (cutV xs lo hi).length ≤ xs.length := by
  unfold cutV
  rw [List.length_take, List.length_drop]
  omega

end
end L2

namespace L2
open PySem PySem.Spec PyProof.Rows

def ixN (n : Nat) (i : Int) : Option Nat := if 0 ≤ i then (if i < n then some i.toNat else none) else if -(n : Int) ≤ i then some (i + n).toNat else none
def atI {α : Type} (xs : List α) (i : Int) : Option α := (ixN xs.length i).bind fun j => xs[j]?
theorem ixN_seq {n : Nat} {i : Int} {j : Nat} (h : ixN n i = some j) : seqIndex? i n = some j ∧ j < n ∧ -(n : Int) ≤ i ∧ i < n := by
  unfold ixN at h
  by_cases h0 : 0 ≤ i
  · rw [if_pos h0] at h
    by_cases h1 : i < n
    · rw [if_pos h1] at h
      have e : i.toNat = j := Option.some.inj h
      exact ⟨by rw [seqIndex_of h0 h1, e], by omega, by omega, h1⟩
    · rw [if_neg h1] at h; cases h
  · rw [if_neg h0] at h
    by_cases h1 : -(n : Int) ≤ i
    · rw [if_pos h1] at h
      have e : (i + n).toNat = j := Option.some.inj h
      exact ⟨by rw [seqIndex_neg (by omega) h1, e], by omega, h1, by omega⟩
    · rw [if_neg h1] at h; cases h
theorem atI_get {α : Type} {xs : List α} {i : Int} {v : α} (h : atI xs i = some v) : ∃ j, seqIndex? i xs.length = some j ∧ xs[j]? = some v ∧ j < xs.length ∧ -(xs.length : Int) ≤ i ∧ i < xs.length := by
  unfold atI at h
  cases e : ixN xs.length i with
  | none => rw [e] at h; cases h
  | some j =>
    rw [e] at h
    obtain ⟨h1, h2, h3, h4⟩ := ixN_seq e
    exact ⟨j, h1, h, h2, h3, h4⟩
theorem atI_nat {α : Type} {xs : List α} {j : Nat} {v : α} (h : xs[j]? = some v) : atI xs (j : Int) = some v := by
  have hj : j < xs.length := (List.getElem?_eq_some_iff.mp h).1
  have e : ixN xs.length (j : Int) = some j := by
    unfold ixN
    rw [if_pos (by omega), if_pos (by omega)]; simp
  unfold atI; rw [e]; exact h
theorem atI_last {α : Type} (xs : List α) (v : α) : atI (xs ++ [v]) (-1) = some v := by
  have hl : (xs ++ [v]).length = xs.length + 1 := by simp
  have e : ixN (xs ++ [v]).length (-1) = some xs.length := by
    unfold ixN
    rw [hl, if_neg (by decide), if_pos (by omega)]
    congr 1
    omega
  unfold atI
  rw [e]
  show (xs ++ [v])[xs.length]? = some v
  simp

def PlainIx (b : Expr) : Prop := ∀ o i, subscripted b false o i = operate [o, i] (getItem o i)
def IxR (X : Cx) (r : R2) : Prop :=
  ∀ (value slice : Expr) (pins : List (Addr × Obj)) (s : Shared) (σ : St) (H : Hp) (x y : V) (v u : Value) (Q : VK), Inv X pins σ H s → RelV x v → RelV y u → r x y H Q →
    subscripted slice false v u = operate [v, u] (getItem v u) → wpAny (model X.prog X.w) X.A (subscriptTail value slice v u) (EP X pins σ Q) X.xe s
def MtR (X : Cx) (id : String) (r : V → List V → Hp → VK → Prop) : Prop :=
  ∀ (pins : List (Addr × Obj)) (s : Shared) (σ : St) (H : Hp) (x : V) (xs : List V) (v : Value) (us : List Value) (Q : VK), Inv X pins σ H s → RelV x v → Vals xs us → r x xs H Q →
    wpAny (model X.prog X.w) X.A (call (.builtin id) (v :: us)) (EP X pins σ Q) X.xe s
section
variable {X : Cx} {a b : Expr} {ta tb : TE} {pos : Pos}
theorem pe_ix {r : R2} (hr : IxR X r) (ha : PE X a ta) (hb : PE X b tb) (hs : PlainIx b) : PE X (.Subscript a b pos) (tOp r ta tb) := by
  intro pins s σ H Q I h
  exact Subscript_ (binT ha hb I h fun v u s2 x y H2 I2 rx ry q => hr a b pins s2 σ H2 x y v u Q I2 rx ry q (hs _ _))
def rIxL (K : PySem.W.Frag) : R2 := fun x y H Q => ∃ p xs i v, x = .ref p ∧ y = .int i ∧ SqL K H p xs ∧ atI xs i = some v ∧ Q v H
def rIxT (K : PySem.W.Frag) : R2 := fun x y H Q => ∃ p xs i v, x = .ref p ∧ y = .int i ∧ SqT K H p xs ∧ atI xs i = some v ∧ Q v H
theorem ix_list : IxR X (rIxL X.K) := by
  intro value slice pins s σ H x y v u Q I rx ry h hs
  obtain ⟨p, xs, i, z, rfl, rfl, hq, he, q⟩ := h
  cases rx
  obtain ⟨t, rfl⟩ := ry
  obtain ⟨its, r, pl, hz⟩ := I.list hq
  obtain ⟨j, h1, h2, h3, h4, h5⟩ := atI_get he
  obtain ⟨w, ew, rw'⟩ := r.get h2
  have hl := r.length
  have hn := line63
  have fin : EP X pins σ Q w s := ⟨z, H, I, rw', q⟩
  by_cases h0 : 0 ≤ i
  · have hj : i.toNat = j := by
      rw [seqIndex_of h0 h5] at h1
      exact Option.some.inj h1
    exact item_listR pl.isList h0 (by omega) (by rw [hj]; simpa using ew) fin hs
  · have hj : (i + (its.toArray.size : Int)).toNat = j := by
      rw [seqIndex_neg (by omega) h4] at h1
      rw [List.size_toArray, ← hl]
      exact Option.some.inj h1
    exact subscriptTail_builtinR (x := w) pl.isList.typeIs slot_list_getitem.lookup
      (wpAny_getItem_list_neg (Q := fun r s' => r = w ∧ EP X pins σ Q r s') pl.isList (by omega) (by rw [List.size_toArray] <;> omega) (by omega) (by rw [hj]; simpa using ew) ⟨rfl, fin⟩) hs
theorem ix_tup : IxR X (rIxT X.K) := by
  intro value slice pins s σ H x y v u Q I rx ry h hs
  obtain ⟨p, xs, i, z, rfl, rfl, hq, he, q⟩ := h
  cases rx
  obtain ⟨t, rfl⟩ := ry
  obtain ⟨its, r, pl, hz⟩ := I.tuple hq
  obtain ⟨j, h1, h2, h3, h4, h5⟩ := atI_get he
  obtain ⟨w, ew, rw'⟩ := r.get h2
  have hl := r.length
  have hn := line63
  have fin : EP X pins σ Q w s := ⟨z, H, I, rw', q⟩
  exact subscriptTail_builtinR (x := w) pl.typeIs slot_tuple_getitem.lookup
    (getItem_tuple (j := j) (Q := fun r s' => r = w ∧ EP X pins σ Q r s') pl (by omega) (by omega) (by rw [List.size_toArray, ← hl]; exact h1) (by simpa using ew) ⟨rfl, fin⟩) hs


theorem slice_bounds (lo hi : Option Int) (n : Nat) : (sliceBounds lo hi none n).1 = ((HT.sIx n 0 lo : Nat) : Int) ∧ (sliceBounds lo hi none n).2.1 = ((HT.sIx n n hi : Nat) : Int) ∧ (sliceBounds lo hi none n).2.2 = 1 := by
  refine ⟨?_, ?_, rfl⟩
  · cases lo with
    | none => simp [sliceBounds, HT.sIx]
    | some i =>
      simp only [sliceBounds, HT.sIx, Option.getD_none, show (1 : Int) > 0 by decide, if_true]
      by_cases h : i < 0
      · simp only [h, if_true] <;> omega
      · simp only [h, if_false] <;> omega
  · cases hi with
    | none => simp [sliceBounds, HT.sIx]
    | some i =>
      simp only [sliceBounds, HT.sIx, Option.getD_none, show (1 : Int) > 0 by decide, if_true]
      by_cases h : i < 0
      · simp only [h, if_true] <;> omega
      · simp only [h, if_false] <;> omega
theorem slicePick_cut (its : List Value) (lo hi : Option Int) : slicePick its.toArray lo hi none = ((its.drop (HT.sIx its.length 0 lo)).take (HT.sIx its.length its.length hi - HT.sIx its.length 0 lo)).toArray := by
  obtain ⟨h1, h2, h3⟩ := slice_bounds lo hi its.toArray.size
  unfold slicePick
  rw [h1, h2, h3]
  simp only [sliceRange_one, pick_run, List.size_toArray] <;> rfl
def rSlL (K : PySem.W.Frag) : V → Option Int → Option Int → Hp → VK → Prop := fun x lo hi H Q => ∃ a xs, x = .ref a ∧ SqL K H a xs ∧ ∀ p, H p = none → Q (.ref p) (upd H p (.lst (cutV xs lo hi)))
theorem sl_list : SlR X (rSlL X.K) := by
  intro pins s σ H x v vl vu lo hi sl Q I rx hs pl pu h
  obtain ⟨a, xs, rfl, hx, q⟩ := h
  cases rx
  obtain ⟨its, r, ht, hz⟩ := I.list hx
  have hlen := r.length
  refine ⟨"list", _, slot_list_getitem.lookup, ht.isList.typeIs, ?_⟩
  refine wpAny_getItem_list_slice ht.isList hs pl pu .none (by simp) ?_ (by rw [List.size_toArray] <;> omega)
  rw [slicePick_cut, ← hlen]
  refine ⟨.ref s.heap.objs.size, _, I.laid (t' := s.toks) (o := .lst (cutV xs lo hi)) (fun b ob q => Heap.get?_push_of_some _ q) (Nat.le_refl _) ?_, rfl, q _ (I.hok.fresh (Nat.le_refl _))⟩
  exact ⟨Nat.le_trans (cutV_length xs lo hi) hz, _, 0, (r.drop (HT.sIx xs.length 0 lo)).take (HT.sIx xs.length xs.length hi - HT.sIx xs.length 0 lo), Heap.get?_push_size _ rfl⟩


theorem call_len_seq : CallR X (.builtin "len") (fun xs H Q => ∃ p ys, xs = [.ref p] ∧ (SqL X.K H p ys ∨ SqT X.K H p ys) ∧ Q (.int ys.length) H) := by
  intro pins s σ H xs us Q I r h
  obtain ⟨p, ys, rfl, hq, q⟩ := h
  obtain ⟨u, rfl, rx⟩ := vals1 r
  cases rx
  have hn := line63
  rcases hq with hq | hq
  · obtain ⟨its, r', pl, hz⟩ := I.list hq
    have hlen := r'.length
    exact Calls.call_len_list pl.isList (by simp only [List.size_toArray] <;> omega) ⟨.int ys.length, H, I.tok _, ⟨s.toks + 1, by rw [List.size_toArray, hlen]⟩, q⟩
  · obtain ⟨its, r', pl, hz⟩ := I.tuple hq
    have hlen := r'.length
    exact len_tuple pl (by simp only [List.size_toArray] <;> omega) ⟨.int ys.length, H, I.tok _, ⟨s.toks + 1, by rw [List.size_toArray, hlen]⟩, q⟩

def tyV (K : PySem.W.Frag) (T : String) (x : V) (H : Hp) : Prop := match x with
  | .str _ => T = "str"
  | .int _ => T = "int"
  | .ref p => (T = "list" ∧ ∃ xs, SqL K H p xs) ∨ (T = "tuple" ∧ ∃ o, K.lookup p = some o ∧ o.cls = .type "tuple" ∧ o.dict = none) ∨
      (T = "dict" ∧ ((∃ kvs, H p = some (.dK kvs)) ∨ ∃ kvs, H p = some (.dT kvs))) ∨ (T = "set" ∧ ∃ S n, H p = some (.set S n))
  | _ => False
theorem tyV_is {pins : List (Addr × Obj)} {σ : St} {H : Hp} {s : Shared} {T : String} {x : V} {v : Value} (I : Inv X pins σ H s) (r : RelV x v) (ty : tyV X.K T x H) :
    s.TypeIs v T ∧ ∀ a, v = .ref a → ∃ ob, s.heap.get? a = some ob ∧ ob.dict = none := by
  cases x with
  | str z =>
    obtain ⟨t, rfl⟩ := r
    cases (show T = "str" from ty)
    exact ⟨typeIs_str s z t, fun _ e => nomatch e⟩
  | int i =>
    obtain ⟨t, rfl⟩ := r
    cases (show T = "int" from ty)
    exact ⟨typeIs_int s i t, fun _ e => nomatch e⟩
  | ref p =>
    cases r
    rcases ty with ⟨rfl, xs, hq⟩ | ⟨rfl, o, hk, hc, hd⟩ | ⟨rfl, hk⟩ | ⟨rfl, S, n, hk⟩
    · obtain ⟨its, _, pl, _⟩ := I.list hq
      refine ⟨pl.isList.typeIs, fun a e => ?_⟩
      cases e
      obtain ⟨o, n, e, c, hd, _⟩ := pl
      exact ⟨o, e, hd⟩
    · refine ⟨⟨o, I.kIn p o hk, hc⟩, fun a e => ?_⟩
      cases e
      exact ⟨o, I.kIn _ o hk, hd⟩
    · have z : ∃ o, s.heap.get? p = some o ∧ o.ExactDict := by
        rcases hk with ⟨kvs, hk⟩ | ⟨kvs, hk⟩
        · obtain ⟨_, _, _, _, o, _, _, e, ex, _⟩ := I.hok p _ hk
          exact ⟨o, e, ex⟩
        · obtain ⟨_, _, _, _, o, _, _, e, ex, _⟩ := I.hok p _ hk
          exact ⟨o, e, ex⟩
      obtain ⟨o, e, ex⟩ := z
      refine ⟨⟨o, e, ex.1⟩, fun a e2 => ?_⟩
      cases e2
      exact ⟨o, e, ex.2.1⟩
    · obtain ⟨o, _, _, _, e, ex, _⟩ := I.hok p _ hk
      refine ⟨⟨o, e, ex.1⟩, fun a e2 => ?_⟩
      cases e2
      exact ⟨o, e, ex.2.1⟩
  | _ => exact False.elim ty
def tBM (K : PySem.W.Frag) (T : String) (r : V → List V → Hp → VK → Prop) (to : TE) (t : TA) : TE := fun σ H Q => to σ H fun x H1 => tyV K T x H1 ∧ t σ H1 fun xs H2 => r x xs H2 Q
variable {o e : Expr} {es : List Expr} {to : TE} {t : TA} {name : Str} {apos cpos : Pos} {T id : String} {r : V → List V → Hp → VK → Prop}
theorem pe_bm (pa : PlainAttrs T) (slot : Slot T name id) (hty : typeOf (.builtin id) = pure (.type "method_descriptor")) (hm : MtR X id r) (ho : PE X o to) (ha : PA X (e :: es) t)
    (hbase : attributeBase o name X.env (eval o X.env) = eval o X.env := by rfl)
    (hfew : ((backTo cpos (starEach (e :: es) X.env)).all (fun x => !x.1) && (backToKw cpos (keywordEach [] X.env)).all (fun x => x.1.isSome)
      && decide ((e :: es).length + ([] : List Keyword).length + (if ([] : List Keyword).isEmpty then 0 else 1) < 30)) = true := by rfl)
    (hline : (apos.endLine == cpos.line) = true := by rfl) (hs : starEach (e :: es) X.env = (false, eval e X.env) :: starEach es X.env := by rfl) (hplain : (backTo cpos (starEach es X.env)).any (·.1) = false := by rfl) :
    PE X (.Call (.Attribute o name apos) (e :: es) [] cpos) (tBM X.K T r to t) := by
  intro pins s σ H Q I h
  refine wpAny_Call_method_late hbase hfew hline rfl (thn (ho pins s σ H _ I h) fun v s1 ⟨x, H1, I1, r1, ty, q1⟩ => ?_)
  obtain ⟨h1, h2⟩ := tyV_is I1 r1 ty
  refine ⟨T, id, pa, slot, hty, h1, h2, ?_⟩
  have hA := ha cpos pins s1 σ H1 _ I1 q1
  rw [hs] at hA ⊢
  refine Calls.callWith_builtin (by show (false || (backTo cpos (starEach es X.env)).any (·.1)) = false; rw [hplain] <;> rfl) (Calls.evalArgs_plain ?_)
  exact thn hA fun us s2 ⟨vs, H2, I2, r2, q2⟩ => hm pins s2 σ H2 x vs v us Q I2 r1 r2 q2
/- xs.append(e), list.index on a module's tuple .. are MtR facts of 06m -/
end
end L2

namespace L2
open PySem PySem.Spec PyProof.Rows
def MtM (X : Cx) (id : String) (r : V → List V → Hp → VK → Prop) : Prop :=
  ∀ (pins : List (Addr × Obj)) (s : Shared) (σ : St) (H : Hp) (x : V) (xs : List V) (v : Value) (us : List Value) (Q : VK), Inv X pins σ H s → RelV x v → Vals xs us → r x xs H Q →
    wpAny (model X.prog X.w) X.A (call (.builtin id) (v :: us)) (EP X pins σ Q) X.xe s

theorem Vals.one : ∀ {x : V} {us : List Value}, Vals [x] us → ∃ u, us = [u] ∧ RelV x u
  | _, _, .cons r .nil => ⟨_, rfl, r⟩
section
variable {X : Cx} {pins : List (Addr × Obj)} {σ : St} {H : Hp} {s : Shared} {l b : Addr} {xs ys zs : List V}

theorem Inv.lset {its its' : List Value} {n : Nat} {f : Array Value → Array Value} {t' : Nat} (I : Inv X pins σ H s) (hH : H l = some (.lst xs))
    (e : s.heap.get? l = some { cls := .type "list", data := .seq its.toArray n }) (hf : f its.toArray = its'.toArray) (hv : Vals ys its') (hz : ys.length ≤ sizeLine) :
    Inv X pins σ (upd H l (.lst ys)) { s with heap := s.heap.update l (Obj.mapSeq f), toks := t' } := by
  have q := PySem.IsL.update e f
  rw [hf] at q
  refine I.write (x := l) (e := l) (by rw [hH]; exact trivial) (.inl rfl) (fun b' u hb hu => (Heap.get?_update_other s.heap (Obj.mapSeq f) (Ne.symm hb)).trans hu) ⟨_, q⟩ ?_
  exact ⟨hz, its', _, hv, q⟩
theorem Inv.lnew {its : List Value} {t' : Nat} (I : Inv X pins σ H s) (hv : Vals ys its) (hz : ys.length ≤ sizeLine) :
    Inv X pins σ (upd H s.heap.objs.size (.lst ys)) { s with heap := s.heap.push { cls := .type "list", data := .seq its.toArray }, toks := t' } :=
  I.laid (fun _ _ q => Heap.get?_push_of_some _ q) (Nat.le_refl _) ⟨hz, its, 0, hv, Heap.get?_push_size _ rfl⟩
theorem Inv.fresh (I : Inv X pins σ H s) : H s.heap.objs.size = none := I.hok.fresh (Nat.le_refl _)
theorem Inv.lstM (I : Inv X pins σ H s) (hH : H l = some (.lst xs)) : xs.length ≤ sizeLine ∧ ∃ (its : List Value) (n : Nat), Vals xs its ∧ xs.length = its.length ∧ s.heap.get? l = some { cls := .type "list", data := .seq its.toArray n } := by
  obtain ⟨z, its, n, r, e⟩ := I.hok l _ hH
  exact ⟨z, its, n, r, r.length, e⟩
theorem notLongL {n : Nat} (h : n ≤ sizeLine) : Builtin.List.listTooLong n = false := by
  unfold Builtin.List.listTooLong
  exact decide_eq_false (by omega)
end

section
variable {X : Cx}

def rAppend : V → List V → Hp → VK → Prop := fun x vs H Q => ∃ l xs y, x = .ref l ∧ vs = [y] ∧ H l = some (.lst xs) ∧ xs.length < sizeLine ∧ Q .non (upd H l (.lst (xs ++ [y])))
theorem mt_append : MtM X "list.append" rAppend := by
  intro pins s σ H x vs v us Q I rx rv h
  obtain ⟨l, xs, y, rfl, rfl, hH, hz, q⟩ := h
  cases rx
  obtain ⟨u, rfl, ru⟩ := rv.one
  obtain ⟨z, its, n, r, hl, e⟩ := I.lstM hH
  refine call_meets F.slot_list_append ⟨_, e, rfl⟩ F.entry_list_append (F.args_list_append_2 _ _) (PySem.list_append l its.toArray n u (by rw [List.size_toArray]; omega)) ⟨e, ?_⟩
  refine ⟨.non, _, I.lset (its' := its ++ [u]) hH e (by simp) (r.append (.cons ru .nil)) ?_, rfl, q⟩
  rw [List.length_append, List.length_singleton]
  omega
def rExtend : V → List V → Hp → VK → Prop := fun x vs H Q => ∃ l b xs zs, x = .ref l ∧ vs = [.ref b] ∧ H l = some (.lst xs) ∧ H b = some (.lst zs) ∧ xs.length + zs.length ≤ sizeLine ∧ Q .non (upd H l (.lst (xs ++ zs)))
theorem mt_extend : MtM X "list.extend" rExtend := by
  intro pins s σ H x vs v us Q I rx rv h
  obtain ⟨l, b, xs, zs, rfl, rfl, hH, hB, hz, q⟩ := h
  cases rx
  obtain ⟨u, rfl, ru⟩ := rv.one
  cases ru
  obtain ⟨z, its, n, r, hl, e⟩ := I.lstM hH
  obtain ⟨z2, its2, n2, r2, hl2, e2⟩ := I.lstM hB
  have hsz : its.toArray.size + its2.toArray.size ≤ sizeLine := by rw [List.size_toArray, List.size_toArray]; omega
  have hlong : ¬ (!its.toArray.isEmpty && Builtin.List.listTooLong (its.toArray.size + its2.toArray.size)) = true := by
    rw [notLongL hsz, Bool.and_false]
    exact Bool.false_ne_true
  refine call_meets F.slot_list_extend ⟨_, e, rfl⟩ F.entry_list_extend (F.args_list_extend_2 _ _)
    (AutoSeq1.list_extend_list_list_0 l its.toArray n b its2.toArray n2 hlong (by rw [List.size_toArray]; omega) (by omega)) ⟨e, e2, ?_⟩
  refine ⟨.non, _, I.lset (its' := its ++ its2) hH e (by simp) (r.append r2) ?_, rfl, q⟩
  rw [List.length_append]
  omega

def rCat : R2 := fun x y H Q => ∃ l b xs zs, x = .ref l ∧ y = .ref b ∧ H l = some (.lst xs) ∧ H b = some (.lst zs) ∧ xs.length + zs.length ≤ sizeLine ∧ ∀ p, H p = none → Q (.ref p) (upd H p (.lst (xs ++ zs)))
theorem op_cat : OpR X (binaryOp .Add) rCat := by
  intro pins s σ H x y v u Q I rx ry h
  obtain ⟨l, b, xs, zs, rfl, rfl, hH, hB, hz, q⟩ := h
  cases rx
  cases ry
  obtain ⟨z, its, n, r, hl, e⟩ := I.lstM hH
  obtain ⟨z2, its2, n2, r2, hl2, e2⟩ := I.lstM hB
  refine PySem.P.add_list e e2 ?_ (by rw [List.size_toArray, List.size_toArray]; omega)
  have ea : its.toArray ++ its2.toArray = (its ++ its2).toArray := by simp
  rw [ea]
  exact ⟨.ref _, _, I.lnew (t' := s.toks) (r.append r2) (by rw [List.length_append]; omega), rfl, q _ I.fresh⟩

end


section
variable {prog : Program} {w : World} {A : Around} {E : Value → Shared → Prop} {s : Shared}
end

section
variable {X : Cx}
end
end L2

namespace L2
open PySem PySem.Spec PyProof.Rows
theorem Vals.ints : ∀ {ns : List Int} {us : List Value}, Vals (ns.map V.int) us → IntsAre us ns
  | [], us, h => by
    rw [List.map_nil] at h
    cases h
    exact IntsAre.nil
  | n :: ns, us, h => by
    rw [List.map_cons] at h
    cases h with
    | cons r t =>
      obtain ⟨k, rfl⟩ := r
      exact IntsAre.cons n k (Vals.ints t)
theorem vals_of_ints : ∀ {us : List Value} {ns : List Int}, IntsAre us ns → Vals (ns.map V.int) us
  | _, _, .nil => by rw [List.map_nil]; exact Paired.nil
  | _, _, .cons n t h => by rw [List.map_cons]; exact Paired.cons (show RelV (V.int n) (Value.int n t) from ⟨t, rfl⟩) (vals_of_ints h)
theorem Vals.bls : ∀ {bs : List Bool} {us : List Value}, Vals (bs.map V.bl) us → us = bs.map Value.bool
  | [], us, h => by
    rw [List.map_nil] at h
    cases h
    rfl
  | b :: bs, us, h => by
    rw [List.map_cons] at h
    cases h with
    | cons r t =>
      cases r
      rw [Vals.bls t, List.map_cons]
theorem Vals.ref1 {a : Addr} {us : List Value} (r : Vals [V.ref a] us) : us = [Value.ref a] := by
  cases r with
  | cons r t =>
    cases t
    cases r
    rfl

section
variable {prog : Program} {w : World} {A : Around} {E : Value → Shared → Prop} {s : Shared} {l : Addr} {its : List Value} {ns : List Int} {Q : Value → Shared → Prop}
theorem sum_raw (hh : A.handled = none) (hl : s.heap.IsList l its.toArray) (hi : IntsAre its ns)
    (h : ∀ h' tk t', (∀ b o, s.heap.get? b = some o → h'.get? b = some o) → Q (.int ns.sum t') { s with heap := h', toks := tk }) : wpAny (model prog w) A (call (.builtin "sum") [.ref l]) Q E s := by
  obtain ⟨xs, e⟩ := hi.allInts.items
  have hn : numsOf (intItems xs).toList = ns := by rw [← e]; exact hi.numsOf
  rw [nums_intItems] at hn
  rw [e] at hl
  refine PySem.sum_intListG hh hl fun h' tk t' hk => ?_
  have := h h' tk t' hk
  rw [preSum_eq, List.take_of_length_le (by simp), hn]; exact this
end


section
variable {X : Cx}
def rSum (K : PySem.W.Frag) : List V → Hp → VK → Prop := fun vs H Q => ∃ (a : Addr) (ns : List Int), vs = [V.ref a] ∧ SqL K H a (ns.map V.int) ∧ Q (.int ns.sum) H
theorem cr_sum (hc : X.calm = true) : CallR X (.builtin "sum") (rSum X.K) := by
  intro pins s σ H vs us Q I r h
  obtain ⟨a, ns, rfl, hs, q⟩ := h
  obtain ⟨its, rv, hl, _⟩ := I.list hs
  rw [Vals.ref1 r]
  exact sum_raw (I.ok.hd hc) hl.isList rv.ints fun h' tk t' hk => ⟨.int _, H, I.kept hk, ⟨_, rfl⟩, q⟩

end


section
variable {X : Cx}
end


section
variable {X : Cx}
end


theorem iter_any {prog : Program} {w : World} {A : Around} {E : Value → Shared → Prop} {s : Shared} {l : Addr} {items : Array Value} {Q : Value → Shared → Prop} (hl : s.heap.IsList l items)
    (h : ∀ s₂ : Shared, s₂ = { s with heap := s.heap.push { cls := .type "list_iterator", data := .fields #[.ref l, .int 0 0] } } →
      (s₂.heap.IsListIter s.heap.objs.size l 0 ∧ s₂.heap.IsList l items) → l ≠ s.heap.objs.size → Q (.ref s.heap.objs.size) s₂) : wpAny (model prog w) A (pyIter (.ref l)) Q E s := by
  have hlt : l < s.heap.objs.size := by obtain ⟨_, e, _⟩ := hl; exact Heap.lt_size e
  exact wpAny_pyIter_list hl (h _ rfl ⟨⟨_, Heap.get?_push_size _ rfl, rfl, rfl⟩, hl.push _⟩ (Nat.ne_of_lt hlt))
theorem truth_bools {prog : Program} {w : World} {A : Around} {bs : List Bool} {its : List Value} (e : its = bs.map Value.bool) :
    TruthOf prog w A (fun i v => its.toArray[i]? = some v) (fun i => bs.getD i false) := fun i v s Q E hv hq => by
  have hv' : its[i]? = some v := by simpa using hv
  rw [e, List.getElem?_map] at hv'
  obtain ⟨b, hb, rfl⟩ := Option.map_eq_some_iff.mp hv'
  have hg : bs.getD i false = b := by rw [List.getD_eq_getElem?_getD, hb] <;> rfl
  have hq' : Q (bs.getD i false) s := hq
  rw [hg] at hq'
  exact wpAny_truthy_bool hq'
theorem any_range : ∀ bs : List Bool, (List.range bs.length).any (fun i => bs.getD i false) = bs.any id
  | [] => rfl
  | b :: bs => by
    rw [List.length_cons, List.range_succ_eq_map, List.any_cons, List.any_map, List.any_cons, ← any_range bs]
    all_goals rfl
theorem all_range : ∀ bs : List Bool, (List.range bs.length).all (fun i => bs.getD i false) = bs.all id
  | [] => rfl
  | b :: bs => by
    rw [List.length_cons, List.range_succ_eq_map, List.all_cons, List.all_map, List.all_cons, ← all_range bs]
    all_goals rfl
section
variable {X : Cx}
def rAll (K : PySem.W.Frag) : List V → Hp → VK → Prop := fun vs H Q => ∃ (a : Addr) (bs : List Bool), vs = [V.ref a] ∧ SqL K H a (bs.map V.bl) ∧ Q (.bl (bs.all id)) H
theorem cr_all (hc : X.calm = true) : CallR X (.builtin "all") (rAll X.K) := by
  intro pins s σ H vs us Q I r h
  obtain ⟨a, bs, rfl, hs, q⟩ := h
  obtain ⟨its, rv, hl, _⟩ := I.list hs
  rw [Vals.ref1 r]
  have hb := rv.bls
  refine call_all_walk (iter_any hl.isList fun s₂ e2 st hne => ?_)
  subst e2
  refine ⟨_, _, _, _, _, _, _, rfl, Walks.list (A := X.A.in1) (I.ok.hd hc) _ a hne its.toArray, st, truth_bools hb, fun h' tk hk => ?_⟩
  refine ⟨.bl _, H, I.kept fun b o eo => hk b o (fun hmem => ?_) (Heap.get?_push_of_some _ eo), ?_, q⟩
  · rcases List.mem_cons.mp hmem with e1 | hmem
    · exact absurd (e1 ▸ Heap.lt_size eo) (Nat.lt_irrefl _)
    · cases hmem
  · show Value.bool _ = Value.bool _
    rw [← all_range, hb, List.size_toArray, List.length_map]
end


mutual
inductive Dp (K : PySem.W.Frag) (H : Hp) : V → PyData → Prop
  | non : Dp K H .non .none
  | bl (b : Bool) : Dp K H (.bl b) (.bool b)
  | int (i : Int) : Dp K H (.int i) (.int i)
  | str (x : Str) : Dp K H (.str x) (.str x)
  | lst {a : Addr} {xs : List V} {ds : List PyData} : SqL K H a xs → DpAll K H xs ds → Dp K H (.ref a) (.list ds)
  | tup {a : Addr} {xs : List V} {ds : List PyData} : SqT K H a xs → DpAll K H xs ds → Dp K H (.ref a) (.tuple ds)
inductive DpAll (K : PySem.W.Frag) (H : Hp) : List V → List PyData → Prop
  | nil : DpAll K H [] []
  | cons {v : V} {vs : List V} {d : PyData} {ds : List PyData} : Dp K H v d → DpAll K H vs ds → DpAll K H (v :: vs) (d :: ds)
end
section
variable {X : Cx} {pins : List (Addr × Obj)} {σ : St} {H : Hp} {s : Shared}
mutual
theorem Dp.reads (I : Inv X pins σ H s) : ∀ (d : PyData) (v : V) (u : Value), Dp X.K H v d → RelV v u → ∃ as, Reads s.heap u d as
  | .none, _, _, h, r => by
    cases h
    cases r
    exact ⟨_, Reads.none⟩
  | .bool b, _, _, h, r => by
    cases h
    cases r
    exact ⟨_, Reads.bool b⟩
  | .int i, _, _, h, r => by
    cases h
    obtain ⟨t, rfl⟩ := r
    exact ⟨_, Reads.int i t⟩
  | .str x, _, _, h, r => by
    cases h
    obtain ⟨t, rfl⟩ := r
    exact ⟨_, Reads.str x t⟩
  | .list ds, _, _, h, r => by
    cases h with
    | lst hs ha =>
      cases r
      obtain ⟨its, rv, ⟨o, n, ho, hc, _, hd⟩, _⟩ := I.list hs
      obtain ⟨as, hr⟩ := Dp.readsAll I ds _ its ha rv
      exact ⟨_, Reads.list ho hc hd hr⟩
  | .tuple ds, _, _, h, r => by
    cases h with
    | tup hs ha =>
      cases r
      obtain ⟨its, rv, ⟨o, ho, hc, n, hd⟩, _⟩ := I.tuple hs
      obtain ⟨as, hr⟩ := Dp.readsAll I ds _ its ha rv
      exact ⟨_, Reads.tuple ho hc hd hr⟩
  | .dict _, _, _, h, _ => by cases h
theorem Dp.readsAll (I : Inv X pins σ H s) : ∀ (ds : List PyData) (vs : List V) (us : List Value), DpAll X.K H vs ds → Vals vs us → ∃ as, ReadsAll s.heap us ds as
  | [], _, _, h, r => by
    cases h
    cases r
    exact ⟨_, ReadsAll.nil⟩
  | d :: ds, _, _, h, r => by
    cases h with
    | cons h1 h2 =>
      cases r with
      | cons r1 r2 =>
        obtain ⟨as, q1⟩ := Dp.reads I d _ _ h1 r1
        obtain ⟨bs, q2⟩ := Dp.readsAll I ds _ _ h2 r2
        exact ⟨_, ReadsAll.cons q1 q2⟩
end
end
section
variable {X : Cx}
end
end L2

namespace L2
open PySem PySem.Spec PyProof.Rows
abbrev CellAt (h : Heap) (c : Addr) (v : Option Value) : Prop := h.IsCell c v
def relS (scope sc : Scope) : Scope :=
  { scope with names := scope.names.map fun (n, k) => if (k == .free && sc.kind == .function && sc.names.lookup n == some .cell) then (n, .cell) else (n, k) }
def cloFrom (cells : List (Str × Addr)) : List (Str × NameKind) → List (Str × Addr) → List (Str × Addr)
  | [], acc => acc
  | (n, k) :: r, acc => if k == .free then cloFrom cells r ((n, (cells.lookup n).getD 0) :: acc) else cloFrom cells r acc
theorem closure_loop (env : Env) (f : Str × NameKind → List (Str × Addr) → Sem (ForInStep (List (Str × Addr))))
    (hf : ∀ n k c, f (n, k) c = if k == .free then (do let a ← cellOf env n; pure (.yield ((n, a) :: c))) else pure (.yield c)) :
    ∀ (names : List (Str × NameKind)) (acc : List (Str × Addr)), (∀ y ∈ names, y.2 = .free → ∃ c, env.cells.lookup y.1 = some c) → forIn names acc f = pure (cloFrom env.cells names acc)
  | [], acc, _ => by rw [List.forIn_nil]; rfl
  | (n, k) :: r, acc, h => by
    rw [List.forIn_cons, hf]
    have ih := fun acc => closure_loop env f hf r acc fun y hy => h y (List.mem_cons_of_mem _ hy)
    unfold cloFrom
    by_cases hk : (k == NameKind.free) = true
    · rw [if_pos hk, if_pos hk]
      obtain ⟨c, hc⟩ := h (n, k) List.mem_cons_self (by simpa using hk)
      have e : cellOf env n = pure c := by unfold cellOf; rw [hc]
      rw [e]
      have e2 : (env.cells.lookup n).getD 0 = c := by rw [hc]; rfl
      rw [e2]
      exact ih _
    · rw [if_neg hk, if_neg hk]
      exact ih _
theorem closure_ok {scope : Scope} {env : Env} (h : ∀ y ∈ scope.names, y.2 = .free → ∃ c, env.cells.lookup y.1 = some c) : closureFor scope env = pure (cloFrom env.cells scope.names []) := by
  simp only [closureFor]
  rw [closure_loop env _ (fun n k c => rfl) scope.names [] h]
  rfl
theorem mem_lookup {α : Type} : ∀ {l : List (Str × α)} {n : Str} {c : α}, (n, c) ∈ l → ∃ c', l.lookup n = some c'
  | (k, v) :: r, n, c, h => by
    rw [List.lookup_cons]
    cases hb : n == k with
    | true => exact ⟨_, rfl⟩
    | false =>
      rcases List.mem_cons.mp h with e | h
      · cases e; simp at hb
      · exact mem_lookup h
theorem cloFrom_mem {cells : List (Str × Addr)} : ∀ {names : List (Str × NameKind)} {acc : List (Str × Addr)} {n : Str} {c : Addr}, (n, c) ∈ cloFrom cells names acc → (n, c) ∈ acc ∨ ((n, .free) ∈ names ∧ c = (cells.lookup n).getD 0)
  | [], _, _, _, h => .inl h
  | (m, k) :: r, acc, n, c, h => by
    unfold cloFrom at h
    split at h
    · rename_i hk
      have hk : k = .free := by simpa using hk
      rcases cloFrom_mem h with h | ⟨h1, h2⟩
      · rcases List.mem_cons.mp h with e | h
        · cases e; exact .inr ⟨hk ▸ List.mem_cons_self, rfl⟩
        · exact .inl h
      · exact .inr ⟨List.mem_cons_of_mem _ h1, h2⟩
    · rcases cloFrom_mem h with h | ⟨h1, h2⟩
      · exact .inl h
      · exact .inr ⟨List.mem_cons_of_mem _ h1, h2⟩
theorem cloFrom_acc {cells : List (Str × Addr)} : ∀ {names : List (Str × NameKind)} {acc : List (Str × Addr)} {p : Str × Addr}, p ∈ acc → p ∈ cloFrom cells names acc
  | [], _, _, h => h
  | (m, k) :: r, acc, p, h => by
    unfold cloFrom
    split
    · exact cloFrom_acc (List.mem_cons_of_mem _ h)
    · exact cloFrom_acc h
theorem cloFrom_has {cells : List (Str × Addr)} : ∀ {names : List (Str × NameKind)} {acc : List (Str × Addr)} {n : Str}, (n, .free) ∈ names → (n, (cells.lookup n).getD 0) ∈ cloFrom cells names acc
  | (m, k) :: r, acc, n, h => by
    unfold cloFrom
    rcases List.mem_cons.mp h with e | h
    · cases e
      exact cloFrom_acc List.mem_cons_self
    · split
      · exact cloFrom_has h
      · exact cloFrom_has h
theorem cells_mem : ∀ {names : List (Str × NameKind)} {h : Heap} {acc : List (Str × Addr)} {x : Str} {c : Addr}, (x, c) ∈ cellsFrom h.objs.size names acc →
    (x, c) ∈ acc ∨ ((x, .cell) ∈ names ∧ h.objs.size ≤ c ∧ CellAt (pushCells h names) c none)
  | [], _, _, _, _, h => .inl h
  | (n, k) :: r, h, acc, x, c, hm => by
    unfold cellsFrom at hm
    unfold pushCells
    split at hm
    · rename_i hk
      rw [if_pos hk]
      have hk : k = .cell := by simpa using hk
      rw [← Heap.size_push h { cls := .type "cell", data := .cell none }] at hm
      rcases cells_mem hm with hm | ⟨h1, h2, h3⟩
      · rcases List.mem_cons.mp hm with e | hm
        · cases e
          exact .inr ⟨hk ▸ List.mem_cons_self, Nat.le_refl _, _, pushCells_keeps r _ _ _ (Heap.get?_push_size _ rfl), rfl⟩
        · exact .inl hm
      · rw [Heap.size_push] at h2
        exact .inr ⟨List.mem_cons_of_mem _ h1, Nat.le_of_succ_le h2, h3⟩
    · rename_i hk
      rw [if_neg hk]
      rcases cells_mem hm with hm | ⟨h1, h2, h3⟩
      · exact .inl hm
      · exact .inr ⟨List.mem_cons_of_mem _ h1, h2, h3⟩
theorem cells_acc : ∀ {names : List (Str × NameKind)} {n : Nat} {acc : List (Str × Addr)} {p : Str × Addr}, p ∈ acc → p ∈ cellsFrom n names acc
  | [], _, _, _, h => h
  | (m, k) :: r, n, acc, p, h => by
    unfold cellsFrom
    split
    · exact cells_acc (List.mem_cons_of_mem _ h)
    · exact cells_acc h
theorem cells_has : ∀ {names : List (Str × NameKind)} {n : Nat} {acc : List (Str × Addr)} {x : Str}, (x, .cell) ∈ names → ∃ c, (x, c) ∈ cellsFrom n names acc
  | (m, k) :: r, n, acc, x, h => by
    unfold cellsFrom
    rcases List.mem_cons.mp h with e | h
    · cases e
      exact ⟨n, cells_acc List.mem_cons_self⟩
    · split
      · exact cells_has h
      · exact cells_has h
theorem cells_inj : ∀ {names : List (Str × NameKind)} {h : Heap} {acc : List (Str × Addr)} {x y : Str} {c : Addr}, (∀ p ∈ acc, p.2 < h.objs.size) → (∀ x y c, (x, c) ∈ acc → (y, c) ∈ acc → x = y) →
    (x, c) ∈ cellsFrom h.objs.size names acc → (y, c) ∈ cellsFrom h.objs.size names acc → x = y
  | [], _, _, _, _, _, _, hi, h1, h2 => hi _ _ _ h1 h2
  | (n, k) :: r, h, acc, x, y, c, hl, hi, h1, h2 => by
    unfold cellsFrom at h1 h2
    split at h1
    · rename_i hk
      rw [if_pos hk] at h2
      rw [← Heap.size_push h { cls := .type "cell", data := .cell none }] at h1 h2
      refine cells_inj (h := h.push _) (fun p hp => ?_) (fun x y c a b => ?_) h1 h2
      · rw [Heap.size_push]
        rcases List.mem_cons.mp hp with rfl | hp
        · exact Nat.lt_succ_self _
        · exact Nat.lt_succ_of_lt (hl p hp)
      · rcases List.mem_cons.mp a with e | a <;> rcases List.mem_cons.mp b with e' | b
        · cases e; cases e'; rfl
        · cases e; exact absurd (hl _ b) (Nat.lt_irrefl _)
        · cases e'; exact absurd (hl _ a) (Nat.lt_irrefl _)
        · exact hi _ _ _ a b
    · rename_i hk
      rw [if_neg hk] at h2
      exact cells_inj hl hi h1 h2
theorem newEnv_comp {M : Model} {A : Around} {E : Value → Shared → Prop} {s : Shared} {scope : Scope} {globals : Addr} {closure : List (Str × Addr)} {qual : Str} {func : Option Addr} {code : Value} {around : Env} {builtins : Addr} {Q : Env → Shared → Prop}
    (h : Q (newEnv scope s.heap.objs.size globals (cellsFrom (s.heap.objs.size + 1) scope.names closure) qual func code (some around) builtins)
      { s with heap := pushCells (s.heap.push { cls := .type "dict", data := .dict #[] }) scope.names }) :
    wpAny M A (newFunctionEnv scope globals closure [] qual func code (some around) builtins) Q E s := by
  simp only [newFunctionEnv, Option.isSome_some, if_true]
  refine wpAny_bind (wpAny_alloc ?_)
  refine wpAny_bind (wpAny_layCells _ (fun n k c => rfl) scope.names closure _ _ ?_)
  rw [show ({ s with heap := s.heap.push { cls := .type "dict", data := .dict #[] } } : Shared).heap.objs.size = s.heap.objs.size + 1 from Heap.size_push ..]
  rw [List.forIn_nil]
  exact wpAny_bind (wpAny_pure (wpAny_pure h))
theorem lookup_relS {sc : Scope} : ∀ {names : List (Str × NameKind)} {x : Str} {k : NameKind},
    (names.map fun (n, k) => if (k == NameKind.free && sc.kind == .function && sc.names.lookup n == some .cell) then (n, NameKind.cell) else (n, k)).lookup x = some k →
    ∃ k', names.lookup x = some k' ∧ (k = k' ∨ (k' = .free ∧ k = .cell))
  | [], _, _, h => by simp at h
  | (n, k₀) :: r, x, k, h => by
    have ih := @lookup_relS sc r x k
    have h' : List.lookup x ((if (k₀ == NameKind.free && sc.kind == .function && sc.names.lookup n == some .cell) = true then (n, NameKind.cell) else (n, k₀)) :: (r.map _)) = some k := h
    cases hx : x == n with
    | true =>
      simp only [List.lookup_cons, hx]
      by_cases hc : (k₀ == NameKind.free && sc.kind == .function && sc.names.lookup n == some .cell) = true
      · rw [if_pos hc] at h'
        simp only [List.lookup_cons, hx] at h'
        cases h'
        simp only [Bool.and_eq_true, beq_iff_eq] at hc
        exact ⟨k₀, rfl, .inr ⟨hc.1.1, rfl⟩⟩
      · rw [if_neg hc] at h'
        simp only [List.lookup_cons, hx] at h'
        cases h'
        exact ⟨_, rfl, .inl rfl⟩
    | false =>
      simp only [List.lookup_cons, hx]
      by_cases hc : (k₀ == NameKind.free && sc.kind == .function && sc.names.lookup n == some .cell) = true
      · rw [if_pos hc] at h'
        simp only [List.lookup_cons, hx] at h'
        exact ih h'
      · rw [if_neg hc] at h'
        simp only [List.lookup_cons, hx] at h'
        exact ih h'
structure BlkOk (N : List Str) (sc scope : Scope) (own : List (Str × Nat)) : Prop where
  kind : scope.kind = .function
  uniq : ∀ y ∈ scope.names, scope.names.lookup y.1 = some y.2
  ix : ∀ p ∈ own, N[p.2]? = some p.1
  free : ∀ y ∈ scope.names, y.2 = .free → sc.names.lookup y.1 = some .cell ∨ sc.names.lookup y.1 = some .free
  own : ∀ y ∈ scope.names, y.2 = .local ∨ y.2 = .cell → y.1 ∈ own.map (·.1) ∨ y.1 ∉ N
def wipe (σ : St) : List Nat → St
  | [] => σ
  | v :: vs => (wipe σ vs).set v none
theorem wipe_length (σ : St) : ∀ vs : List Nat, (wipe σ vs).length = σ.length
  | [] => rfl
  | v :: vs => by unfold wipe; rw [List.length_set, wipe_length σ vs]
theorem wipe_some {σ : St} {i : Nat} {x : V} : ∀ {vs : List Nat}, (wipe σ vs)[i]? = some (some x) → σ[i]? = some (some x) ∧ i ∉ vs
  | [], h => ⟨h, by simp⟩
  | v :: vs, h => by
    unfold wipe at h
    by_cases hi : v = i
    · subst hi
      by_cases hv : v < (wipe σ vs).length
      · rw [List.getElem?_set_self hv] at h; cases h
      · rw [List.getElem?_eq_none (by simpa using hv)] at h; cases h
    · rw [List.getElem?_set_ne hi] at h
      obtain ⟨h1, h2⟩ := wipe_some h
      exact ⟨h1, by simp only [List.mem_cons, not_or]; exact ⟨fun e => hi e.symm, h2⟩⟩
abbrev Cx.blk (X : Cx) (s : Shared) (H : Hp) (scope : Scope) (cenv : Env) (fp : List Addr) : Cx := { X with s_0 := s, H_0 := H, env := cenv, outer := X.stack, ex := fp, fn := fun x => scope.names.lookup x == some .cell, pn := [], xe := fun _ _ => False }
section
variable {X : Cx} {pins : List (Addr × Obj)} {σ : St} {H : Hp} {s : Shared}
theorem block_start {scope : Scope} {own : List (Str × Nat)} {fp : List Addr} (I : Inv X pins σ H s) (ok : BlkOk X.N X.env.scope scope own) (hN : X.N.Nodup) (hfp : ∀ b ∈ fp, FpOk X pins H b ∧ b < s.heap.objs.size) :
    Inv (X.blk s H scope (compEnvC scope (cellsFrom (s.heap.objs.size + 1) scope.names (cloFrom X.env.cells scope.names [])) s.heap.objs.size X.env) fp) [] (wipe σ (own.map (·.2))) H { s with heap := pushCells (s.heap.push { cls := .type "dict", data := .dict #[] }) scope.names } := by
  have hfree : ∀ y ∈ scope.names, y.2 = .free → ∃ c, X.env.cells.lookup y.1 = some c := fun y hy e => by
    rcases ok.free y hy e with k | k
    · exact I.ok.has _ (.inl k)
    · exact I.ok.has _ (.inr k)
  generalize hcenv : compEnvC scope (cellsFrom (s.heap.objs.size + 1) scope.names (cloFrom X.env.cells scope.names [])) s.heap.objs.size X.env = cenv
  have kp : ∀ b o, s.heap.get? b = some o → (pushCells (s.heap.push { cls := .type "dict", data := .dict #[] }) scope.names).get? b = some o := fun b o e => pushCells_keeps _ _ _ _ (Heap.get?_push_of_some _ e)
  have hL : cenv.locals = s.heap.objs.size := by rw [← hcenv]; rfl
  have hcl : cenv.cells = cellsFrom (s.heap.objs.size + 1) scope.names (cloFrom X.env.cells scope.names []) := by rw [← hcenv]; rfl
  have hsc : cenv.scope = relS scope X.env.scope := by rw [← hcenv]; rfl
  rw [← Heap.size_push s.heap { cls := .type "dict", data := .dict #[] }] at hcl
  have cm : ∀ {y c}, (y, c) ∈ cloFrom X.env.cells scope.names [] → X.env.cells.lookup y = some c ∧ c < s.heap.objs.size := fun {y c} hm => by
    rcases cloFrom_mem hm with hm | ⟨h1, rfl⟩
    · cases hm
    · obtain ⟨c, hc⟩ := hfree _ h1 rfl
      rw [hc]
      obtain ⟨w, z⟩ := I.cell _ _ hc
      exact ⟨rfl, z.lt⟩
  have mem : ∀ {y c}, cenv.cells.lookup y = some c → (X.env.cells.lookup y = some c ∧ c < s.heap.objs.size) ∨ (s.heap.objs.size + 1 ≤ c ∧ CellAt (pushCells (s.heap.push { cls := .type "dict", data := .dict #[] }) scope.names) c none) := fun {y c} e => by
    rw [hcl] at e
    rcases cells_mem (PySem.mem_of_lookup e) with hm | ⟨_, h2, h3⟩
    · exact .inl (cm hm)
    · rw [Heap.size_push] at h2; exact .inr ⟨h2, h3⟩
  have look : ∀ {y}, scope.names.lookup y = some .free → ∃ c, cenv.cells.lookup y = some c ∧ X.env.cells.lookup y = some c := fun {y} hl => by
    have hy : (y, NameKind.free) ∈ scope.names := PySem.mem_of_lookup hl
    obtain ⟨c', e'⟩ := mem_lookup (cells_acc (names := scope.names) (n := (s.heap.push { cls := .type "dict", data := .dict #[] }).objs.size) (cloFrom_has (cells := X.env.cells) (acc := []) hy))
    rw [← hcl] at e'
    refine ⟨c', e', ?_⟩
    rw [hcl] at e'
    rcases cells_mem (PySem.mem_of_lookup e') with hm | ⟨h1, _, _⟩
    · exact (cm hm).1
    · have := ok.uniq _ h1
      rw [hl] at this; cases this
  have okB : (X.blk s H scope cenv fp).Ok := by
    refine ⟨I.ok.mod, by show cenv.scope.kind = _; rw [hsc]; exact ok.kind, by show cenv.globals = _; rw [← hcenv]; exact I.ok.glob, by show cenv.builtins = _; rw [← hcenv]; exact I.ok.blt, by show s.heap.objs.size ≤ cenv.locals; rw [hL]; exact Nat.le_refl _,
      fun y z c e1 e2 => ?_, fun y hy => ?_, fun y c z e => ?_, I.ok.hd, I.ok.frames, .inl rfl, fun b hb => ⟨?_, fun y c e z => ?_⟩, I.bs, Nat.le_trans I.ok.bsz I.sz, fun b o e hb => ?_, fun b hb z => ?_, I.stack, I.stkFree⟩
    · have e1 : cenv.cells.lookup y = some c := e1
      have e2 : cenv.cells.lookup z = some c := e2
      rw [hcl] at e1 e2
      refine cells_inj (fun p hp => ?_) (fun y z c a b => I.ok.inj y z c (cm a).1 (cm b).1) (PySem.mem_of_lookup e1) (PySem.mem_of_lookup e2)
      rw [Heap.size_push]
      exact Nat.lt_succ_of_lt (cm (y := p.1) (c := p.2) hp).2
    · show ∃ c, cenv.cells.lookup y = some c
      have key : ∀ k, cenv.kindOf y = some k → (k = .cell ∨ k = .free) → ∃ c, cenv.cells.lookup y = some c := fun k hk hk' => by
        unfold Env.kindOf at hk
        rw [hsc] at hk
        obtain ⟨k', e, r⟩ := lookup_relS hk
        have : k' = .cell ∨ k' = .free := by
          rcases r with rfl | ⟨rfl, _⟩
          · exact hk'
          · exact .inr rfl
        rcases this with rfl | rfl
        · obtain ⟨c, hm⟩ := cells_has (n := (s.heap.push { cls := .type "dict", data := .dict #[] }).objs.size) (acc := cloFrom X.env.cells scope.names []) (PySem.mem_of_lookup e)
          obtain ⟨c', e'⟩ := mem_lookup hm
          exact ⟨c', by rw [hcl]; exact e'⟩
        · obtain ⟨c, h1, _⟩ := look e
          exact ⟨c, h1⟩
      rcases hy with hy | hy
      · exact key _ hy (.inl rfl)
      · exact key _ hy (.inr rfl)
    · have z : (scope.names.lookup y == some NameKind.cell) = true := z
      have z : scope.names.lookup y = some .cell := by simpa using z
      have e : cenv.cells.lookup y = some c := e
      rw [hcl] at e
      rcases cells_mem (PySem.mem_of_lookup e) with hm | ⟨_, h2, _⟩
      · rcases cloFrom_mem hm with hm | ⟨h1, _⟩
        · cases hm
        · have q := ok.uniq _ h1
          rw [z] at q; cases q
      · rw [Heap.size_push] at h2
        exact Nat.le_of_succ_le h2
    · show b ≠ cenv.locals
      rw [hL]; exact Nat.ne_of_lt (hfp b hb).2
    · have e : cenv.cells.lookup y = some c := e
      rcases mem e with ⟨h1, _⟩ | ⟨h1, _⟩
      · exact (hfp b hb).1.2.2.2.2.1 y c h1 z
      · have h2 : s.heap.objs.size + 1 ≤ b := by rw [← z]; exact h1
        exact absurd (Nat.lt_of_lt_of_le (hfp b hb).2 (Nat.le_of_succ_le h2)) (Nat.lt_irrefl _)
    · rcases (hfp b hb).1.2.2.2.1 with z | z
      · exact I.ok.noex b o e z
      · exact absurd (Nat.lt_of_lt_of_le (Heap.lt_size e) (Nat.le_trans I.ok.bsz z)) (Nat.lt_irrefl _)
    · rcases List.mem_cons.mp (I.stkSub b z) with z | z
      · exact (hfp b hb).1.2.1 z
      · exact (hfp b hb).1.2.2.1 z
  refine ⟨okB, rfl, I.bare, Un.kept kp, ⟨fun _ => none, ?_, fun i y av e1 e2 e3 => ?_⟩, fun y c e => ?_, ?_, fun y c e => ?_, fun p hp => ?_, I.hok.kept kp, by rw [wipe_length]; exact I.len⟩
  · show Heap.Ns _ cenv.locals _
    rw [hL]
    exact Heap.Ns.keeps (Heap.Ns.new ..) fun b o e => pushCells_keeps _ _ _ _ e
  · obtain ⟨e2, hne⟩ := wipe_some e2
    have hfr : scope.names.lookup y = some .free ∧ (cenv.kindOf y = some .cell ∨ cenv.kindOf y = some .free) := by
      have key : ∀ k, cenv.scope.names.lookup y = some k → k = .local ∨ k = .cell ∨ k = .free → scope.names.lookup y = some .free ∧ (cenv.kindOf y = some .cell ∨ cenv.kindOf y = some .free) := fun k hk hk' => by
        have hk0 := hk
        rw [hsc] at hk
        obtain ⟨k', e, r⟩ := lookup_relS hk
        have no : ¬ (k' = .local ∨ k' = .cell) := fun hh => by
          rcases ok.own _ (PySem.mem_of_lookup e) hh with e' | e'
          · obtain ⟨p, hp, hpy⟩ := List.mem_map.mp e'
            have e3 := ok.ix p hp
            have : p.1 = y := hpy
            rw [this] at e3
            exact hne (List.mem_map.mpr ⟨p, hp, nodup_ix hN e3 e1⟩)
          · exact e' (List.mem_of_getElem? e1)
        rcases r with rfl | ⟨rfl, rfl⟩
        · rcases hk' with rfl | rfl | rfl
          · exact absurd (.inl rfl) no
          · exact absurd (.inr rfl) no
          · exact ⟨e, .inr hk0⟩
        · exact ⟨e, .inl hk0⟩
      have e3 : Vis cenv.scope y := e3
      rcases e3 with e3 | e3 | e3
      · exact key _ e3 (.inl rfl)
      · exact key _ e3 (.inr (.inl rfl))
      · exact key _ e3 (.inr (.inr rfl))
    obtain ⟨m, hn, hl⟩ := I.loc
    have hvis : Vis X.env.scope y := (ok.free _ (PySem.mem_of_lookup hfr.1) rfl).elim (fun k => .inr (.inl k)) (fun k => .inr (.inr k))
    obtain ⟨w, r, q⟩ := hl i y av e1 e2 hvis
    refine ⟨w, r, .inr ⟨hfr.2, ?_⟩⟩
    obtain ⟨c, h1, h2⟩ := look hfr.1
    rcases q with ⟨k, _⟩ | ⟨_, c', e', z⟩
    · have k : X.env.scope.names.lookup y = some .local := k
      rcases ok.free _ (PySem.mem_of_lookup hfr.1) rfl with k' | k' <;> rw [show X.env.scope.names.lookup y = _ from k'] at k <;> cases k
    · rw [h2] at e'; cases e'
      exact ⟨c, h1, z.keeps kp⟩
  · have e : cenv.cells.lookup y = some c := e
    rcases mem e with ⟨h1, _⟩ | ⟨_, z⟩
    · obtain ⟨w, z⟩ := I.cell y c h1
      exact ⟨w, z.keeps kp⟩
    · exact ⟨_, z⟩
  · show H cenv.locals = none
    rw [hL]; exact I.hok.fresh (Nat.le_refl _)
  · have e : cenv.cells.lookup y = some c := e
    rcases mem e with ⟨h1, _⟩ | ⟨h1, _⟩
    · exact I.freeC y c h1
    · exact I.hok.fresh (Nat.le_of_succ_le h1)
  · exact absurd (show p ∈ ([] : List (Addr × Obj)) ++ [] from hp) (by simp)
theorem app_ok {E : Value → Shared → Prop} {D : Addr} {xs : List V} {y : V} {v : Value} {Q : Value → Shared → Prop} (I : Inv X pins σ H s) (hD : H D = some (.lst xs)) (hz : xs.length < sizeLine) (r : RelV y v)
    (h : ∀ s', Inv X pins σ (upd H D (.lst (xs ++ [y]))) s' → Q .none s') : wpAny (model X.prog X.w) X.A (call (.builtin "list.append") [.ref D, v]) Q E s := by
  obtain ⟨hz', its, n, ri, e⟩ := I.hok D _ hD
  have hl := ri.length
  refine append_at (hsz := by rw [List.size_toArray]; omega) e fun h' sb ho' => ?_
  refine h { s with heap := h' } (I.write (t' := s.toks) (by rw [hD]; trivial) (.inl rfl) (fun b u hb q => (sb.2 b hb).trans q) ⟨_, ho'⟩ ⟨by rw [List.length_append]; exact hz, its ++ [v], n + 1, ri.append (.cons r .nil), ?_⟩)
  rw [ho']
  simp
def PTs (X : Cx) (ifs : List Expr) (t : TT) : Prop :=
  ∀ (pins : List (Addr × Obj)) (s : Shared) (σ : St) (H : Hp) (Q : Bool → Hp → Prop), Inv X pins σ H s → t σ H Q →
    wpAny (model X.prog X.w) X.A (forIn ifs true fun c r => if r = true then do let ok ← isTrue c X.env (eval c X.env); pure (ForInStep.yield ok) else pure (ForInStep.yield r)) (TP X pins σ Q) X.xe s
def tYes : TT := fun _ H Q => Q true H
theorem pts_nil : PTs X [] tYes := fun _ _ _ H _ I h => wpAny_tests_nil ⟨H, I, h⟩
theorem pts_one {c : Expr} {t : TT} (h : PT X c t) : PTs X [c] t := fun pins s σ H Q I hw => wpAny_tests_one (h pins s σ H Q I hw)
end

theorem thnF {α : Type} {t : Sem α} {Q Q' : α → Shared → Prop} {M : Model} {A : Around} {E : Value → Shared → Prop} {s : Shared} (h : wpAny M A t Q (fun _ _ => False) s) (hQ : ∀ a s, Q a s → Q' a s) : wpAny M A t Q' E s := wpAny_mono h hQ fun _ _ z => False.elim z
theorem compLoop_any {prog : Program} {w : World} {A : Around} {R : Result → Shared → Prop} {s : Shared} {elt target iter : Expr} {ifs : List Expr} {scope : Scope} {pos : Pos} {it acc : Value} {env : Env} (I : Nat → Shared → Prop)
    (turn : ∀ n s, I n s → wpAny (model prog w) A (pyNext it) (fun r s₁ => match r with
      | none => R (.ok .next) s₁
      | some v => wpAny (model prog w) A (letOwnedTupleGo target it v) (fun _ s₁' => wpAny (model prog w) A (assign target env v) (fun _ s₂ =>
          wpAny (model prog w) A (forIn ifs true fun c r => if r = true then do let ok ← isTrue c env (eval c env); pure (ForInStep.yield ok) else pure (ForInStep.yield r)) (fun ok s₃ =>
            if ok = true then wpAny (model prog w) A (eval elt env) (fun x s₄ =>
              wpAny (model prog w) A (call (.builtin "list.append") [acc, x]) (fun _ s₅ => ∃ m, m < n ∧ I m s₅) (notedBy (model prog w) A env fun e s' => R (.error e) s') s₄) (notedBy (model prog w) A env fun e s' => R (.error e) s') s₃
            else ∃ m, m < n ∧ I m s₃) (notedBy (model prog w) A env fun e s' => R (.error e) s') s₂) (notedBy (model prog w) A env fun e s' => R (.error e) s') s₁') (notedBy (model prog w) A env fun e s' => R (.error e) s') s₁) (notedBy (model prog w) A env fun e s' => R (.error e) s') s)
    (n : Nat) (h : I n s) :
    codeAny (model prog w) A (.compLoop (.ListComp elt [⟨target, iter, ifs, 0⟩] scope pos) 0 it acc env) R s := by
  refine codeAny_loop rfl I (fun n s hI => ?_) n h
  show wpAny _ A ((compTurn (.ListComp elt [⟨target, iter, ifs, 0⟩] scope pos) 0 it acc env).onRaise (fun x => do noteFrame x env; theTreesLotGoes x)) _ _ s
  refine wpAny_noted ?_
  rw [compTurn_list]
  refine wpAny_bind (wpAny_standAt (wpAny_bind (wpAny_mono (turn n s hI) (fun r s₁ h₁ => ?_) fun _ _ h' => h')))
  cases r with
  | none => exact wpAny_pure h₁
  | some v =>
    refine wpAny_bind (wpAny_mono h₁ (fun _ s₁' h₁' => ?_) fun _ _ h' => h')
    refine wpAny_bind (wpAny_mono h₁' (fun _ s₂ h₂ => wpAny_bind (wpAny_mono h₂ (fun ok s₃ h₃ => ?_) fun _ _ h' => h')) fun _ _ h' => h')
    cases ok with
    | false => exact wpAny_pure ⟨rfl, h₃⟩
    | true =>
      exact wpAny_bind (wpAny_bind (wpAny_mono h₃ (fun x s₄ h₄ => wpAny_bind (wpAny_mono h₄ (fun _ s₅ h₅ => wpAny_pure (wpAny_pure ⟨rfl, h₅⟩)) fun _ _ h' => h')) fun _ _ h' => h'))
section
variable {X : Cx}
def tLc (wi : TI) (g : TG) (tt : TT) (te : TE) (vs : List Nat) : TE := fun σ H Q => wi σ H fun J H1 => ∀ D, H1 D = none → ∃ W : Nat → Nat → Hp → Prop, (∃ m, W 0 m (upd H1 D (.lst []))) ∧ ∀ i m H, W i m H →
  (J.stop i H ∧ Q (.ref D) H) ∨ (J.go i H ∧ ∃ Nx : Hp → Prop, (∀ H', Nx H' → ∃ m', m' < m ∧ W (i + 1) m' H') ∧ ∀ x H', J.yld i H x H' → g x (wipe σ vs) H' fun σ2 H2 => wipe σ2 vs = wipe σ vs ∧ tt σ2 H2 fun b H3 =>
    if b = true then te σ2 H3 fun y H4 => ∃ acc, H4 D = some (.lst acc) ∧ acc.length < sizeLine ∧ Nx (upd H4 D (.lst (acc ++ [y]))) else Nx H3)
theorem lc_core {pins : List (Addr × Obj)} {s : Shared} {σ : St} {H : Hp} {Q : VK} {elt tg iter : Expr} {ifs : List Expr} {scope : Scope} {own : List (Str × Nat)} {pos pos' : Pos} {wi : TI} {g : TG} {tt : TT} {te : TE} {use : Option (Value → Sem Unit)} {Qf : Value → Shared → Prop}
    (hc : X.calm = true) (hN : X.N.Nodup) (I : Inv X pins σ H s) (hi : PI X tg iter wi) (ok : BlkOk X.N X.env.scope scope own)
    (hg : ∀ (s : Shared) (H : Hp) (C : Addr) (cl : List (Str × Addr)) (fp : List Addr), PG (X.blk s H scope (compEnvC scope cl C X.env) fp) tg g) (ht : ∀ (s : Shared) (H : Hp) (C : Addr) (cl : List (Str × Addr)) (fp : List Addr), PTs (X.blk s H scope (compEnvC scope cl C X.env) fp) ifs tt)
    (he : ∀ (s : Shared) (H : Hp) (C : Addr) (cl : List (Str × Addr)) (fp : List Addr), PE (X.blk s H scope (compEnvC scope cl C X.env) fp) elt te) (hs : ∀ x, foldedSetIterable iter X.env x = pure x)
    (h : tLc wi g tt te (own.map (·.2)) σ H Q)
    (hRR : ∀ D C s' m H', Inv X pins σ H' s' → Q (.ref D) H' → s'.heap.Ns C m → FpOk X pins H' C → compPost (model X.prog X.w) X.A X.xe use Qf (.ref D) C (.ok .next) s') :
    wpAny (model X.prog X.w) X.A (comprehension (.ListComp elt [⟨tg, iter, ifs, 0⟩] scope pos) scope X.env pos' (newList []) false (eval iter X.env) use) Qf X.xe s := by
  have hfree : ∀ y ∈ scope.names, y.2 = .free → ∃ c, X.env.cells.lookup y.1 = some c := fun y hy e => by
    rcases ok.free y hy e with k | k
    · exact I.ok.has _ (.inl k)
    · exact I.ok.has _ (.inr k)
  refine wpAny_comprehension_free (use := use) rfl hs (closure_ok hfree) ok.kind (fun y hy e => by rw [ok.uniq y hy, e])
    (thn (hi pins s σ H _ I h) fun xv s1 hx => thn hx fun itv s2 h2 => ?_)
  obtain ⟨it, fp, tn, J, H2, e, I2, T, st2, f2, q⟩ := h2
  subst e
  refine wpAny_newObj_type (newEnv_comp ?_) (by show 0 ≤ sizeLine; decide)
  generalize hD : s2.heap.objs.size = D
  have hDn : H2 D = none := I2.hok.fresh (Nat.le_of_eq hD)
  obtain ⟨W, ⟨m0, w0⟩, turn⟩ := q D hDn
  generalize hs3 : ({ s2 with heap := s2.heap.push { cls := .type "list", data := .seq ([] : List Value).toArray } } : Shared) = s3
  have I3 : Inv X pins σ (upd H2 D (.lst [])) s3 := by
    rw [← hs3]
    refine I2.laid (t' := s2.toks) (fun b o e => Heap.get?_push_of_some _ e) (Nat.le_of_eq hD) ⟨Nat.zero_le _, [], 0, .nil, ?_⟩
    rw [← hD]
    exact Heap.get?_push_size _ rfl
  have h3 : s3.heap = s2.heap.push { cls := .type "list", data := .seq ([] : List Value).toArray } := by rw [← hs3]
  have sz : ∀ b ∈ fp, b < s2.heap.objs.size := fun b hb => by
    obtain ⟨o, e, _⟩ := T.obj _ _ st2 b hb
    exact Heap.lt_size e
  have f3 : ∀ b ∈ fp, FpOk X pins (upd H2 D (.lst [])) b ∧ b < s3.heap.objs.size := fun b hb => by
    have hlt := sz b hb
    refine ⟨⟨?_, (f2 b hb).2⟩, by rw [h3, Heap.size_push]; exact Nat.lt_succ_of_lt hlt⟩
    rw [upd_ne (by rw [← hD]; exact Nat.ne_of_lt hlt)]
    exact (f2 b hb).1
  have st3 : tn 0 s3.heap := T.keep _ _ _ st2 fun b _ o e => by rw [h3]; exact Heap.get?_push_of_some _ e
  have I4 := block_start I3 ok hN f3
  have pg := hg s3 (upd H2 D (.lst [])) s3.heap.objs.size (cellsFrom (s3.heap.objs.size + 1) scope.names (cloFrom X.env.cells scope.names [])) fp
  have pt := ht s3 (upd H2 D (.lst [])) s3.heap.objs.size (cellsFrom (s3.heap.objs.size + 1) scope.names (cloFrom X.env.cells scope.names [])) fp
  have pe := he s3 (upd H2 D (.lst [])) s3.heap.objs.size (cellsFrom (s3.heap.objs.size + 1) scope.names (cloFrom X.env.cells scope.names [])) fp
  show codeAny _ _ (.compStart (.ListComp elt [⟨tg, iter, ifs, 0⟩] scope pos) 0 (.ref it) (.ref D) (compEnvC scope (cellsFrom (s3.heap.objs.size + 1) scope.names (cloFrom X.env.cells scope.names [])) s3.heap.objs.size X.env)) (compPost (model X.prog X.w) X.A X.xe use Qf (.ref D) s3.heap.objs.size) { s3 with heap := pushCells (s3.heap.push { cls := .type "dict", data := .dict #[] }) scope.names }
  have nfp : ∀ b ∈ fp, (upd H2 D (.lst [])) b = none := fun b hb => (f3 b hb).1.1
  generalize hce : compEnvC scope (cellsFrom (s3.heap.objs.size + 1) scope.names (cloFrom X.env.cells scope.names [])) s3.heap.objs.size X.env = ce at I4 pg pt pe ⊢
  have cL : ce.locals = s3.heap.objs.size := by subst hce; rfl
  generalize hH3 : upd H2 D (.lst []) = H3 at I3 I4 pg pt pe w0 nfp f3
  generalize hs4 : ({ s3 with heap := pushCells (s3.heap.push { cls := .type "dict", data := .dict #[] }) scope.names } : Shared) = s4 at I4 ⊢
  have st4 : tn 0 s4.heap := T.keep _ _ _ st3 fun b _ o e => by rw [← hs4]; exact pushCells_keeps _ _ _ _ (Heap.get?_push_of_some _ e)
  have stat : ∀ {σ' : St} {H' : Hp} {s' : Shared}, Inv (X.blk s3 H3 scope ce fp) [] σ' H' s' → (∀ b ∈ fp, H' b = none) → ∀ b ∈ fp, FpOk (X.blk s3 H3 scope ce fp) [] H' b := fun {σ' H' s'} I' hn b hb =>
    ⟨hn b hb, (I'.ok.exf b hb).1, I'.ok.exfs b hb, .inl hb, fun x c e => (I'.ok.exf b hb).2 x c e, fun p hp => absurd (show p ∈ ([] : List (Addr × Obj)) ++ [] from hp) (by simp)⟩
  have loop : codeAny (model X.prog X.w) X.A (.compLoop (.ListComp elt [⟨tg, iter, ifs, 0⟩] scope pos) 0 (.ref it) (.ref D) ce) (compPost (model X.prog X.w) X.A X.xe use Qf (.ref D) s3.heap.objs.size) s4 := by
    refine compLoop_any (fun n s' => ∃ i H', Inv (X.blk s3 H3 scope ce fp) [] (wipe σ (own.map (·.2))) H' s' ∧ tn i s'.heap ∧ (∀ b ∈ fp, H' b = none) ∧ W i n H') ?_ m0 ⟨0, H3, I4, st4, nfp, w0⟩
    rintro n s5 ⟨i, H5, I5, st5, n5, w5⟩
    rcases turn i n H5 w5 with ⟨stop, qq⟩ | ⟨go, Nx, hNx, step⟩
    · have td := T.done (X.blk s3 H3 scope ce fp) rfl rfl rfl hc i [] s5 _ H5 (fun _ _ => False) I5 (stat I5 n5) st5 stop
      refine thnF td fun r s6 ⟨hr, I6⟩ => ?_
      subst hr
      have I7 : Inv X pins σ H5 s6 := I3.call' (ch := fp) I6.os I6.base I6.hok I6.bare fun b hb => ⟨(f3 b hb).1.2.2.2.1, (f3 b hb).1.2.1, (f3 b hb).1.2.2.2.2.1, (f3 b hb).1.2.2.2.2.2⟩
      have nC : H5 s3.heap.objs.size = none := by
        have z : H5 ce.locals = none := I6.free
        rw [cL] at z
        exact z
      obtain ⟨m, hn, _⟩ := I6.loc
      have hn : s6.heap.Ns ce.locals m := hn
      rw [cL] at hn
      exact hRR D s3.heap.objs.size s6 m H5 I7 qq hn (I3.fpOk (Nat.le_refl _) nC)
    · have ti := T.item (X.blk s3 H3 scope ce fp) rfl rfl rfl hc i [] s5 _ H5 (fun _ _ => False) I5 (stat I5 n5) st5 go
      refine thnF ti fun r s6 ⟨u, hr, h6⟩ => ?_
      subst hr
      refine thnF h6 fun _ s7 ⟨x, H7, I7, r7, y7, st7, n7⟩ => ?_
      have I7' := I7.pinned (stat I7 n7) (T.obj _ _ st7)
      refine thnF (pg _ s7 _ H7 x u _ I7' r7 (step x H7 y7)) fun _ s8 ⟨σ8, H8, I8, hw8, q8⟩ => ?_
      refine thnF (pt _ s8 σ8 H8 _ I8 q8) fun b s9 ⟨H9, I9, q9⟩ => ?_
      have fin : ∀ {s' : Shared} {H' : Hp}, Inv (X.blk s3 H3 scope ce fp) ([] ++ pinsAt fp s7.heap) σ8 H' s' → Nx H' → ∃ m, m < n ∧ ∃ i H', Inv (X.blk s3 H3 scope ce fp) [] (wipe σ (own.map (·.2))) H' s' ∧ tn i s'.heap ∧ (∀ b ∈ fp, H' b = none) ∧ W i m H' := fun {s' H'} I' nx => by
        obtain ⟨m', hm, w'⟩ := hNx H' nx
        have pin' : ∀ b ∈ fp, ∀ o, s7.heap.get? b = some o → s'.heap.get? b = some o ∧ H' b = none := fun b hb o e =>
          let z := I'.pin (b, o) (List.mem_append_right _ (List.mem_append_right _ (mem_pinsAt hb e)))
          ⟨z.1, z.2.1⟩
        have hl : (wipe σ (own.map (·.2))).length = σ8.length := by rw [← hw8, wipe_length]
        refine ⟨m', hm, i + 1, H', (I'.unpinned (pins := [])).weak hl (fun j v e => ?_), T.keep _ _ _ st7 fun b hb o e => (pin' b hb o e).1, fun b hb => ?_, w'⟩
        · rw [← hw8] at e
          exact (wipe_some e).1
        · obtain ⟨o, e, _⟩ := T.obj _ _ st7 b hb
          exact (pin' b hb o e).2
      cases b with
      | false =>
        simp only [Bool.false_eq_true, if_false] at q9 ⊢
        exact fin I9 q9
      | true =>
        simp only [if_true] at q9 ⊢
        refine thnF (pe _ s9 σ8 H9 _ I9 q9) fun z s10 ⟨yv, H10, I10, r10, acc, hD10, hz10, nx⟩ => ?_
        exact app_ok (X := X.blk s3 H3 scope ce fp) I10 hD10 hz10 r10 fun s11 I11 => fin I11 nx
  exact codeAny_compStart_list loop (T.self X.A 0 _ _ _ st4 loop)
theorem pe_lc {elt tg iter : Expr} {ifs : List Expr} {scope : Scope} {own : List (Str × Nat)} {pos : Pos} {wi : TI} {g : TG} {tt : TT} {te : TE} (hc : X.calm = true) (hN : X.N.Nodup) (hi : PI X tg iter wi) (ok : BlkOk X.N X.env.scope scope own)
    (hg : ∀ (s : Shared) (H : Hp) (C : Addr) (cl : List (Str × Addr)) (fp : List Addr), PG (X.blk s H scope (compEnvC scope cl C X.env) fp) tg g) (ht : ∀ (s : Shared) (H : Hp) (C : Addr) (cl : List (Str × Addr)) (fp : List Addr), PTs (X.blk s H scope (compEnvC scope cl C X.env) fp) ifs tt)
    (he : ∀ (s : Shared) (H : Hp) (C : Addr) (cl : List (Str × Addr)) (fp : List Addr), PE (X.blk s H scope (compEnvC scope cl C X.env) fp) elt te) (hs : ∀ x, foldedSetIterable iter X.env x = pure x := by intro _; rfl) :
    PE X (.ListComp elt [⟨tg, iter, ifs, 0⟩] scope pos) (tLc wi g tt te (own.map (·.2))) := by
  intro pins s σ H Q I h
  rw [eval_ListComp]
  refine lc_core hc hN I hi ok hg ht he hs h fun D C s' m H' I' q hn f => ⟨m, hn, fun h'' sb => ?_⟩
  obtain ⟨f0, f1, f2, f3, f4, f5⟩ := f
  exact ⟨.ref D, H', I'.turned (t' := s'.toks) (fun b o hb e => (sb.2 b hb).trans e) f0 f1 f3 f4 f5, rfl, q⟩
theorem ps_setLc {i : Nat} {y : Str} {py : Pos} {elt tg iter : Expr} {ifs : List Expr} {scope : Scope} {own : List (Str × Nat)} {pos spos : Pos} {wi : TI} {g : TG} {tt : TT} {te : TE} (hc : X.calm = true) (hN : X.N.Nodup) (hy : X.N[i]? = some y) (hyl : X.env.scope.names.lookup y = some .local)
    (hsw : swapsWith (.ListComp elt [⟨tg, iter, ifs, 0⟩] scope pos) (some (.Name y py)) spos.line X.env = pure true) (hi : PI X tg iter wi) (ok : BlkOk X.N X.env.scope scope own)
    (hg : ∀ (s : Shared) (H : Hp) (C : Addr) (cl : List (Str × Addr)) (fp : List Addr), PG (X.blk s H scope (compEnvC scope cl C X.env) fp) tg g) (ht : ∀ (s : Shared) (H : Hp) (C : Addr) (cl : List (Str × Addr)) (fp : List Addr), PTs (X.blk s H scope (compEnvC scope cl C X.env) fp) ifs tt)
    (he : ∀ (s : Shared) (H : Hp) (C : Addr) (cl : List (Str × Addr)) (fp : List Addr), PE (X.blk s H scope (compEnvC scope cl C X.env) fp) elt te) (hs : ∀ x, foldedSetIterable iter X.env x = pure x := by intro _; rfl) :
    PS X (.Assign [.Name y py] (.ListComp elt [⟨tg, iter, ifs, 0⟩] scope pos) spos) (tAsg (tLc wi g tt te (own.map (·.2))) (gName i)) := by
  intro pins s σ H D I h
  rw [exec_Assign_Name_used _ _ _ _ hsw]
  refine wpAny_bind (wpAny_standAt (wpAny_bind ?_))
  show wpAny _ X.A (do let _ ← comprehension (.ListComp elt [⟨tg, iter, ifs, 0⟩] scope pos) scope X.env (firstIterPos [⟨tg, iter, ifs, 0⟩] pos) (newList []) false (eval iter X.env) (some (assign (.Name y py) X.env))) _ _ s
  have h : tLc wi g tt te (own.map (·.2)) σ H (fun x H1 => gName i x σ H1 D.nx) := h
  refine wpAny_bind (thn (lc_core (Qf := fun _ s' => SP X pins D .next s') hc hN I hi ok hg ht he hs h fun L C s' m H' I' q hn f => ?_) fun _ s' hq => wpAny_pure (wpAny_pure hq))
  show wpAny _ _ (assign (.Name y py) X.env (.ref L)) _ _ _
  refine wpAny_assign_Name (store_ok2 (v := V.ref L) I' hN hy (.inl hyl) rfl (fun s2 I2 ⟨a, sb, ha⟩ => ?_) (.inr hyl))
  obtain ⟨f0, f1, f2, f3, f4, f5⟩ := f
  have haC : C ≠ a := by
    rcases ha with z | z
    · rw [z]; exact f1
    · exact fun e => f4 y a z e.symm
  refine ⟨m, hn.sameBut sb haC, fun h3 sb3 => ?_⟩
  exact ⟨_, H', I2.turned (t' := s2.toks) (fun b o hb e => (sb3.2 b hb).trans e) f0 f1 f3 f4 f5, q⟩
theorem sw_true {elt : Expr} {gs : List Comprehension} {scope : Scope} {pos py : Pos} {y : Str} {l : Nat} {env : Env} (hk : env.scope.kind = .function) (hy : env.scope.names.lookup y = some .local) (hl : (py.line == pos.line) = true)
    (ha : (scope.names.any fun (n, k) => n == y && (k == .local || k == .cell)) = false) : swapsWith (.ListComp elt gs scope pos) (some (.Name y py)) l env = pure true := by
  have ky : env.kindOf y = some .local := hy
  have hb : env.blockKind = .function := by unfold Env.blockKind; rw [hk]; rfl
  unfold swapsWith
  simp only [hb, ky, ha, Expr.pos, hl]
  rfl
end


theorem lc_range {lo : Int} {n : Nat} {g : TG} {tt : TT} {te : TE} {vs : List Nat} {σ : St} {H1 : Hp} {D : Addr} {Qd : Hp → Prop} (Pv : Nat → Hp → Prop) (h0 : Pv 0 (upd H1 D (.lst [])))
    (hs : ∀ i H, i < n → Pv i H → g (.int (lo + i)) (wipe σ vs) H fun σ2 H2 => wipe σ2 vs = wipe σ vs ∧ tt σ2 H2 fun b H3 =>
      if b = true then te σ2 H3 fun y H4 => ∃ acc, H4 D = some (.lst acc) ∧ acc.length < sizeLine ∧ Pv (i + 1) (upd H4 D (.lst (acc ++ [y]))) else Pv (i + 1) H3) (hd : ∀ H, Pv n H → Qd H) :
    ∃ W : Nat → Nat → Hp → Prop, (∃ m, W 0 m (upd H1 D (.lst []))) ∧ ∀ i m H, W i m H →
      ((Itr lo n).stop i H ∧ Qd H) ∨ ((Itr lo n).go i H ∧ ∃ Nx : Hp → Prop, (∀ H', Nx H' → ∃ m', m' < m ∧ W (i + 1) m' H') ∧ ∀ x H', (Itr lo n).yld i H x H' → g x (wipe σ vs) H' fun σ2 H2 => wipe σ2 vs = wipe σ vs ∧ tt σ2 H2 fun b H3 =>
        if b = true then te σ2 H3 fun y H4 => ∃ acc, H4 D = some (.lst acc) ∧ acc.length < sizeLine ∧ Nx (upd H4 D (.lst (acc ++ [y]))) else Nx H3) := by
  refine ⟨fun i m H => m = n - i ∧ i ≤ n ∧ Pv i H, ⟨n, by simp, Nat.zero_le _, h0⟩, ?_⟩
  rintro i m H ⟨rfl, hi, p⟩
  by_cases hlt : i < n
  · refine .inr ⟨hlt, Pv (i + 1), fun H' p' => ⟨n - (i + 1), by omega, rfl, hlt, p'⟩, fun x H' y => ?_⟩
    obtain ⟨e, y⟩ := y
    subst e y
    exact hs i _ hlt p
  · have e : i = n := by omega
    subst e
    exact .inl ⟨Nat.le_refl _, hd H p⟩
theorem lc_list {K : PySem.W.Frag} {a : Addr} {xs : List V} {g : TG} {tt : TT} {te : TE} {vs : List Nat} {σ : St} {H1 : Hp} {D : Addr} {Qd : Hp → Prop} (Pv : Nat → Hp → Prop) (h0 : Pv 0 (upd H1 D (.lst []))) (hl : ∀ i H, i ≤ xs.length → Pv i H → SqL K H a xs)
    (hs : ∀ i x H, xs[i]? = some x → Pv i H → g x (wipe σ vs) H fun σ2 H2 => wipe σ2 vs = wipe σ vs ∧ tt σ2 H2 fun b H3 =>
      if b = true then te σ2 H3 fun y H4 => ∃ acc, H4 D = some (.lst acc) ∧ acc.length < sizeLine ∧ Pv (i + 1) (upd H4 D (.lst (acc ++ [y]))) else Pv (i + 1) H3) (hd : ∀ H, Pv xs.length H → Qd H) :
    ∃ W : Nat → Nat → Hp → Prop, (∃ m, W 0 m (upd H1 D (.lst []))) ∧ ∀ i m H, W i m H →
      ((Itl K a).stop i H ∧ Qd H) ∨ ((Itl K a).go i H ∧ ∃ Nx : Hp → Prop, (∀ H', Nx H' → ∃ m', m' < m ∧ W (i + 1) m' H') ∧ ∀ x H', (Itl K a).yld i H x H' → g x (wipe σ vs) H' fun σ2 H2 => wipe σ2 vs = wipe σ vs ∧ tt σ2 H2 fun b H3 =>
        if b = true then te σ2 H3 fun y H4 => ∃ acc, H4 D = some (.lst acc) ∧ acc.length < sizeLine ∧ Nx (upd H4 D (.lst (acc ++ [y]))) else Nx H3) := by
  refine ⟨fun i m H => m = xs.length - i ∧ i ≤ xs.length ∧ Pv i H, ⟨xs.length, by simp, Nat.zero_le _, h0⟩, ?_⟩
  rintro i m H ⟨rfl, hi, p⟩
  have q := hl i H hi p
  by_cases hlt : i < xs.length
  · refine .inr ⟨⟨xs, xs[i], q, by simp [hlt]⟩, Pv (i + 1), fun H' p' => ⟨xs.length - (i + 1), by omega, rfl, hlt, p'⟩, fun x H' y => ?_⟩
    obtain ⟨e, y⟩ := y
    subst e
    exact hs i x _ (y xs q) p
  · have e : i = xs.length := by omega
    subst e
    exact .inl ⟨⟨xs, q, Nat.le_refl _⟩, hd H p⟩
def blkC (N : List Str) (sc scope : Scope) (own : List (Str × Nat)) : Bool :=
  (match scope.kind with | .function => true | _ => false) && (scope.names.all fun y => decide (scope.names.lookup y.1 = some y.2)) && (own.all fun p => decide (N[p.2]? = some p.1)) &&
    (scope.names.all fun y => match y.2 with
      | .free => (match sc.names.lookup y.1 with | some .cell => true | some .free => true | _ => false)
      | .local => decide (y.1 ∈ own.map (·.1)) || decide (y.1 ∉ N)
      | .cell => decide (y.1 ∈ own.map (·.1)) || decide (y.1 ∉ N)
      | _ => true)
theorem blkOk_by {N : List Str} {sc scope : Scope} {own : List (Str × Nat)} (h : blkC N sc scope own = true) : BlkOk N sc scope own := by
  unfold blkC at h
  simp only [Bool.and_eq_true, List.all_eq_true, decide_eq_true_eq] at h
  obtain ⟨⟨⟨h1, h2⟩, h3⟩, h4⟩ := h
  refine ⟨?_, h2, h3, fun y hy e => ?_, fun y hy e => ?_⟩
  · split at h1
    · assumption
    · cases h1
  · have q := h4 y hy
    simp only [e] at q
    split at q <;> first | exact .inl (by assumption) | exact .inr (by assumption) | cases q
  · have q := h4 y hy
    rcases e with e | e <;> (simp only [e, Bool.or_eq_true, decide_eq_true_eq] at q; exact q)
end L2

namespace L2
open PySem PySem.Spec PyProof.Rows
section
variable {prog : Program} {w : World} {A : Around} {R : Result → Shared → Prop} {s : Shared} {elt t0 i0 t1 i1 : Expr} {ifs0 ifs1 : List Expr} {scope : Scope} {pos : Pos} {it acc : Value} {env : Env}
end

section
variable {X : Cx}
end
end L2

namespace L2
open PySem PySem.Spec PyProof.Rows

section
variable {κ : Type} [DecidableEq κ]
def valV (kvs : List (κ × V)) (k : κ) : Option V := (kvs.find? fun kv => decide (kv.1 = k)).map (·.2)
def putK (kvs : List (κ × V)) (k : κ) (v : V) : List (κ × V) :=
  if (kvs.any fun kv => decide (kv.1 = k)) = true then kvs.map (fun kv => if kv.1 = k then (kv.1, v) else kv) else kvs ++ [(k, v)]
def dropK (kvs : List (κ × V)) (k : κ) : List (κ × V) := kvs.filter fun kv => decide (kv.1 ≠ k)
theorem valV_pos {p : κ × V} {r : List (κ × V)} {k : κ} (e : p.1 = k) : valV (p :: r) k = some p.2 := by simp [valV, List.find?_cons, e]
theorem valV_neg {p : κ × V} {r : List (κ × V)} {k : κ} (e : ¬ p.1 = k) : valV (p :: r) k = valV r k := by simp [valV, List.find?_cons, e]
theorem valV_any (k : κ) : ∀ kvs : List (κ × V), (kvs.any fun kv => decide (kv.1 = k)) = (valV kvs k).isSome
  | [] => rfl
  | p :: r => by
    rw [List.any_cons]
    by_cases e : p.1 = k
    · simp only [valV_pos e, decide_eq_true e, Bool.true_or, Option.isSome_some]
    · rw [valV_neg e, decide_eq_false e, Bool.false_or]; exact valV_any k r
theorem length_putK (kvs : List (κ × V)) (k : κ) (v : V) : (putK kvs k v).length ≤ kvs.length + 1 := by
  unfold putK
  split
  · rw [List.length_map]; omega
  · rw [List.length_append, List.length_cons, List.length_nil]; omega
theorem putK_new {kvs : List (κ × V)} {k : κ} (v : V) (h : valV kvs k = none) : putK kvs k v = kvs ++ [(k, v)] := by
  unfold putK
  rw [valV_any, h]
  exact if_neg (by decide)
theorem RelO.isSome_eq {o : Option V} {u : Option Value} (r : RelO o u) : o.isSome = u.isSome := by
  cases o with
  | none => cases u with
    | none => rfl
    | some _ => exact (show False from r).elim
  | some _ => cases u with
    | none => exact (show False from r).elim
    | some _ => rfl
theorem KV.val {kvs : List (κ × V)} {vs : List (κ × Value)} (r : KV kvs vs) (k : κ) : RelO (valV kvs k) (valueAt vs k) := by
  unfold KV at r
  induction r with
  | nil => exact True.intro
  | @cons p q ps qs h t ih =>
    obtain ⟨h1, h2⟩ := h
    by_cases e : p.1 = k
    · have e' : q.1 = k := h1.symm.trans e
      have b : valueAt (q :: qs) k = some q.2 := by simp [valueAt, List.find?_cons, e']
      rw [valV_pos e, b]; exact h2
    · have e' : ¬ q.1 = k := fun z => e (h1.trans z)
      have b : valueAt (q :: qs) k = valueAt qs k := by simp [valueAt, List.find?_cons, e']
      rw [valV_neg e, b]; exact ih
theorem KV.any {kvs : List (κ × V)} {vs : List (κ × Value)} (r : KV kvs vs) (k : κ) : (kvs.any fun kv => decide (kv.1 = k)) = vs.any fun kv => decide (kv.1 = k) := by
  unfold KV at r
  induction r with
  | nil => rfl
  | cons h t ih => rw [List.any_cons, List.any_cons, ih, h.1]
theorem KV.repl {kvs : List (κ × V)} {vs : List (κ × Value)} (r : KV kvs vs) (k : κ) {y : V} {u : Value} (ry : RelV y u) :
    KV (kvs.map fun kv => if kv.1 = k then (kv.1, y) else kv) (vs.map fun kv => if kv.1 = k then (kv.1, u) else kv) := by
  unfold KV at r ⊢
  induction r with
  | nil => exact .nil
  | @cons p q ps qs h t ih =>
    rw [List.map_cons, List.map_cons]
    refine .cons ?_ ih
    obtain ⟨h1, h2⟩ := h
    by_cases e : p.1 = k
    · rw [if_pos e, if_pos (h1.symm.trans e)]; exact ⟨h1, ry⟩
    · rw [if_neg e, if_neg (fun z => e (h1.trans z))]; exact ⟨h1, h2⟩
theorem KV.put {kvs : List (κ × V)} {vs : List (κ × Value)} (r : KV kvs vs) (k : κ) {y : V} {u : Value} (ry : RelV y u) : KV (putK kvs k y) (stored vs k u) := by
  unfold putK stored
  rw [r.any k]
  by_cases e : (vs.any fun kv => decide (kv.1 = k)) = true
  · rw [if_pos e, if_pos e]; exact r.repl k ry
  · rw [if_neg e, if_neg e]; exact Paired.snoc r ⟨rfl, ry⟩
theorem KV.drop {kvs : List (κ × V)} {vs : List (κ × Value)} (r : KV kvs vs) (k : κ) : KV (dropK kvs k) (without vs k) := by
  unfold KV at r ⊢
  unfold dropK without
  induction r with
  | nil => exact .nil
  | @cons p q ps qs h t ih =>
    obtain ⟨h1, h2⟩ := h
    rw [List.filter_cons, List.filter_cons]
    by_cases e : p.1 = k
    · have a : ¬ decide (p.1 ≠ k) = true := by simp [e]
      have b : ¬ decide (q.1 ≠ k) = true := by simp [h1.symm.trans e]
      rw [if_neg a, if_neg b]; exact ih
    · have e' : ¬ q.1 = k := fun z => e (h1.trans z)
      have a : decide (p.1 ≠ k) = true := by simp [e]
      have b : decide (q.1 ≠ k) = true := by simp [e']
      rw [if_pos a, if_pos b]; exact .cons ⟨h1, h2⟩ ih
theorem KV.keys {kvs : List (κ × V)} {vs : List (κ × Value)} (r : KV kvs vs) : kvs.map (·.1) = vs.map (·.1) := by
  unfold KV at r
  induction r with
  | nil => rfl
  | cons h t ih => rw [List.map_cons, List.map_cons, ih, h.1]
theorem KV.length {kvs : List (κ × V)} {vs : List (κ × Value)} (r : KV kvs vs) : kvs.length = vs.length := Paired.length r
theorem dropK_le (kvs : List (κ × V)) (k : κ) : (dropK kvs k).length ≤ kvs.length := List.length_filter_le _ _
end



theorem kV_is {P : Program} {w : World} {k : Key} {u : Value} (r : RelV (kV k) u) : (mixKind P w).is k u = true := by
  cases k with
  | inl i => obtain ⟨t, e⟩ := (show ∃ t, u = Value.int i t from r); subst e; exact mixKind_int P w i t
  | inr x => obtain ⟨t, e⟩ := (show ∃ t, u = Value.str x t from r); subst e; exact mixKind_str P w x t
theorem items_are {P : Program} {w : World} : ∀ {ks : List Key} {us : List Value}, Vals (ks.map kV) us → ItemsAre (mixKind P w) ks us
  | [], _, r => by rw [List.map_nil] at r; cases r; exact .nil
  | k :: ks, _, r => by
    rw [List.map_cons] at r
    cases r with
    | cons h t => exact .cons (kV_is h) (items_are t)
abbrev KT (H : Hp) : List (List Key × V) → List (List Key × Addr × Value) → Prop := Paired fun p q => p.1 = q.1 ∧ H q.2.1 = some (.tup (p.1.map kV)) ∧ RelV p.2 q.2.2
theorem KT.val {H : Hp} {kvs : List (List Key × V)} {xs : List (List Key × Addr × Value)} (r : KT H kvs xs) (k : List Key) : RelO (valV kvs k) ((atKey xs k).map (·.2)) := by
  induction r with
  | nil => exact True.intro
  | @cons p q ps qs h t ih =>
    obtain ⟨h1, _, h2⟩ := h
    by_cases e : p.1 = k
    · have e' : q.1 = k := h1.symm.trans e
      have b : atKey (q :: qs) k = some q.2 := by simp [atKey, List.find?_cons, e']
      rw [valV_pos e, b]; exact h2
    · have e' : ¬ q.1 = k := fun z => e (h1.trans z)
      have b : atKey (q :: qs) k = atKey qs k := by simp [atKey, List.find?_cons, e']
      rw [valV_neg e, b]; exact ih
theorem KT.repl {H : Hp} {kvs : List (List Key × V)} {xs : List (List Key × Addr × Value)} (r : KT H kvs xs) (k : List Key) {y : V} {u : Value} (ry : RelV y u) :
    KT H (kvs.map fun kv => if kv.1 = k then (kv.1, y) else kv) (xs.map (putAt k u)) := by
  induction r with
  | nil => exact .nil
  | @cons p q ps qs h t ih =>
    rw [List.map_cons, List.map_cons]
    refine .cons ?_ ih
    obtain ⟨h1, h2, h3⟩ := h
    unfold putAt
    by_cases e : p.1 = k
    · rw [if_pos e, if_pos (h1.symm.trans e)]; exact ⟨h1, h2, ry⟩
    · rw [if_neg e, if_neg (fun z => e (h1.trans z))]; exact ⟨h1, h2, h3⟩
theorem KT.put {H : Hp} {kvs : List (List Key × V)} {xs : List (List Key × Addr × Value)} (r : KT H kvs xs) (k : List Key) {b : Addr} {y : V} {u : Value} (hb : H b = some (.tup (k.map kV))) (ry : RelV y u) :
    KT H (putK kvs k y) (storedH xs k b u) := by
  have e : (kvs.any fun kv => decide (kv.1 = k)) = (atKey xs k).isSome := by
    rw [valV_any, (r.val k).isSome_eq, Option.isSome_map]
  unfold putK storedH
  rw [e]
  by_cases q : (atKey xs k).isSome = true
  · rw [if_pos q, if_pos q]; exact r.repl k ry
  · rw [if_neg q, if_neg q]; exact Paired.snoc r ⟨rfl, hb, ry⟩
theorem KT.keeps {H H' : Hp} {kvs : List (List Key × V)} {xs : List (List Key × Addr × Value)} (r : KT H kvs xs) (ht : ∀ b ys, H b = some (.tup ys) → H' b = some (.tup ys)) : KT H' kvs xs :=
  Paired.mapP r fun _ _ z => ⟨z.1, ht _ _ z.2.1, z.2.2⟩
section
variable {P : Program} {w : World} {H : Hp} {h : Heap} {a : Addr}
theorem rd_of {u : HO} (ok : HOk P w H h) (e : Rd H a u) : ObjOk P w H h a u := e.ok ok
theorem dk_rd {kvs : List (Key × V)} (ok : HOk P w H h) (e : Rd H a (.dK kvs)) : kvs.length ≤ sizeLine ∧ (a == sysModules) = false ∧ ∃ vs, KV kvs vs ∧ h.DictOf (mixKind P w) a vs :=
  show ObjOk P w H h a (.dK kvs) from rd_of ok e
theorem dk_of {kvs : List (Key × V)} (ok : HOk P w H h) (e : H a = some (.dK kvs)) : kvs.length ≤ sizeLine ∧ (a == sysModules) = false ∧ ∃ vs, KV kvs vs ∧ h.DictOf (mixKind P w) a vs := dk_rd ok (.inl e)
theorem key_of {ks : List Key} (ok : HOk P w H h) (e : H a = some (.tup (ks.map kV))) : (tupleKind (mixKind P w)).is h ks a := by
  obtain ⟨_, its, r, o, h1, h2, n, h3⟩ := (show ObjOk P w H h a (.tup (ks.map kV)) from ok a _ e)
  exact ⟨o, its.toArray, n, h1, h2, h3, by simpa using items_are r⟩
theorem dt_rd {kvs : List (List Key × V)} (ok : HOk P w H h) (e : Rd H a (.dT kvs)) : kvs.length ≤ sizeLine ∧ (a == sysModules) = false ∧
    ∃ xs, KT H kvs xs ∧ h.DictOfH (tupleKind (mixKind P w)) a xs := by
  obtain ⟨z, y, xs, r, o, es, ep, h1, h2, h3, h4, h5⟩ := (show ObjOk P w H h a (.dT kvs) from rd_of ok e)
  refine ⟨z, y, xs, r, o, es, ep, h1, h2, h3, h4, fun x hx => ?_, h5⟩
  have all : ∀ {l : List (List Key × V)} {m : List (List Key × Addr × Value)}, KT H l m → ∀ x ∈ m, (tupleKind (mixKind P w)).is h x.1 x.2.1 := by
    intro l m q
    induction q with
    | nil => intro x hx; exact nomatch hx
    | @cons p q ps qs hq t ih =>
      intro x hx
      rcases List.mem_cons.mp hx with e | hx
      · subst e
        exact key_of ok (by rw [← hq.1]; exact hq.2.1)
      · exact ih x hx
  exact all r x hx
theorem dt_of {kvs : List (List Key × V)} (ok : HOk P w H h) (e : H a = some (.dT kvs)) : kvs.length ≤ sizeLine ∧ (a == sysModules) = false ∧
    ∃ xs, KT H kvs xs ∧ h.DictOfH (tupleKind (mixKind P w)) a xs := dt_rd ok (.inl e)
end

def DGet (H : Hp) (a : Addr) (y : V) (r : Option V) : Prop :=
  (∃ kvs k, Rd H a (.dK kvs) ∧ y = kV k ∧ r = valV kvs k) ∨ ∃ kvs k b, Rd H a (.dT kvs) ∧ y = .ref b ∧ H b = some (.tup (k.map kV)) ∧ r = valV kvs k
def DPut (H : Hp) (a : Addr) (y v : V) (H' : Hp) : Prop :=
  (∃ kvs k, H a = some (.dK kvs) ∧ y = kV k ∧ kvs.length < sizeLine ∧ H' = upd H a (.dK (putK kvs k v))) ∨
  ∃ kvs k b, H a = some (.dT kvs) ∧ y = .ref b ∧ H b = some (.tup (k.map kV)) ∧ kvs.length < sizeLine ∧ H' = upd H a (.dT (putK kvs k v))
theorem DGet.k {H : Hp} {a : Addr} {kvs : List (Key × V)} {k : Key} (e : H a = some (.dK kvs)) : DGet H a (kV k) (valV kvs k) := .inl ⟨kvs, k, .inl e, rfl, rfl⟩
theorem DPut.k {H : Hp} {a : Addr} {kvs : List (Key × V)} {k : Key} {v : V} (e : H a = some (.dK kvs)) (hl : kvs.length < sizeLine) : DPut H a (kV k) v (upd H a (.dK (putK kvs k v))) := .inl ⟨kvs, k, e, rfl, hl, rfl⟩
section
variable {X : Cx} {pins : List (Addr × Obj)} {σ : St} {H : Hp} {s : Shared} {a : Addr} {y v : V} {u r : Value} {o : Option V} {A : Around} {E : Value → Shared → Prop}
theorem Inv.big (I : Inv X pins σ H s) : sysModules < s.heap.objs.size := by
  have h : mainGlobals < s.heap.objs.size := (I.mod.glob.keeps I.bk).lt
  exact Nat.lt_trans (by decide) h
theorem d_getItem {Q : Value → Shared → Prop} (hu : A.units + 1 < cLine) (I : Inv X pins σ H s) (g : DGet H a y (some v)) (ry : RelV y u) (h : ∀ w' s', Inv X pins σ H s' → RelV v w' → Q w' s') :
    wpAny (model X.prog X.w) A (getItem (.ref a) u) Q E s := by
  rcases g with ⟨kvs, k, e, ey, l⟩ | ⟨kvs, k, b, e, ey, eb, l⟩
  · subst ey
    obtain ⟨z, hd, vs, rel, dd⟩ := dk_rd I.hok e
    obtain ⟨w', hw, rw'⟩ := RelO.some_of (v := v) (o := valueAt vs k) (by rw [l]; exact rel.val k)
    exact wpAny_getItem_of (kV_is ry) dd.mapOf hw (h w' _ (I.tok _) rw')
  · subst ey
    cases (show u = Value.ref b from ry)
    obtain ⟨z, hd, xs, rel, dd⟩ := dt_rd I.hok e
    obtain ⟨w', hw, rw'⟩ := RelO.some_of (v := v) (o := (atKey xs k).map (·.2)) (by rw [l]; exact rel.val k)
    obtain ⟨p, hp, hp2⟩ := Option.map_eq_some_iff.mp hw
    refine wpAny_getItem_heap (tupleKind_room_in1 hu) (key_of I.hok eb) dd hp ?_
    rw [hp2]
    exact h w' _ (I.tok _) rw'
theorem d_in {Q : Value → Shared → Prop} (hu : A.units + 1 < cLine) (I : Inv X pins σ H s) (g : DGet H a y o) (ry : RelV y u) (h : ∀ s', Inv X pins σ H s' → Q (.bool o.isSome) s') :
    wpAny (model X.prog X.w) A (compareOp .In u (.ref a)) Q E s := by
  rcases g with ⟨kvs, k, e, ey, l⟩ | ⟨kvs, k, b, e, ey, eb, l⟩
  · subst ey
    obtain ⟨z, hd, vs, rel, dd⟩ := dk_rd I.hok e
    refine wpAny_in_of (kV_is ry) hd dd.mapOf ?_
    rw [← (rel.val k).isSome_eq, ← l]
    exact h _ (I.tok _)
  · subst ey
    cases (show u = Value.ref b from ry)
    obtain ⟨z, hd, xs, rel, dd⟩ := dt_rd I.hok e
    refine wpAny_in_heap (tupleKind_room_in1 hu) (key_of I.hok eb) hd dd ?_
    have q := (rel.val k).isSome_eq
    rw [Option.isSome_map] at q
    rw [← q, ← l]
    exact h _ (I.tok _)
theorem d_notIn {Q : Value → Shared → Prop} (hu : A.units + 1 < cLine) (I : Inv X pins σ H s) (g : DGet H a y o) (ry : RelV y u) (h : ∀ s', Inv X pins σ H s' → Q (.bool (!o.isSome)) s') :
    wpAny (model X.prog X.w) A (compareOp .NotIn u (.ref a)) Q E s := by
  rcases g with ⟨kvs, k, e, ey, l⟩ | ⟨kvs, k, b, e, ey, eb, l⟩
  · subst ey
    obtain ⟨z, hd, vs, rel, dd⟩ := dk_rd I.hok e
    refine wpAny_notIn_of (kV_is ry) hd dd.mapOf ?_
    rw [← (rel.val k).isSome_eq, ← l]
    exact h _ (I.tok _)
  · subst ey
    cases (show u = Value.ref b from ry)
    obtain ⟨z, hd, xs, rel, dd⟩ := dt_rd I.hok e
    refine wpAny_notIn_heap (tupleKind_room_in1 hu) (key_of I.hok eb) hd dd ?_
    have q := (rel.val k).isSome_eq
    rw [Option.isSome_map] at q
    rw [← q, ← l]
    exact h _ (I.tok _)
theorem d_write {h' : Heap} {t' : Nat} {ob : HO} (I : Inv X pins σ H s) (mu : Mut (H a)) (hs : Heap.SameBut a s.heap h') (he : ∃ q, h'.get? a = some q) (new : ObjOk X.prog X.w (upd H a ob) h' a ob) :
    Inv X pins σ (upd H a ob) { s with heap := h', toks := t' } :=
  I.write (x := a) (e := a) mu (.inl rfl) (fun b q hb z => (hs.2 b hb).trans z) he new
theorem dk_new {P : Program} {w : World} {H' : Hp} {h' : Heap} {kvs : List (Key × V)} {vs : List (Key × Value)} (z : kvs.length ≤ sizeLine) (hd : (a == sysModules) = false) (rel : KV kvs vs) (dd : h'.DictOf (mixKind P w) a vs) :
    ObjOk P w H' h' a (.dK kvs) := ⟨z, hd, vs, rel, dd⟩
theorem d_setItem {H' : Hp} {Q : Unit → Shared → Prop} (hu : A.units + 1 < cLine) (I : Inv X pins σ H s) (g : DPut H a y v H') (ry : RelV y u) (rv : RelV v r) (h : ∀ s', Inv X pins σ H' s' → Q () s') :
    wpAny (model X.prog X.w) A (setItem (.ref a) u r) Q E s := by
  rcases g with ⟨kvs, k, e, ey, l, eH⟩ | ⟨kvs, k, b, e, ey, eb, l, eH⟩
  · subst ey eH
    obtain ⟨z, hd, vs, rel, dd⟩ := dk_of I.hok e
    have hz : vs.length ≤ sizeLine := by rw [← rel.length]; exact z
    have hl : (putK kvs k v).length ≤ sizeLine := by have := length_putK kvs k v; omega
    refine wpAny_setItem_pairs (hsz := hz) (kV_is ry) dd fun h' dd' hs => h _ ?_
    have he : ∃ q, h'.get? a = some q := let ⟨q, _, _, hq, _⟩ := dd'; ⟨q, hq⟩
    exact d_write I (by rw [e]; exact True.intro) hs he (dk_new hl hd (rel.put k rv) dd')
  · subst ey eH
    cases (show u = Value.ref b from ry)
    obtain ⟨z, hd, xs, rel, dd⟩ := dt_of I.hok e
    have hz : xs.length ≤ sizeLine := by rw [← Paired.length rel]; exact z
    have hl : (putK kvs k v).length ≤ sizeLine := by have := length_putK kvs k v; omega
    refine wpAny_setItem_heap (hsz := hz) (tupleKind_room_in1 hu) (key_of I.hok eb) dd fun h' dd' hs => h _ ?_
    obtain ⟨q, es, ep, hq, h2, h3, h4, _, h5⟩ := dd'
    refine d_write I (by rw [e]; exact True.intro) hs ⟨q, hq⟩ ⟨hl, hd, _, (rel.put k eb rv).keeps fun c ys ec => ?_, q, es, ep, hq, h2, h3, h4, h5⟩
    rw [upd_ne (ne_of ec e (fun z => nomatch z))]
    exact ec
end

section
variable {X : Cx} {pins : List (Addr × Obj)} {σ : St} {H : Hp} {s : Shared} {a : Addr} {kvs : List (Key × V)} {k : Key} {u : Value} {A : Around} {E : Value → Shared → Prop}
theorem d_delItem {Q : Unit → Shared → Prop} (I : Inv X pins σ H s) (e : H a = some (.dK kvs)) (ry : RelV (kV k) u) (l : (valV kvs k).isSome = true) (h : ∀ s', Inv X pins σ (upd H a (.dK (dropK kvs k))) s' → Q () s') :
    wpAny (model X.prog X.w) A (delItem (.ref a) u) Q E s := by
  obtain ⟨z, hd, vs, rel, dd⟩ := dk_of I.hok e
  refine wpAny_delItem_slot dd.typeIs (by decide) PySem.F.slot_dict_delitem
    (call_meetsIn PySem.F.slot_dict_delitem dd.typeIs PySem.F.entry_dict_delitem (PySem.F.args_dict_delitem_2 _ _) (meets_dict_delitem_pairs (mixKind X.prog X.w) a (kV_is ry)) ⟨vs, dd, by rw [← rel.length]; exact z, by rw [← (rel.val k).isSome_eq]; exact l, fun h' dd' hs => h _ ?_⟩)
  have he : ∃ q, h'.get? a = some q := let ⟨q, _, _, hq, _⟩ := dd'; ⟨q, hq⟩
  exact d_write I (by rw [e]; exact True.intro) hs he (dk_new (Nat.le_trans (dropK_le kvs k) z) hd (rel.drop k) dd')
theorem d_pop {v : V} {more : List Value} {Q : Value → Shared → Prop} (I : Inv X pins σ H s) (e : H a = some (.dK kvs)) (ry : RelV (kV k) u) (l : valV kvs k = some v) (hm : more = [] ∨ ∃ x, more = [x])
    (h : ∀ w' s', Inv X pins σ (upd H a (.dK (dropK kvs k))) s' → RelV v w' → Q w' s') : wpAny (model X.prog X.w) A (call (.builtin "dict.pop") (.ref a :: u :: more)) Q E s := by
  obtain ⟨z, hd, vs, rel, dd⟩ := dk_of I.hok e
  obtain ⟨w', hw, rw'⟩ := RelO.some_of (v := v) (o := valueAt vs k) (by rw [← l]; exact rel.val k)
  have hp : (keyPart u).isSome = true := by
    cases k with
    | inl i => obtain ⟨t, q⟩ := (show ∃ t, u = Value.int i t from ry); subst q; rfl
    | inr x => obtain ⟨t, q⟩ := (show ∃ t, u = Value.str x t from ry); subst q; rfl
  have ha : argsOk "dict.pop" ⟨.ref a :: u :: more, []⟩ := by
    rcases hm with q | ⟨x, q⟩
    · subst q; exact PySem.F.args_dict_pop_2 _ _
    · subst q; exact PySem.F.args_dict_pop_3 _ _ _
  refine call_meetsIn PySem.F.slot_dict_pop dd.typeIs PySem.F.entry_dict_pop ha (meets_dict_pop_there (mixKind X.prog X.w) a (kV_is ry) more hm hp)
    ⟨vs, w', dd, by rw [← rel.length]; exact z, hw, fun h' dd' hs => h w' _ ?_ rw'⟩
  have he : ∃ q, h'.get? a = some q := let ⟨q, _, _, hq, _⟩ := dd'; ⟨q, hq⟩
  exact d_write I (by rw [e]; exact True.intro) hs he (dk_new (Nat.le_trans (dropK_le kvs k) z) hd (rel.drop k) dd')
theorem d_len {Q : Value → Shared → Prop} (I : Inv X pins σ H s) (e : Rd H a (.dK kvs)) (h : ∀ t s', Inv X pins σ H s' → Q (.int kvs.length t) s') : wpAny (model X.prog X.w) A (call (.builtin "len") [.ref a]) Q E s := by
  obtain ⟨z, hd, vs, rel, dd⟩ := dk_rd I.hok e
  refine call_len_dict hd dd (by rw [← rel.length]; rw [sizeLine_eq] at z; omega) ?_
  rw [← rel.length]
  exact h _ _ (I.tok _)
end



def NoSl (i : Expr) : Prop := ∀ ov iv, subscripted i false ov iv = operate [ov, iv] (getItem ov iv)
theorem subD_of {prog : Program} {w : World} {A : Around} {E : Value → Shared → Prop} {s : Shared} {env : Env} {value slice : Expr} {pos : Pos} {T id : String} {Q : Value → Shared → Prop}
    (hl : typeLookup (.type T) "__getitem__" = pure (some (.builtin id))) (hs : NoSl slice)
    (h : wpAny (model prog w) A (eval value env) (fun o s₁ => wpAny (model prog w) A (eval slice env) (fun i s₂ => s₂.TypeIs o T ∧ wpAny (model prog w) A (getItem o i) Q E s₂) E s₁) E s) :
    wpAny (model prog w) A (eval (.Subscript value slice pos) env) Q E s := by
  refine Subscript_ (wpAny_mono h (fun o s₁ h₁ => wpAny_mono h₁ (fun i s₂ h₂ => ?_) fun _ _ x => x) fun _ _ x => x)
  obtain ⟨hT, h₂⟩ := h₂
  unfold subscriptTail
  refine wpAny_bind ?_
  rw [getitemInPython_of_ne hT.not_modules]
  refine wpAny_bind (wpAny_specialOf hT hl ?_)
  have fin : wpAny (model prog w) A (subscripted slice false o i) (fun r s₃ => wpAny (model prog w) A (letTemporaryGo value o r >>= fun _ => pure r) Q E s₃) E s₂ := by
    rw [hs o i]
    exact wpAny_operating (wpAny_mono h₂ (fun r s₃ h₃ => wpAny_bind (wpAny_letTemporaryGo (wpAny_pure h₃))) fun _ _ x => x)
  first
    | exact wpAny_pure (wpAny_bind fin)
    | exact wpAny_bind (wpAny_pure (wpAny_bind fin))
    | exact wpAny_bind fin
theorem dict_typeIs {X : Cx} {pins : List (Addr × Obj)} {σ : St} {H : Hp} {s : Shared} {a : Addr} {y : V} {o : Option V} (I : Inv X pins σ H s) (g : DGet H a y o) : s.TypeIs (.ref a) "dict" := by
  rcases g with ⟨kvs, k, e, _, _⟩ | ⟨kvs, k, b, e, _, _, _⟩
  · obtain ⟨_, _, vs, _, dd⟩ := dk_rd I.hok e
    exact dd.typeIs
  · obtain ⟨_, _, xs, _, dd⟩ := dt_rd I.hok e
    exact dd.typeIs
def tDGet (td ty : TE) : TE := fun σ H Q => td σ H fun x H1 => ty σ H1 fun y H2 => ∃ a v, x = .ref a ∧ DGet H2 a y (some v) ∧ Q v H2
def tDIn (ty td : TE) : TE := fun σ H Q => ty σ H fun y H1 => td σ H1 fun x H2 => ∃ a o, x = .ref a ∧ DGet H2 a y o ∧ Q (.bl o.isSome) H2
def tDNotIn (ty td : TE) : TE := fun σ H Q => ty σ H fun y H1 => td σ H1 fun x H2 => ∃ a o, x = .ref a ∧ DGet H2 a y o ∧ Q (.bl (!o.isSome)) H2
def sDPut (td ty tv : TE) : TS := fun D σ H => tv σ H fun v H1 => td σ H1 fun x H2 => ty σ H2 fun y H3 => ∃ a H4, x = .ref a ∧ DPut H3 a y v H4 ∧ D.nx σ H4
section
variable {X : Cx} {o i e value : Expr} {pos pos' tpos : Pos} {td ty tv : TE}
theorem pe_dget (hu : X.A.units + 1 < cLine) (ho : PE X o td) (hi : PE X i ty) (hs : NoSl i) : PE X (.Subscript o i pos) (tDGet td ty) := by
  intro pins s σ H Q I h
  refine subD_of PySem.F.slot_dict_getitem.lookup hs (thn (ho pins s σ H _ I h) fun u s1 ⟨x, H1, I1, rx, q1⟩ => thn (hi pins s1 σ H1 _ I1 q1) fun iv s2 ⟨y, H2, I2, ry, a, v, ex, g, q2⟩ => ?_)
  subst ex
  obtain rfl : u = Value.ref a := rx
  exact ⟨dict_typeIs I2 g, d_getItem hu I2 g ry fun w' s3 I3 rw' => ⟨v, H2, I3, rw', q2⟩⟩
theorem pc_din (hu : X.A.units + 1 < cLine) (hi : PE X i ty) (ho : PE X o td) : PC X .In i o (tDIn ty td) := by
  intro pins s σ H Q I h
  refine thn (hi pins s σ H _ I h) fun iv s1 ⟨y, H1, I1, ry, q1⟩ => thn (ho pins s1 σ H1 _ I1 q1) fun u s2 ⟨x, H2, I2, rx, a, ov, ex, g, q2⟩ => ?_
  subst ex
  obtain rfl : u = Value.ref a := rx
  exact d_in hu I2 g ry fun s3 I3 => ⟨.bl ov.isSome, H2, I3, rfl, q2⟩
theorem pc_dnotin (hu : X.A.units + 1 < cLine) (hi : PE X i ty) (ho : PE X o td) : PC X .NotIn i o (tDNotIn ty td) := by
  intro pins s σ H Q I h
  refine thn (hi pins s σ H _ I h) fun iv s1 ⟨y, H1, I1, ry, q1⟩ => thn (ho pins s1 σ H1 _ I1 q1) fun u s2 ⟨x, H2, I2, rx, a, ov, ex, g, q2⟩ => ?_
  subst ex
  obtain rfl : u = Value.ref a := rx
  exact d_notIn hu I2 g ry fun s3 I3 => ⟨.bl (!ov.isSome), H2, I3, rfl, q2⟩
theorem ps_dput (hu : X.A.units + 1 < cLine) (ho : PE X o td) (hi : PE X i ty) (hv : PE X value tv) (hs : swapsWith value (some (.Subscript o i pos')) pos.line X.env = pure false) :
    PS X (.Assign [.Subscript o i pos'] value pos) (sDPut td ty tv) := by
  intro pins s σ H D I h
  refine wpAny_Assign_Subscript (thn (hv pins s σ H _ I h) fun r s1 ⟨v, H1, I1, rv, q1⟩ => thn (ho pins s1 σ H1 _ I1 q1) fun u s2 ⟨x, H2, I2, rx, q2⟩ => thn (hi pins s2 σ H2 _ I2 q2) fun iv s3 ⟨y, H3, I3, ry, a, H4, ex, g, q3⟩ => ?_) hs
  subst ex
  obtain rfl : u = Value.ref a := rx
  exact d_setItem hu I3 g ry rv fun s4 I4 => ⟨σ, H4, I4, q3⟩
end



theorem dk_empty {P : Program} {w : World} {H : Hp} (h : Heap) (hb : sysModules < h.objs.size) : ObjOk P w H (h.push { cls := .type "dict", data := .dict #[] }) h.objs.size (.dK []) :=
  ⟨Nat.zero_le _, beq_eq_false_iff_ne.mpr (Ne.symm (Nat.ne_of_lt hb)), [], .nil, Heap.DictOf.new h⟩
def tDNewK : TE := fun _ H Q => ∀ p, H p = none → Q (.ref p) (upd H p (.dK []))
section
variable {X : Cx} {pos : Pos}
theorem pe_dnewK : PE X (.Dict [] [] pos) tDNewK := fun pins s σ H Q I h =>
  wpAny_Dict_empty ⟨.ref s.heap.objs.size, _, I.laid (a := s.heap.objs.size) (o := .dK []) (t' := s.toks) (fun _ _ q => Heap.get?_push_of_some _ q) (Nat.le_refl _) (dk_empty s.heap I.big), rfl, h _ (I.hok.fresh (Nat.le_refl _))⟩
end

abbrev VV : List (V × V) → List (Value × Value) → Prop := Paired fun p q => RelV p.1 q.1 ∧ RelV p.2 q.2

structure M1 (X : Cx) (o : Expr) (m : Str) (apos : Pos) (e : Expr) (cpos : Pos) : Prop where
  base : attributeBase o m X.env (eval o X.env) = eval o X.env
  few : ((backTo cpos (starEach [e] X.env)).all (fun x => !x.1) && (backToKw cpos (keywordEach [] X.env)).all (fun x => x.1.isSome)
    && decide (([e] : List Expr).length + ([] : List Keyword).length + (if ([] : List Keyword).isEmpty then 0 else 1) < 30)) = true
  line : (apos.endLine == cpos.line) = true
  trees : backTo cpos (starEach [e] X.env) = [(false, eval e X.env)]
structure M2 (X : Cx) (o : Expr) (m : Str) (apos : Pos) (e f : Expr) (cpos : Pos) : Prop where
  base : attributeBase o m X.env (eval o X.env) = eval o X.env
  few : ((backTo cpos (starEach [e, f] X.env)).all (fun x => !x.1) && (backToKw cpos (keywordEach [] X.env)).all (fun x => x.1.isSome)
    && decide (([e, f] : List Expr).length + ([] : List Keyword).length + (if ([] : List Keyword).isEmpty then 0 else 1) < 30)) = true
  line : (apos.endLine == cpos.line) = true
  trees : backTo cpos (starEach [e, f] X.env) = [(false, eval e X.env), (false, eval f X.env)]
def IsD (H : Hp) (a : Addr) : Prop := (∃ kvs, Rd H a (.dK kvs)) ∨ ∃ kvs, Rd H a (.dT kvs)
theorem isD_at {X : Cx} {pins : List (Addr × Obj)} {σ : St} {H : Hp} {s : Shared} {a : Addr} (I : Inv X pins σ H s) (d : IsD H a) :
    s.TypeIs (.ref a) "dict" ∧ (∀ b, Value.ref a = .ref b → ∃ ob, s.heap.get? b = some ob ∧ ob.dict = none) ∧ (a == sysModules) = false := by
  rcases d with ⟨kvs, e⟩ | ⟨kvs, e⟩
  · obtain ⟨_, hd, vs, _, dd⟩ := dk_rd I.hok e
    refine ⟨dd.typeIs, fun b q => ?_, hd⟩
    cases q
    obtain ⟨ob, _, _, h1, h2, _⟩ := dd
    exact ⟨ob, h1, h2.2.1⟩
  · obtain ⟨_, hd, xs, _, dd⟩ := dt_rd I.hok e
    refine ⟨dd.typeIs, fun b q => ?_, hd⟩
    cases q
    obtain ⟨ob, _, _, h1, h2, _⟩ := dd
    exact ⟨ob, h1, h2.2.1⟩
section
variable {X : Cx} {pins : List (Addr × Obj)} {σ : St} {H : Hp} {s : Shared} {a : Addr} {y d : V} {u r : Value} {o : Option V} {A : Around} {E : Value → Shared → Prop}
end

def tDPop1 (td ty : TE) : TE := fun σ H Q => td σ H fun x H1 => ∃ a, x = .ref a ∧ IsD H1 a ∧ ty σ H1 fun y H2 => ∃ kvs k v, H2 a = some (.dK kvs) ∧ y = kV k ∧ valV kvs k = some v ∧ Q v (upd H2 a (.dK (dropK kvs k)))
section
variable {X : Cx} {o e f : Expr} {apos cpos : Pos} {td ty tx : TE}
theorem pe_dpop1 (ho : PE X o td) (he : PE X e ty) (m : M1 X o "pop" apos e cpos) : PE X (.Call (.Attribute o "pop" apos) [e] [] cpos) (tDPop1 td ty) := by
  intro pins s σ H Q I h
  refine wpAny_Call_method m.base m.few m.line PySem.F.plainAttrs_dict PySem.F.slot_dict_pop PySem.F.type_dict_pop (thn (ho pins s σ H _ I h) fun u s1 ⟨x, H1, I1, rx, a, ex, d, q1⟩ => ?_)
  subst ex
  obtain rfl : u = Value.ref a := rx
  obtain ⟨t1, t2, _⟩ := isD_at I1 d
  refine ⟨t1, t2, ?_⟩
  rw [m.trees]
  refine Calls.callWith_builtin rfl (Calls.evalArgs_plain (Calls.spliced_cons (thn (he pins s1 σ H1 _ I1 q1) fun iv s2 ⟨y, H2, I2, ry, kvs, k, v, ea, ey, l, q2⟩ => Calls.spliced_nil ?_)))
  subst ey
  exact d_pop I2 ea ry l (.inl rfl) fun w' s3 I3 rw' => ⟨v, _, I3, rw', q2⟩
end


section
variable {X : Cx} {pins : List (Addr × Obj)} {σ : St} {H : Hp} {s : Shared} {a : Addr} {kvs : List (Key × V)} {A : Around} {E : Value → Shared → Prop}
end


section
variable {X : Cx} {pins : List (Addr × Obj)} {σ : St} {H : Hp} {s : Shared} {a : Addr} {y : V} {u : Value} {A : Around} {E : Value → Shared → Prop}
end
end L2

namespace L2
open PySem PySem.Spec PyProof.Rows
section
variable {prog : Program} {w : World} {A : Around} {E : Value → Shared → Prop}
end

section
variable {X : Cx}
end
end L2

namespace L2
open PySem PySem.Spec PyProof.Rows
theorem boot_reversed5 : bootBuiltins "reversed" = some (.type "reversed") := by decide +kernel
section
variable {X : Cx} {pins : List (Addr × Obj)} {σ : St} {H : Hp} {s : Shared} {h' : Heap}
theorem Inv.turnedL {t' : Nat} {ch : List Addr} (I : Inv X pins σ H s) (k : ∀ b o, b ∉ ch → s.heap.get? b = some o → h'.get? b = some o) (hf : ∀ b ∈ ch, FpOk X pins H b) : Inv X pins σ H { s with heap := h', toks := t' } := by
  have nit : ∀ b u, H b = some u → b ∉ ch := fun b u e z => by
    have q := (hf b z).1
    rw [q] at e; cases e
  refine I.step (g' := s.gens) (d' := s.drawn) (ch := ch) (fun b hb => ⟨(hf b hb).2.2.2.1, (hf b hb).2.1, (hf b hb).2.2.2.2.1, (hf b hb).2.2.2.2.2⟩) (fun b o _ _ hc e _ => k b o hc e) (fun b o _ _ hc e _ => ⟨o.slots, k b o hc e⟩)
    (fun _ _ _ _ n => n) (fun b o hc e => ⟨o, k b o hc e⟩) (fun _ _ e => e) (fun _ _ _ e => e) (fun b ps e => ⟨#[], by rw [e]; simp⟩) (fun m hm => ?_) (fun b u e => ?_) I.bare
  · obtain ⟨o, es, ep, ho, r⟩ := hm
    exact ⟨o, es, ep, k _ o (fun z => (hf _ z).2.1 rfl) ho, r⟩
  · refine (I.hok b u e).stay (fun c v hc q => k c v ?_ q) (fun _ q => q) fun _ _ q => q
    rcases hc with z | z
    · rw [z]; exact nit b u e
    · exact nit c _ z
theorem Inv.turnedNew {t' : Nat} {ch : List Addr} {T : Addr} {ob : HO} (I : Inv X pins σ H s) (k : ∀ b o, b ∉ ch → s.heap.get? b = some o → h'.get? b = some o) (hf : ∀ b ∈ ch, FpOk X pins H b) (hT : s.heap.objs.size ≤ T)
    (new : ObjOk X.prog X.w (upd H T ob) h' T ob) : Inv X pins σ (upd H T ob) { s with heap := h', toks := t' } := by
  have hn : H T = none := I.hok.fresh hT
  have nit : ∀ b u, H b = some u → b ∉ ch := fun b u e z => by
    have q := (hf b z).1
    rw [q] at e; cases e
  refine I.step (g' := s.gens) (d' := s.drawn) (ch := ch) (fun b hb => ⟨(hf b hb).2.2.2.1, (hf b hb).2.1, (hf b hb).2.2.2.2.1, (hf b hb).2.2.2.2.2⟩) (fun b o _ _ hc e _ => k b o hc e) (fun b o _ _ hc e _ => ⟨o.slots, k b o hc e⟩)
    (fun b o _ e n => ?_) (fun b o hc e => ⟨o, k b o hc e⟩) (fun b xs e => ?_) (fun b o u e => ?_) (fun b ps e => ⟨#[], ?_⟩) (fun m hm => ?_) (fun b u e => ?_) I.bare
  · rw [upd_ne (Nat.ne_of_lt (Nat.lt_of_lt_of_le (Heap.lt_size e) hT))]; exact n
  · rw [upd_ne (ne_of_none e hn)]; exact e
  · rw [upd_ne (ne_of_none e hn)]; exact e
  · rw [upd_ne (ne_of_none e hn), e]; simp
  · obtain ⟨o, es, ep, ho, r⟩ := hm
    exact ⟨o, es, ep, k _ o (fun z => (hf _ z).2.1 rfl) ho, r⟩
  · by_cases hb : b = T
    · subst hb
      rw [upd_same] at e
      cases e
      exact new
    · rw [upd_ne hb] at e
      refine (I.hok b u e).stay (fun c v hc q => k c v ?_ q) (fun c q => by rw [upd_ne (ne_of_none q hn)]; exact q) fun c xs q => by rw [upd_ne (ne_of_none q hn)]; exact q
      rcases hc with z | z
      · rw [z]; exact nit b u e
      · exact nit c _ z

theorem Inv.lock {d : Addr} {u : HO} (I : Inv X pins σ H s) (h : H d = some u) (mu : Mut (some u)) : ∃ od, Inv X pins σ (upd H d (.frz od u)) s := by
  have x := I.hok d u h
  have ex : ∃ od, s.heap.get? d = some od := by
    cases u with
    | lst xs => obtain ⟨_, _, _, _, e⟩ := x; exact ⟨_, e⟩
    | dK kvs => obtain ⟨_, _, _, _, o, _, _, e, _⟩ := x; exact ⟨o, e⟩
    | dT kvs => obtain ⟨_, _, _, _, o, _, _, e, _⟩ := x; exact ⟨o, e⟩
    | set S n => obtain ⟨o, _, _, _, e, _⟩ := x; exact ⟨o, e⟩
    | ins C dx fs => obtain ⟨_, _, _, e, _⟩ := x; exact ⟨_, e⟩
    | ext φ => obtain ⟨_, ⟨_, e⟩, _⟩ := x; exact ⟨_, e⟩
    | _ => exact False.elim mu
  obtain ⟨od, e⟩ := ex
  have new : ObjOk X.prog X.w (upd H d (.frz od u)) s.heap d (.frz od u) := by
    refine ⟨e, x.stay (fun b v _ q => q) (fun b q => ?_) fun b xs q => ?_⟩
    · rw [upd_ne (fun z => by rw [z, h] at q; cases q; exact mu)]; exact q
    · rw [upd_ne (fun z => by rw [z, h] at q; cases q; exact mu)]; exact q
  exact ⟨od, I.write (x := d) (e := d) (t' := s.toks) (h' := s.heap) (by rw [h]; exact mu) (.inl rfl) (fun b v _ q => q) ⟨od, e⟩ new⟩
theorem Inv.nofrz {d : Addr} {u : HO} (I : Inv X pins σ H s) (h : H d = some u) (mu : Mut (some u)) : ∀ o' u', X.H_0 d ≠ some (.frz o' u') := fun o' u' e => by
  have q := I.base.frzs d o' u' e
  rw [h] at q
  cases q
  exact mu
theorem Inv.unlock {d : Addr} {od : Obj} {u : HO} (I : Inv X pins σ H s) (h : H d = some (.frz od u)) (hn : ∀ o' u', X.H_0 d ≠ some (.frz o' u')) : Inv X pins σ (upd H d u) s := by
  have neH : ∀ b o, H b = some o → (∀ o' u', o ≠ .frz o' u') → b ≠ d := fun b o e hne z => by
    rw [z, h] at e
    cases e
    exact hne _ _ rfl
  have neN : ∀ b, H b = none → b ≠ d := fun b e z => by rw [z, h] at e; cases e
  refine ⟨I.ok, I.os, I.bare, ⟨I.base.keep, I.base.slot, fun b o e n hx => ?_, I.base.there, fun b xs e => ?_, fun b o x e => ?_, fun b ps e => ?_⟩, I.loc, I.cell, ?_, fun x c e => ?_, fun p hp => ?_, fun b o e => ?_, I.len⟩
  · rw [upd_ne (neN b (I.base.free b o e n hx))]; exact I.base.free b o e n hx
  · have q := I.base.tups b xs e
    rw [upd_ne (neH b _ q (fun _ _ z => nomatch z))]; exact q
  · have q := I.base.frzs b o x e
    rw [upd_ne (fun z => by rw [z] at e; exact hn _ _ e)]; exact q
  · obtain ⟨m, q⟩ := I.base.tbls b ps e
    exact ⟨m, by rw [upd_ne (neH b _ q (fun _ _ z => nomatch z))]; exact q⟩
  · rw [upd_ne (neN _ I.free)]; exact I.free
  · rw [upd_ne (neN c (I.freeC x c e))]; exact I.freeC x c e
  · obtain ⟨e, n, r⟩ := I.pin p hp
    exact ⟨e, by rw [upd_ne (neN _ n)]; exact n, r⟩
  · by_cases hb : b = d
    · rw [hb, upd_same] at e
      cases e
      rw [hb]
      obtain ⟨_, x⟩ := I.hok d _ h
      exact x.stay (fun c v _ q => q) (fun c q => by rw [upd_ne (neH c _ q (fun _ _ z => nomatch z))]; exact q) fun c xs q => by rw [upd_ne (neH c _ q (fun _ _ z => nomatch z))]; exact q
    · rw [upd_ne hb] at e
      exact (I.hok b o e).stay (fun c v _ q => q) (fun c q => by rw [upd_ne (neH c _ q (fun _ _ z => nomatch z))]; exact q) fun c xs q => by rw [upd_ne (neH c _ q (fun _ _ z => nomatch z))]; exact q
end
def tLock (t : TS) : TS := fun D σ H => ∃ d u, H d = some u ∧ Mut (some u) ∧ ∀ od, t ⟨fun σ' H' => H' d = some (.frz od u) ∧ D.nx σ' (upd H' d u), fun v H' => H' d = some (.frz od u) ∧ D.rt v (upd H' d u), fun σ' H' => H' d = some (.frz od u) ∧ D.bk σ' (upd H' d u), fun σ' H' => H' d = some (.frz od u) ∧ D.ct σ' (upd H' d u)⟩ σ (upd H d (.frz od u))
def tLockE (t : TE) : TE := fun σ H Q => ∃ d u, H d = some u ∧ Mut (some u) ∧ ∀ od, t σ (upd H d (.frz od u)) fun v H' => H' d = some (.frz od u) ∧ Q v (upd H' d u)
section
variable {X : Cx}
theorem ps_lock {st : Stmt} {t : TS} (h : PS X st t) : PS X st (tLock t) := by
  intro pins s σ H D I hw
  obtain ⟨d, u, hd, mu, hw⟩ := hw
  obtain ⟨od, I1⟩ := I.lock hd mu
  refine thn (h pins s σ _ _ I1 (hw od)) fun f s1 q => ?_
  cases f with
  | next => obtain ⟨σ', H', I2, e, q⟩ := q; exact ⟨σ', _, I2.unlock e (I.nofrz hd mu), q⟩
  | brk => obtain ⟨σ', H', I2, e, q⟩ := q; exact ⟨σ', _, I2.unlock e (I.nofrz hd mu), q⟩
  | cont => obtain ⟨σ', H', I2, e, q⟩ := q; exact ⟨σ', _, I2.unlock e (I.nofrz hd mu), q⟩
  | ret v => obtain ⟨x, σ', H', I2, r, e, q⟩ := q; exact ⟨x, σ', _, I2.unlock e (I.nofrz hd mu), r, q⟩
theorem pe_lock {e : Expr} {t : TE} (h : PE X e t) : PE X e (tLockE t) := by
  intro pins s σ H Q I hw
  obtain ⟨d, u, hd, mu, hw⟩ := hw
  obtain ⟨od, I1⟩ := I.lock hd mu
  refine thn (h pins s σ _ _ I1 (hw od)) fun v s1 ⟨x, H1, I2, r, e2, q⟩ => ?_
  exact ⟨x, _, I2.unlock e2 (I.nofrz hd mu), r, q⟩

theorem pi_one {tg : Expr} {pins : List (Addr × Obj)} {σ : St} {H : Hp} {s : Shared} {R : It → Hp → Prop} {J : It} {tn : Nat → Heap → Prop} {tk : Nat} (I : Inv X pins σ H s) (o : Obj)
    (T : Turn X.prog X.w X.K tg J [s.heap.objs.size] s.heap.objs.size tn) (st : tn 0 (s.heap.push o)) (q : R J H) : PIE X pins σ tg R (.ref s.heap.objs.size) { s with heap := s.heap.push o, toks := tk } := by
  refine ⟨s.heap.objs.size, [s.heap.objs.size], tn, J, H, rfl, I.kept fun b ob e => Heap.get?_push_of_some _ e, T, st, fun b hb => ?_, q⟩
  have e : b = s.heap.objs.size := by simpa using hb
  subst e
  exact I.fpOk (Nat.le_refl _) (I.hok.fresh (Nat.le_refl _))
end


section
variable {X : Cx} {tg : Expr}
end

def Itv (K : PySem.W.Frag) (a : Addr) (n : Nat) : It :=
  ⟨fun i H => i < n ∧ ∃ (xs : List V) (x : V), SqL K H a xs ∧ xs[n - 1 - i]? = some x, fun i H x H' => H' = H ∧ ∀ xs, SqL K H a xs → xs[n - 1 - i]? = some x, fun i _ => n ≤ i⟩
theorem turn_rev {P : Program} {w : World} {K : PySem.W.Frag} {tg : Expr} (a it : Addr) (n : Nat) : Turn P w K tg (Itv K a n) [it] it (fun i h => i ≤ n ∧ h.IsRevIter it a ((n : Int) - 1 - (i : Nat))) where
  mem := by simp
  obj := fun i h st b hb => by
    have e : b = it := by simpa using hb
    subst e
    obtain ⟨_, o, e, c, d⟩ := st
    exact ⟨o, e, fun v z => by rw [d] at z; cases z⟩
  keep := fun i h h' st k => ⟨st.1, st.2.at fun o e => k it (by simp) o e⟩
  item := by
    intro X hP hw hK hc i pins s σ H E I hf st hg
    subst hP hw hK
    obtain ⟨hin, xs, x, hq, hx⟩ := hg
    obtain ⟨its, rv, p, hz⟩ := I.list hq
    obtain ⟨u, hu, ru⟩ := rv.get hx
    obtain ⟨f0, f1, f2, f3, f4, f5⟩ := hf it (by simp)
    obtain ⟨_, hit⟩ := st
    have e1 : (n : Int) - 1 - ((i : Nat) : Int) = ((n - 1 - i : Nat) : Int) := by omega
    rw [e1] at hit
    refine wpAny_pyNext_rev_item hit p.isList (x := u) (by simpa using hu) fun h' st' sb => ?_
    have e2 : ((n - 1 - i : Nat) : Int) - 1 = (n : Int) - 1 - ((i + 1 : Nat) : Int) := by omega
    rw [e2] at st'
    have I1 : Inv X pins σ H { s with heap := h' } := I.turned (t' := s.toks) (fun b o hb e => (sb.2 b hb).trans e) f0 f1 f3 f4 f5
    obtain ⟨o, e, c, d⟩ := id st'
    exact ⟨u, rfl, go_of (s := { s with heap := h' }) e c d (by decide) ⟨x, H, I1, ru, ⟨rfl, fun ys hy => by rw [I.list_inj hy hq]; exact hx⟩, ⟨hin, st'⟩, fun b hb => (hf b hb).1⟩⟩
  done := by
    intro X hP hw hK hc i pins s σ H E I hf st hg
    subst hP hw hK
    obtain ⟨f0, f1, f2, f3, f4, f5⟩ := hf it (by simp)
    obtain ⟨hin, hit⟩ := st
    have hge : n ≤ i := hg
    have e1 : (n : Int) - 1 - ((i : Nat) : Int) = -1 := by omega
    rw [e1] at hit
    exact wpAny_pyNext_rev_end (I.ok.hd hc) hit fun h' eb => ⟨rfl, I.turned (t' := s.toks) (fun b o hb e => eb b o hb e) f0 f1 f3 f4 f5⟩
  self := fun A i s Q E st h => wpAny_pyIter_revIter st.2 h
def iRev (K : PySem.W.Frag) (ta : TA) : TI := fun σ H R => ta σ H fun vs H1 => ∃ (a : Addr) (xs : List V), vs = [.ref a] ∧ SqL K H1 a xs ∧ R (Itv K a xs.length) H1
section
variable {X : Cx} {tg : Expr}
theorem pi_reversed {e : Expr} {ta : TA} {p pos : Pos} (hg : Gl X "reversed") (hm : X.mg "reversed" = none) (ha : PA X [e] ta) (hs : starEach [e] X.env = [(false, eval e X.env)] := by rfl) : PI X tg (.Call (.Name "reversed" p) [e] [] pos) (iRev X.K ta) := by
  intro pins s σ H R I h
  refine Call_ (ld_blt I hg hm boot_reversed5 (PyProof.Rows.callWith_type1 (thn (ha pos pins s σ H _ I h) fun us s1 ⟨vs, H1, I1, r1, q1⟩ => ?_) hs rfl))
  obtain ⟨a, xs, e, hq, q⟩ := q1
  subst e
  cases r1 with
  | cons r rr =>
    cases rr
    cases r
    obtain ⟨its, rv, p', hz⟩ := I1.list hq
    have hl := rv.length
    have e1 : ((its.toArray.size : Nat) : Int) - 1 = (xs.length : Int) - 1 - ((0 : Nat) : Int) := by simp only [List.size_toArray]; omega
    refine call_reversed_list p'.isList (wpAny_pyIter_revIter (l := a) (i := ((its.toArray.size : Nat) : Int) - 1) ⟨_, Heap.get?_push_size _ rfl, rfl, rfl⟩ ?_)
    refine pi_one (tk := s1.toks) I1 _ (turn_rev a _ xs.length) ⟨Nat.zero_le _, ?_⟩ q
    rw [← e1]
    exact ⟨_, Heap.get?_push_size _ rfl, rfl, rfl⟩
end



section
variable {prog : Program} {w : World} {A : Around} {E : Value → Shared → Prop} {s : Shared}
theorem iter_keys {d : Addr} {o : Obj} {es : Array DictEntry} {ep : Nat} {Q : Value → Shared → Prop} (hd : (d == sysModules) = false) (ho : s.heap.get? d = some o) (hc : o.ExactDict) (hdat : o.data = .dict es ep)
    (hQ : Q (.ref s.heap.objs.size) { s with heap := s.heap.push { cls := .type "dict_keyiterator", data := .fields #[.ref d, .int 0 0, .int es.size 0, .int ep 0] } }) :
    wpAny (model prog w) A (pyIter (.ref d)) Q E s := by
  have hT : s.TypeIs (.ref d) "dict" := ⟨o, ho, hc.1⟩
  refine wpAny_pyIter_slot hT F.slot_dict_iter (wpAny_call_entry F.slot_dict_iter hT F.entry_dict_iter ?_ (F.args_dict_iter_1 _))
  unfold Builtin.«dict.__iter__»
  refine wpAny_bind ?_
  unfold Builtin.Dict.dictSlotNone
  refine wpAny_bind (wpAny_notOrdered_dict hT ?_)
  show wpAny _ _ (pure (Value.ref d)) _ _ s
  refine wpAny_pure ?_
  show wpAny _ _ (Builtin.Dict.showsAll d >>= _) _ _ s
  unfold Builtin.Dict.showsAll
  rw [if_neg (by rw [hd]; exact Bool.false_ne_true)]
  refine wpAny_bind (wpAny_pure ?_)
  refine wpAny_bind (wpAny_dictEntries ho hdat ?_)
  refine wpAny_bind (wpAny_dictEpoch ho hdat ?_)
  refine wpAny_bind (wpAny_newObj_type (wpAny_pure ⟨_, rfl, "dict_keyiterator", _, ⟨_, Heap.get?_push_size _ rfl, rfl⟩, F.slot_dict_keyiterator_next.lookup, ?_⟩))
  simpa [rawInt] using hQ
theorem next_key_item {it d : Addr} {i n ep : Nat} {od : Obj} {es : Array DictEntry} {en : DictEntry} {Q : Option Value → Shared → Prop} (hit : s.heap.IsKeyIter it d i n ep) (hod : s.heap.get? d = some od) (hdd : od.data = .dict es ep)
    (hsz : es.size = n) (hx : es[i]? = some en) (hQ : ∀ h', h'.IsKeyIter it d (i + 1) n ep → Heap.SameBut it s.heap h' → Q (some en.key) { s with heap := h' }) : wpAny (model prog w) A (pyNext (.ref it)) Q E s := by
  obtain ⟨o, ho, hc, hd⟩ := id hit
  unfold pyNext
  refine wpAny_bind (wpAny_attempt (wpAny_callSpecial?_slot (name := Str.ofString "__next__") hit.typeIs F.slot_dict_keyiterator_next
    (wpAny_call_entry F.slot_dict_keyiterator_next hit.typeIs F.entry_dict_keyiterator_next ?_ (F.args_dict_keyiterator_next_1 _))))
  refine wpAny_bind (wpAny_pure ?_)
  refine wpAny_bind ?_
  refine wpAny_bind ?_
  first | refine wpAny_bind (wpAny_typeNameOfWhole_keyiter hit.typeIs (wpAny_pure ?_)) | refine wpAny_bind (wpAny_typeNameOf_keyiter hit.typeIs (wpAny_pure ?_))
  refine wpAny_bind (wpAny_fieldsOf ho hd ?_)
  have hown : Builtin.Dict_items.ownsTuple "dict_keyiterator" = false := by decide
  simp only [hown, Bool.false_eq_true, if_false]
  show wpAny _ _ (if (Value.ref d == Value.none) = true then _ else _) _ _ s
  rw [if_neg (show ¬ ((Value.ref d == Value.none) = true) from Bool.false_ne_true)]
  refine wpAny_bind (wpAny_pure ?_)
  refine wpAny_bind (wpAny_dictEntries hod hdd ?_)
  rw [if_neg (by rw [hsz]; simp)]
  refine wpAny_bind (wpAny_pure ?_)
  refine wpAny_bind (wpAny_dictEpoch hod hdd ?_)
  rw [if_neg (by simp)]
  refine wpAny_pure ?_
  obtain ⟨hlt', hen⟩ := Array.getElem?_eq_some_iff.mp hx
  simp only [show ¬ ((i : Int) < 0) from by omega, if_false, Int.toNat_natCast, Array.getElem?_eq_getElem hlt']
  refine wpAny_bind ?_
  first | refine wpAny_bind (wpAny_typeNameOfWhole_keyiter hit.typeIs (wpAny_pure ?_)) | refine wpAny_bind (wpAny_typeNameOf_keyiter hit.typeIs (wpAny_pure ?_))
  refine wpAny_bind (wpAny_isOneOf_keyiter hit.typeIs ?_)
  show wpAny _ _ (setField (.ref it) 1 (rawInt ((i : Int) + 1)) >>= _) _ _ s
  refine wpAny_bind (wpAny_setField ho hd (by simp) ?_)
  have hit' : (s.heap.update it (Obj.mapFields (·.setIfInBounds 1 (rawInt ((i : Int) + 1))))).IsKeyIter it d (i + 1) n ep :=
    ⟨_, Heap.get?_update_self _ ho (Obj.isFreed_of_fields (Obj.data_mapFields hd _)), (Obj.cls_mapFields ..).trans hc, by rw [Obj.data_mapFields hd]; simp [rawInt]⟩
  refine wpAny_bind (wpAny_holding ?_)
  refine wpAny_bind (wpAny_isOneOf_keyiter (s := { s with heap := s.heap.update it (Obj.mapFields (·.setIfInBounds 1 (rawInt ((i : Int) + 1)))) }) hit'.typeIs ?_)
  show wpAny _ _ (pure es[i].key) _ _ _
  rw [hen]
  exact wpAny_pure (wpAny_pure ⟨_, rfl, wpAny_pure (hQ _ hit' (Heap.SameBut.update ..))⟩)
theorem next_key_end {it d : Addr} {i n ep : Nat} {od : Obj} {es : Array DictEntry} {Q : Option Value → Shared → Prop} (hh : A.handled = none) (hit : s.heap.IsKeyIter it d i n ep) (hod : s.heap.get? d = some od) (hdd : od.data = .dict es ep)
    (hsz : es.size = n) (hge : n ≤ i) (hQ : ∀ h', Heap.ExtBut it s.heap h' → Q none { s with heap := h' }) : wpAny (model prog w) A (pyNext (.ref it)) Q E s := by
  obtain ⟨o, ho, hc, hd⟩ := id hit
  unfold pyNext
  refine wpAny_bind (wpAny_attempt (wpAny_callSpecial?_slot (name := Str.ofString "__next__") hit.typeIs F.slot_dict_keyiterator_next
    (wpAny_call_entry F.slot_dict_keyiterator_next hit.typeIs F.entry_dict_keyiterator_next ?_ (F.args_dict_keyiterator_next_1 _))))
  refine wpAny_bind (wpAny_pure ?_)
  refine wpAny_bind ?_
  refine wpAny_bind ?_
  first | refine wpAny_bind (wpAny_typeNameOfWhole_keyiter hit.typeIs (wpAny_pure ?_)) | refine wpAny_bind (wpAny_typeNameOf_keyiter hit.typeIs (wpAny_pure ?_))
  refine wpAny_bind (wpAny_fieldsOf ho hd ?_)
  have hown : Builtin.Dict_items.ownsTuple "dict_keyiterator" = false := by decide
  simp only [hown, Bool.false_eq_true, if_false]
  show wpAny _ _ (if (Value.ref d == Value.none) = true then _ else _) _ _ s
  rw [if_neg (show ¬ ((Value.ref d == Value.none) = true) from Bool.false_ne_true)]
  refine wpAny_bind (wpAny_pure ?_)
  refine wpAny_bind (wpAny_dictEntries hod hdd ?_)
  rw [if_neg (by rw [hsz]; simp)]
  refine wpAny_bind (wpAny_pure ?_)
  refine wpAny_bind (wpAny_dictEpoch hod hdd ?_)
  rw [if_neg (by simp)]
  refine wpAny_pure ?_
  have hge' : es.size ≤ i := by rw [hsz]; exact hge
  simp only [show ¬ ((i : Int) < 0) from by omega, if_false, Int.toNat_natCast, Array.getElem?_eq_none hge']
  refine wpAny_bind ?_
  first | refine wpAny_bind (wpAny_typeNameOfWhole_keyiter hit.typeIs (wpAny_pure ?_)) | refine wpAny_bind (wpAny_typeNameOf_keyiter hit.typeIs (wpAny_pure ?_))
  show wpAny _ _ (setField (.ref it) 0 .none >>= _) _ _ s
  refine wpAny_bind (wpAny_setField ho hd (by simp) ?_)
  show wpAny _ _ (newExc (.type "StopIteration") [] >>= _) _ _ _
  refine wpAny_bind ?_
  simp only [newExc, newTuple]
  refine wpAny_bind (wpAny_newObj_type ?_ (by size_fits))
  refine wpAny_bind (m := firstArgMember _ _) (wpAny_of_eq (a := Value.none) (by first | rfl | (simp only [firstArgMember]; rfl)) ?_)
  refine wpAny_newObj_type ?_ (by size_fits)
  simp only [raiseNew]
  refine wpAny_bind (wpAny_handled ?_)
  rw [show A.in1.handled = none from hh]
  refine wpAny_bind (wpAny_pure (wpAny_throw ?_))
  refine wpAny_bind (wpAny_isInstance (T := "StopIteration") (b := true) ⟨_, Heap.get?_push_size _ rfl, rfl⟩ isSubtype_stop ?_)
  exact wpAny_pure (hQ _ (((Heap.SameBut.update ..).extBut.push _).push _))
end


theorem kv_get {κ : Type} {kvs : List (κ × V)} {vs : List (κ × Value)} (h : KV kvs vs) : ∀ {i : Nat} {k : κ} {v : V}, kvs[i]? = some (k, v) → ∃ u, vs[i]? = some (k, u) ∧ RelV v u := by
  unfold KV at h
  induction h with
  | nil => intro i k v e; simp at e
  | @cons a b l₁ l₂ r t ih =>
    intro i k v e
    cases i with
    | zero =>
      simp only [List.getElem?_cons_zero, Option.some.injEq] at e
      subst e
      refine ⟨b.2, ?_, r.2⟩
      simp only [List.getElem?_cons_zero]
      exact congrArg some (Prod.ext r.1.symm rfl)
    | succ j =>
      simp only [List.getElem?_cons_succ] at e ⊢
      exact ih e
theorem paired_get {α β : Type} {G : α → β → Prop} {l₁ : List α} {l₂ : List β} (h : Paired G l₁ l₂) : ∀ {i : Nat} {a : α}, l₁[i]? = some a → ∃ b, l₂[i]? = some b ∧ G a b := by
  induction h with
  | nil => intro i a e; simp at e
  | @cons a b l₁ l₂ r t ih =>
    intro i a' e
    cases i with
    | zero =>
      simp only [List.getElem?_cons_zero, Option.some.injEq] at e
      subst e
      exact ⟨b, rfl, r⟩
    | succ j =>
      simp only [List.getElem?_cons_succ] at e ⊢
      exact ih e
theorem relV_key {k : Key} {u : Value} (h : keyIs k u = true) : RelV (kV k) u := by
  rcases keyIs_shape h with ⟨i, t, rfl, rfl⟩ | ⟨x, t, rfl, rfl⟩
  · exact ⟨t, rfl⟩
  · exact ⟨t, rfl⟩
section
variable {X : Cx} {pins : List (Addr × Obj)} {σ : St} {H : Hp} {s : Shared} {d : Addr} {o : Obj}
theorem Inv.frzK {kvs : List (Key × V)} (I : Inv X pins σ H s) (h : H d = some (.frz o (.dK kvs))) :
    (d == sysModules) = false ∧ s.heap.get? d = some o ∧ o.ExactDict ∧ ∃ (es : Array DictEntry) (ep : Nat) (vs : List (Key × Value)), o.data = .dict es ep ∧ es.size = kvs.length ∧ KV kvs vs ∧ s.heap.DictAt (mixKind X.prog X.w) d vs ep := by
  obtain ⟨hd, z, hs, vs, kv, o', es, ep, ho, hx, hdt, r⟩ := I.hok d _ h
  rw [hd] at ho
  cases ho
  refine ⟨hs, hd, hx, es, ep, vs, hdt, ?_, kv, o, es, hd, hx, hdt, r⟩
  have l1 := r.2.1.length
  have l2 : kvs.length = vs.length := Paired.length kv
  rw [Array.length_toList] at l1
  omega
theorem Inv.frzT {kvs : List (List Key × V)} (I : Inv X pins σ H s) (h : H d = some (.frz o (.dT kvs))) :
    (d == sysModules) = false ∧ s.heap.get? d = some o ∧ o.ExactDict ∧ ∃ (es : Array DictEntry) (ep : Nat), o.data = .dict es ep ∧ es.size = kvs.length ∧
      ∀ (i : Nat) (k : List Key) (v : V), kvs[i]? = some (k, v) → ∃ (en : DictEntry) (q : Addr), es[i]? = some en ∧ en.key = .ref q ∧ H q = some (.tup (k.map kV)) := by
  obtain ⟨hd, z, hs, xs, pr, o', es, ep, ho, hx, hdt, he, _⟩ := I.hok d _ h
  rw [hd] at ho
  cases ho
  refine ⟨hs, hd, hx, es, ep, hdt, ?_, fun i k v e => ?_⟩
  · have l1 : es.size = xs.length := size_of_entries he
    have l2 : kvs.length = xs.length := Paired.length pr
    omega
  · obtain ⟨b, hb, e1, e2, _⟩ := paired_get pr e
    have q := entry_at he i
    rw [hb] at q
    exact ⟨_, b.2.1, q, rfl, e2⟩
end

def Itk (d : Addr) (o : Obj) (kvs : List (Key × V)) : It :=
  ⟨fun i H => H d = some (.frz o (.dK kvs)) ∧ i < kvs.length, fun i H x H' => H' = H ∧ ∃ k v, kvs[i]? = some (k, v) ∧ x = kV k, fun i H => H d = some (.frz o (.dK kvs)) ∧ kvs.length ≤ i⟩
def Itkt (d : Addr) (o : Obj) (kvs : List (List Key × V)) : It :=
  ⟨fun i H => H d = some (.frz o (.dT kvs)) ∧ i < kvs.length, fun i H x H' => H' = H ∧ ∃ (k : List Key) (v : V) (q : Addr), kvs[i]? = some (k, v) ∧ x = .ref q ∧ H q = some (.tup (k.map kV)), fun i H => H d = some (.frz o (.dT kvs)) ∧ kvs.length ≤ i⟩
theorem dict_ep {o : Obj} {es es' : Array DictEntry} {ep ep' : Nat} (h : o.data = .dict es ep) (h' : o.data = .dict es' ep') : es' = es ∧ ep' = ep := by
  rw [h] at h'
  cases h'
  exact ⟨rfl, rfl⟩
section
variable {P : Program} {w : World} {K : PySem.W.Frag} {tg : Expr} {d : Addr} {o : Obj} {es : Array DictEntry} {ep : Nat}
theorem turn_keys {kvs : List (Key × V)} (it : Addr) (hod : o.data = .dict es ep) : Turn P w K tg (Itk d o kvs) [it] it (fun i h => h.IsKeyIter it d i kvs.length ep) where
  mem := by simp
  obj := fun i h st b hb => by
    have e : b = it := by simpa using hb
    subst e
    obtain ⟨oi, e, c, dd⟩ := st
    exact ⟨oi, e, fun v z => by rw [dd] at z; cases z⟩
  keep := fun i h h' st k => st.at fun oi e => k it (by simp) oi e
  item := by
    intro X hP hw hK hc i pins s σ H E I hf st hg
    subst hP hw hK
    obtain ⟨hd, hi⟩ := hg
    obtain ⟨f0, f1, f2, f3, f4, f5⟩ := hf it (by simp)
    obtain ⟨hs, hgd, hx, es', ep', vs, hdt, hsz, kv, hm⟩ := I.frzK hd
    obtain ⟨rfl, rfl⟩ := dict_ep hod hdt
    obtain ⟨⟨k, v⟩, hkv⟩ : ∃ p, kvs[i]? = some p := ⟨kvs[i], List.getElem?_eq_getElem hi⟩
    obtain ⟨u, hu, ru⟩ := kv_get kv hkv
    have hl : kvs.length = vs.length := Paired.length kv
    rw [hl] at st
    refine wpAny_pyNext_dict_item st hm hu fun key h' hkey st' sb => ?_
    have I1 : Inv X pins σ H { s with heap := h' } := I.turned (t' := s.toks) (fun b ob hb e => (sb.2 b hb).trans e) f0 f1 f3 f4 f5
    obtain ⟨oi, e, c, dd⟩ := id st'
    refine ⟨key, rfl, go_of (s := { s with heap := h' }) e c dd (by decide) ⟨kV k, H, I1, relV_key (show keyIs k key = true from hkey), ⟨rfl, k, v, hkv, rfl⟩, ?_, fun b hb => (hf b hb).1⟩⟩
    show h'.IsKeyIter it d (i + 1) kvs.length _
    rw [hl]
    exact st'
  done := by
    intro X hP hw hK hc i pins s σ H E I hf st hg
    subst hP hw hK
    obtain ⟨hd, hi⟩ := hg
    obtain ⟨f0, f1, f2, f3, f4, f5⟩ := hf it (by simp)
    obtain ⟨hs, hgd, hx, es', ep', vs, hdt, hsz, kv, hm⟩ := I.frzK hd
    obtain ⟨rfl, rfl⟩ := dict_ep hod hdt
    exact next_key_end (I.ok.hd hc) st hgd hdt hsz hi fun h' eb => ⟨rfl, I.turned (t' := s.toks) (fun b ob hb e => eb b ob hb e) f0 f1 f3 f4 f5⟩
  self := fun A i s Q E st h => wpAny_pyIter_keyiter st h
theorem turn_keysT {kvs : List (List Key × V)} (it : Addr) (hod : o.data = .dict es ep) : Turn P w K tg (Itkt d o kvs) [it] it (fun i h => h.IsKeyIter it d i kvs.length ep) where
  mem := by simp
  obj := fun i h st b hb => by
    have e : b = it := by simpa using hb
    subst e
    obtain ⟨oi, e, c, dd⟩ := st
    exact ⟨oi, e, fun v z => by rw [dd] at z; cases z⟩
  keep := fun i h h' st k => st.at fun oi e => k it (by simp) oi e
  item := by
    intro X hP hw hK hc i pins s σ H E I hf st hg
    subst hP hw hK
    obtain ⟨hd, hi⟩ := hg
    obtain ⟨f0, f1, f2, f3, f4, f5⟩ := hf it (by simp)
    obtain ⟨hs, hgd, hx, es', ep', hdt, hsz, ent⟩ := I.frzT hd
    obtain ⟨rfl, rfl⟩ := dict_ep hod hdt
    obtain ⟨⟨k, v⟩, hkv⟩ : ∃ p, kvs[i]? = some p := ⟨kvs[i], List.getElem?_eq_getElem hi⟩
    obtain ⟨en, q, hen, hkey, hq⟩ := ent i k v hkv
    refine next_key_item st hgd hdt hsz hen fun h' st' sb => ?_
    have I1 : Inv X pins σ H { s with heap := h' } := I.turned (t' := s.toks) (fun b ob hb e => (sb.2 b hb).trans e) f0 f1 f3 f4 f5
    obtain ⟨oi, e, c, dd⟩ := id st'
    exact ⟨en.key, rfl, go_of (s := { s with heap := h' }) e c dd (by decide) ⟨.ref q, H, I1, hkey, ⟨rfl, k, v, q, hkv, rfl, hq⟩, st', fun b hb => (hf b hb).1⟩⟩
  done := by
    intro X hP hw hK hc i pins s σ H E I hf st hg
    subst hP hw hK
    obtain ⟨hd, hi⟩ := hg
    obtain ⟨f0, f1, f2, f3, f4, f5⟩ := hf it (by simp)
    obtain ⟨hs, hgd, hx, es', ep', hdt, hsz, ent⟩ := I.frzT hd
    obtain ⟨rfl, rfl⟩ := dict_ep hod hdt
    exact next_key_end (I.ok.hd hc) st hgd hdt hsz hi fun h' eb => ⟨rfl, I.turned (t' := s.toks) (fun b ob hb e => eb b ob hb e) f0 f1 f3 f4 f5⟩
  self := fun A i s Q E st h => by
    refine wpAny_pyIter_slot st.typeIs F.slot_dict_keyiterator_iter (wpAny_call_entry F.slot_dict_keyiterator_iter st.typeIs F.entry_dict_keyiterator_iter ?_ (F.args_dict_keyiterator_iter_1 _))
    show wpAny _ _ (ret (.ref it)) _ _ s
    exact wpAny_pure ⟨_, rfl, "dict_keyiterator", _, st.typeIs, F.slot_dict_keyiterator_next.lookup, h⟩
end


def iKeys (td : TE) : TI := fun σ H R => td σ H fun x H1 => ∃ d o, x = .ref d ∧ ((∃ kvs, H1 d = some (.frz o (.dK kvs)) ∧ R (Itk d o kvs) H1) ∨ ∃ kvs, H1 d = some (.frz o (.dT kvs)) ∧ R (Itkt d o kvs) H1)
section
variable {X : Cx} {tg e : Expr} {td : TE} {apos cpos : Pos}
theorem pi_keys (he : PE X e td) : PI X tg e (iKeys td) := by
  intro pins s σ H R I h
  refine thn (he pins s σ H _ I h) fun u s1 ⟨x, H1, I1, rx, d, o, ex, q⟩ => ?_
  subst ex
  obtain rfl : u = Value.ref d := rx
  rcases q with ⟨kvs, hd, q⟩ | ⟨kvs, hd, q⟩
  · obtain ⟨hs, hgd, hx, es, ep, vs, hdt, hsz, kv, hm⟩ := I1.frzK hd
    refine iter_keys hs hgd hx hdt (pi_one (tk := s1.toks) I1 _ (turn_keys _ hdt) ⟨_, Heap.get?_push_size _ rfl, rfl, ?_⟩ q)
    rw [hsz] <;> rfl
  · obtain ⟨hs, hgd, hx, es, ep, hdt, hsz, ent⟩ := I1.frzT hd
    refine iter_keys hs hgd hx hdt (pi_one (tk := s1.toks) I1 _ (turn_keysT _ hdt) ⟨_, Heap.get?_push_size _ rfl, rfl, ?_⟩ q)
    rw [hsz] <;> rfl
end



theorem boot_zip5 : bootBuiltins "zip" = some (.type "zip") := by decide +kernel
end L2

section 
namespace Bits
open PySem PyProof.Rows
theorem bitOr_pp {x y : Int} (hx : 0 ≤ x) (hy : 0 ≤ y) : Builtin.bitOr x y = ((x.toNat ||| y.toNat : Nat) : Int) := by
  have e := nat_or_add_and x.toNat y.toNat
  rw [bitOr_and, bitAnd_pp hx hy]
  omega
end Bits
end 

section 
namespace TL
open PySem PySem.Builtin PySem.Builtin.Str PySem.StrLaws
abbrev tl (x : Str) : List Nat := x.cps.toList





end TL
end 

namespace L2
open PySem PySem.Spec PyProof.Rows
section
variable {X : Cx} {pins : List (Addr × Obj)} {σ : St} {H : Hp} {s : Shared} {Q : VK}
end

section
variable {X : Cx}


end

section
variable {X : Cx} {o e : Expr} {to te : TE}
end
end L2

namespace L2
open PySem PySem.Spec PyProof.Rows
section
variable {X : Cx}
end


end L2

namespace Att
open PySem PySem.W PySem.Calls PyProof.Rows

theorem ints_of_wellAll {P : Params} {h : Heap} : ∀ (ns : List Int) (vs : List Value), WellAll P h vs (ns.map WData.int) → IntsAre vs ns := by
  intro ns
  induction ns with
  | nil =>
    intro vs w
    rw [List.map_nil] at w
    cases w
    exact .nil
  | cons n ns ih =>
    intro vs w
    rw [List.map_cons] at w
    cases w with
    | cons a b =>
      cases a
      exact .cons _ _ (ih _ b)


section
variable {prog : Program} {w : World} {A : Around} {E : Value → Shared → Prop} {s : Shared} {K : Frag}

end
end Att

namespace L2
open PySem PySem.Spec PyProof.Rows
theorem vals_ints : ∀ {vs : List Value} {ns : List Int}, IntsAre vs ns → Vals (ns.map V.int) vs
  | _, _, .nil => .nil
  | _, _, .cons n t h => .cons ⟨t, rfl⟩ (vals_ints h)
def Only (H : Hp) : Prop := ∀ b, H b = none ∨ ∃ o xs, H b = some (.frz o (.lst xs))
end L2

namespace L2
open PySem PySem.Spec PyProof.Rows
abbrev KOf {K : PySem.W.Frag} {h : Heap} (_ : K.In h) : PySem.W.Frag := K
end L2

/- THE LAST THEOREM (shape; LID, My.* are yours):
   My.Adr: a structure of the addresses that your layer names (classes, functions); My.Txt K t: a structure (Prop) of the equations over K;
   My.txt_mk : {K} {implicit addresses ..} (e1 : nsIn K mainGlobals "law" = some (some (.ref f))) (e2 : K.lookup f = some ⟨oc, od, .func (fnOf "law" "law" params body scope dV kV doc pm an cdv ct), sl⟩) (e3 : codeIn K cdv "law" = true) .. : ∃ t, My.Txt K t

set_option maxRecDepth 100000 in
set_option maxHeartbeats 0 in
theorem PySem.Challenge.cw_LID_holds : PySem.Challenge.rw_LID.Holds := by
  w_on; o_law; k_head; (case hw => w_witness2)
  k_fill
  refine L2.walk_of (l := PySem.Challenge.rw_LID) (n := 63) (k := 40) (x := "script") (CX := fun w => ..) (sp := fun _ => My.sp_law) rfl (by decide) rfl ⟨rfl, by decide, by decide⟩ (fun w h Y => PySem.W.kIn_of Y) ?F ?S ?C
  case F =>
    intro w mg fa h KX G hmg
    have T : ∃ t, My.Txt (L2.KOf KX) t := by
      dsimp only [L2.KOf]                          -- K must stand as «<heap const> w.params» for k_is
      refine' My.txt_mk ?e1 ?e2 ?e3 ..
      (case e1 => PySem.W.k_is)                    -- in the order: a name -> its address -> its object -> its parts
      (case e2 => PySem.W.k_is)
      ..
    obtain ⟨t, T⟩ := T
    have e0 := hmg.symm.trans (PySem.W.mg_of KX G T.law)
    cases e0                                       -- fa is the law's own address
    exact ⟨_, fun s u => .of_eq rfl, fun base kb nb => My.law_fn T kb nb⟩     -- if «.of_eq rfl» comes too early: refine' ⟨_, ?b, fun base kb nb => My.law_fn T kb nb⟩; exact fun s u => .of_eq rfl
  case S => exact fun w H a ns hl hO hS => ..
  case C => exact ..
(the tactic k_is has no namespace: write k_is) -/

namespace L2
open PySem PySem.Spec PyProof.Rows

def inClass (s : Stmt) (j : Nat) : Stmt := match s with
  | .ClassDef _ _ _ body _ _ _ _ _ _ _ => body.getD j (.Pass ⟨0, 0, 0, 0⟩)
  | _ => .Pass ⟨0, 0, 0, 0⟩
def defArgs (s : Stmt) : Arguments := match s with
  | .FunctionDef _ a _ _ _ _ _ _ _ _ => a
  | _ => { posonlyargs := [], args := [], vararg := none, kwonlyargs := [], kw_defaults := [], kwarg := none, defaults := [] }
def defBody (s : Stmt) : List Stmt := match s with
  | .FunctionDef _ _ b _ _ _ _ _ _ _ => b
  | _ => []
def defScope (s : Stmt) : Scope := match s with
  | .FunctionDef _ _ _ _ _ _ sc _ _ _ => sc
  | _ => { kind := .function, names := [], isGenerator := false, isCoroutine := false }

abbrev CX0 : CXT := fun _ _ _ _ _ _ => False
abbrev E0 : XK := fun _ _ _ => False
theorem pass0 {X : Cx} : Passes CX0 X E0 := fun _ _ _ _ _ _ _ h => h.elim

structure Fun (K : PySem.W.Frag) (x qual : Str) (st : Stmt) (f : Addr) (fd : FuncData) : Prop where
  ex : ∃ (oc : Value) (od : Option Addr) (kV doc pm : Value) (an : Option Addr) (cdv ct : Value) (osl : Array (Option Value)),
    fd = PySem.W.fnOf x qual (defArgs st) (defBody st) (defScope st) .none kV doc pm an cdv ct ∧ K.lookup f = some ⟨oc, od, .func fd, osl⟩ ∧ PySem.W.codeIn K cdv qual = true
  kp : PySem.W.keepIn K (.ref f) = true
section
variable {P : Program} {w : World} {K : PySem.W.Frag} {mg : Str → Option Value} {base : Heap}
theorem Fun.ok {x qual : Str} {st : Stmt} {f : Addr} {fd : FuncData} {N ps : List Str} {k : Nat} {sp : Sp} (F : Fun K x qual st f fd) (S : FnScope N ps (defScope st)) (len : ∀ vs H Q E, sp vs H Q E → vs.length = ps.length)
    (hbody : ∀ (cdv : Value) (A : Around) (outer : List Env) (s : Shared) (H : Hp) (vs : List V) (Q : VK) (E : XK), Room k (A.deeper (envOfC qual (defScope st) s.heap.objs.size f cdv)) → sp vs H Q E →
      ∃ t, PSs (cxOf CX0 P w K mg base N qual (defScope st) f cdv A outer s H E).nox (defBody st) t ∧ t { nx := fun _ H' => Q .non H', rt := Q } (start N vs) H) : FnOk P w K mg base CX0 (k + 1) f fd ps sp := by
  obtain ⟨oc, od, kV, doc, pm, an, cdv, ct, osl, rfl, lk, hcd⟩ := F.ex
  refine fn_of lk hcd S len fun A outer s H vs Q E hr hsp => ?_
  obtain ⟨t, h, q⟩ := hbody cdv A outer s H vs Q E hr hsp
  exact ⟨t, h.nox, q⟩
theorem Fun.binds {x qual : Str} {st : Stmt} {f : Addr} {fd : FuncData} {ps : List Str} (F : Fun K x qual st f fd)
    (h : ∀ (kV doc pm : Value) (an : Option Addr) (cdv ct : Value) (us : List Value), us.length = ps.length → bindArgs (PySem.W.fnOf x qual (defArgs st) (defBody st) (defScope st) .none kV doc pm an cdv ct) ⟨us, []⟩ = pure (ps.zip us)) : Binds K fd ps [] := by
  obtain ⟨oc, od, kV, doc, pm, an, cdv, ct, osl, rfl, lk, hcd⟩ := F.ex
  exact .all (h kV doc pm an cdv ct)
theorem fun_mk {x qual : Str} {st : Stmt} {f : Addr} {oc : Value} {od an : Option Addr} {osl : Array (Option Value)} {kV doc pm cdv ct : Value} (l : K.lookup f = some ⟨oc, od, .func (PySem.W.fnOf x qual (defArgs st) (defBody st) (defScope st) .none kV doc pm an cdv ct), osl⟩)
    (c : PySem.W.codeIn K cdv qual = true) (k : PySem.W.keepIn K (.ref f) = true) : Fun K x qual st f (PySem.W.fnOf x qual (defArgs st) (defBody st) (defScope st) .none kV doc pm an cdv ct) := ⟨⟨oc, od, kV, doc, pm, an, cdv, ct, osl, rfl, l, c⟩, k⟩
end
theorem hu_of {A : Around} {k : Nat} (hr : Room k A) : A.units + 1 < cLine := Nat.lt_of_le_of_lt (Nat.add_le_add_left (by decide : 1 ≤ 64) _) hr.units

section
variable {X : Cx}
theorem pv (i : Nat) {x : Str} {pos : Pos} (hN : X.N[i]? = some x := by rfl) (hv : Vis X.env.scope x := by first | exact Or.inl rfl | exact Or.inr (Or.inl rfl) | exact Or.inr (Or.inr rfl)) (hd : (x == ("__debug__" : Str)) = false := by decide)
    (hcd : (x == ("__classdict__" : Str)) = false := by decide) : PE X (.Name x pos) (tVar i) := pe_var hN hv hd hcd
theorem call_lenD : CallR X (.builtin "len") (fun xs H Q => ∃ a kvs, xs = [V.ref a] ∧ H a = some (.dK kvs) ∧ Q (.int kvs.length) H) := by
  intro pins s σ H xs us Q I r h
  obtain ⟨a, kvs, rfl, ha, q⟩ := h
  obtain ⟨u, rfl, ru⟩ := vals1 r
  cases ru
  exact d_len I (.inl ha) fun t s' I' => ⟨.int kvs.length, H, I', ⟨t, rfl⟩, q⟩
end


theorem iteF {A B : Prop} (h : B) : if false = true then A else B := by
  rw [if_neg Bool.false_ne_true]
  exact h
theorem iteT {A B : Prop} (h : A) : if true = true then A else B := by
  rw [if_pos rfl]
  exact h
theorem ite2 {c A B : Prop} [Decidable c] (h1 : c → A) (h2 : ¬ c → B) : if c then A else B := by
  by_cases h : c
  · rw [if_pos h]
    exact h1 h
  · rw [if_neg h]
    exact h2 h
theorem iteNS {c A B : Prop} [Decidable c] (hc : c) (h : B) : if (!decide c) = true then A else B := by
  rw [decide_eq_true hc]
  exact iteF h


section
variable {κ : Type} [DecidableEq κ]
theorem dropK_pos {p : κ × V} {r : List (κ × V)} {k : κ} (e : p.1 = k) : dropK (p :: r) k = dropK r k := by
  unfold dropK
  rw [List.filter_cons, if_neg (by simp [e])]
theorem dropK_neg {p : κ × V} {r : List (κ × V)} {k : κ} (e : ¬ p.1 = k) : dropK (p :: r) k = p :: dropK r k := by
  unfold dropK
  rw [List.filter_cons, if_pos (by simp [e])]
theorem dropK_no : ∀ {kvs : List (κ × V)} {k : κ}, ¬ k ∈ kvs.map (·.1) → dropK kvs k = kvs
  | [], _, _ => rfl
  | p :: r, k, h => by
    have h' : ¬ k ∈ r.map (·.1) := fun m => by
      obtain ⟨q, hq, e⟩ := List.mem_map.mp m
      exact h (List.mem_map.mpr ⟨q, List.mem_cons.mpr (Or.inr hq), e⟩)
    rw [dropK_neg fun e => h (List.mem_map.mpr ⟨p, List.mem_cons.mpr (Or.inl rfl), e⟩), dropK_no h']
end

theorem nd_ix {α : Type} {l : List α} (hN : l.Nodup) {i j : Nat} {x : α} (a : l[i]? = some x) (b : l[j]? = some x) : i = j := by
  obtain ⟨h1, e1⟩ := List.getElem?_eq_some_iff.mp a
  obtain ⟨h2, e2⟩ := List.getElem?_eq_some_iff.mp b
  exact (List.getElem_inj hN).mp (e1.trans e2.symm)
end L2

namespace TC
open Sq05

structure Good (s : Sum) : Prop where
  le : s.nones ≤ s.many
  lst : s.least.isSome = decide (s.nones < s.many)
  gst : s.greatest.isSome = decide (s.nones < s.many)
  fst : s.first.isSome = decide (s.nones < s.many)
  lat : s.last.isSome = decide (s.nones < s.many)
  tot : s.many = s.nones → s.total = 0
def ft (o : Option (Nat × Int)) : Int := match o with | none => 0 | some x => (x.1 : Int)
def fv (o : Option (Nat × Int)) : Int := match o with | none => St.NONE | some x => x.2
theorem pair_eq (o : Option (Nat × Int)) : pair o = [ft o, fv o] := by cases o <;> rfl
theorem good_empty : Good empty := ⟨Nat.le_refl _, rfl, rfl, rfl, rfl, fun _ => rfl⟩
theorem good_of (m : St.Measurement) : Good (of m) := by
  unfold of
  split <;> constructor <;> simp
theorem join_none {a b : Sum} (hb : Good b) (h : b.nones = b.many) :
    (join a b).least = a.least ∧ (join a b).greatest = a.greatest ∧ (join a b).first = a.first ∧ (join a b).last = a.last ∧ (join a b).total = a.total := by
  have h1 := hb.lst; have h2 := hb.gst; have h3 := hb.fst; have h4 := hb.lat; have h5 := hb.tot h.symm
  have hd : decide (b.nones < b.many) = false := by simp [h]
  rw [hd] at h1 h2 h3 h4
  simp only [Option.isSome_eq_false_iff, Option.isNone_iff_eq_none] at h1 h2 h3 h4
  unfold join
  refine ⟨?_, ?_, ?_, ?_, ?_⟩
  · simp only [h1]; cases a.least <;> rfl
  · simp only [h2]; cases a.greatest <;> rfl
  · simp only [h3]; cases a.first <;> rfl
  · simp only [h4]; rfl
  · simp only [h5]; omega
theorem join_first {a b : Sum} (ha : Good a) (hb : Good b) (h : b.nones < b.many) (h' : a.nones = a.many) :
    (join a b).least = b.least ∧ (join a b).greatest = b.greatest ∧ (join a b).first = b.first ∧ (join a b).last = b.last := by
  have h1 := ha.lst; have h2 := ha.gst; have h3 := ha.fst; have h4 := hb.lat
  have hd : decide (a.nones < a.many) = false := by simp [h']
  have hd' : decide (b.nones < b.many) = true := by simp [h]
  rw [hd] at h1 h2 h3
  rw [hd'] at h4
  simp only [Option.isSome_eq_false_iff, Option.isNone_iff_eq_none] at h1 h2 h3
  unfold join
  refine ⟨?_, ?_, ?_, ?_⟩
  · simp only [h1]; rfl
  · simp only [h2]; rfl
  · simp only [h3]; rfl
  · simp only [h4]; rfl
theorem join_more {a b : Sum} (ha : Good a) (hb : Good b) (h : b.nones < b.many) (h' : a.nones < a.many) :
    St.told (join a b).least = min (St.told a.least) (St.told b.least) ∧ St.told (join a b).greatest = max (St.told a.greatest) (St.told b.greatest) ∧ (join a b).first = a.first ∧ (join a b).last = b.last := by
  have h1 := ha.lst; have h2 := ha.gst; have h3 := ha.fst; have h4 := hb.lat; have h5 := hb.lst; have h6 := hb.gst
  have hd : decide (a.nones < a.many) = true := by simp [h']
  have hd' : decide (b.nones < b.many) = true := by simp [h]
  rw [hd] at h1 h2 h3
  rw [hd'] at h4 h5 h6
  obtain ⟨x, hx⟩ := Option.isSome_iff_exists.mp h1
  obtain ⟨y, hy⟩ := Option.isSome_iff_exists.mp h2
  obtain ⟨x', hx'⟩ := Option.isSome_iff_exists.mp h5
  obtain ⟨y', hy'⟩ := Option.isSome_iff_exists.mp h6
  unfold join
  refine ⟨?_, ?_, ?_, ?_⟩
  · simp only [hx, hx', both, St.told, Option.getD_some]
  · simp only [hy, hy', both, St.told, Option.getD_some]
  · simp only [h3]; rfl
  · simp only [h4]; rfl
theorem good_join {a b : Sum} (ha : Good a) (hb : Good b) : Good (join a b) := by
  have e1 : (join a b).many = a.many + b.many := rfl
  have e2 : (join a b).nones = a.nones + b.nones := rfl
  have l1 := ha.le
  have l2 := hb.le
  by_cases h : b.nones < b.many
  · have d : decide ((join a b).nones < (join a b).many) = true := by rw [e1, e2]; simp; omega
    have db : decide (b.nones < b.many) = true := by simp [h]
    by_cases h' : a.nones < a.many
    · have da : decide (a.nones < a.many) = true := by simp [h']
      obtain ⟨_, _, q3, q4⟩ := join_more ha hb h h'
      refine ⟨by rw [e1, e2]; omega, ?_, ?_, ?_, ?_, fun e => by rw [e1, e2] at e; omega⟩
      · rw [d]
        have h1 := ha.lst; rw [da] at h1
        have h5 := hb.lst; rw [db] at h5
        obtain ⟨x, hx⟩ := Option.isSome_iff_exists.mp h1
        obtain ⟨x', hx'⟩ := Option.isSome_iff_exists.mp h5
        simp only [join, hx, hx', both, Option.isSome_some]
      · rw [d]
        have h1 := ha.gst; rw [da] at h1
        have h5 := hb.gst; rw [db] at h5
        obtain ⟨x, hx⟩ := Option.isSome_iff_exists.mp h1
        obtain ⟨x', hx'⟩ := Option.isSome_iff_exists.mp h5
        simp only [join, hx, hx', both, Option.isSome_some]
      · rw [q3, d, ha.fst, da]
      · rw [q4, d, hb.lat, db]
    · obtain ⟨q1, q2, q3, q4⟩ := join_first ha hb h (by omega)
      refine ⟨by rw [e1, e2]; omega, ?_, ?_, ?_, ?_, fun e => by rw [e1, e2] at e; omega⟩
      · rw [q1, d, hb.lst, db]
      · rw [q2, d, hb.gst, db]
      · rw [q3, d, hb.fst, db]
      · rw [q4, d, hb.lat, db]
  · obtain ⟨q1, q2, q3, q4, q5⟩ := join_none (a := a) hb (by omega)
    have e : decide ((join a b).nones < (join a b).many) = decide (a.nones < a.many) := by
      rw [e1, e2]; congr 1; apply propext; omega
    refine ⟨by rw [e1, e2]; omega, ?_, ?_, ?_, ?_, fun z => ?_⟩
    · rw [q1, e, ha.lst]
    · rw [q2, e, ha.gst]
    · rw [q3, e, ha.fst]
    · rw [q4, e, ha.lat]
    · rw [q5]; exact ha.tot (by rw [e1, e2] at z; omega)
theorem join_empty_right (a : Sum) : join a empty = a := by
  cases a with
  | mk m n l g t f la q =>
    unfold join empty
    congr 1
    · cases l <;> rfl
    · cases g <;> rfl
    · simp
    · cases f <;> rfl
    · simp
theorem join_empty_left {a : Sum} : join empty a = a := by
  cases a with
  | mk m n l g t f la q =>
    unfold join empty
    congr 1
    · simp
    · simp
    · simp
    · cases la <;> rfl
    · simp

abbrev Cells := List (Nat × Sum)
def Rising (cs : Cells) : Prop := cs.Pairwise fun a b => a.1 < b.1
def cellOf (cs : Cells) (i : Nat) : Sum := ((cs.find? fun x => x.1 == i).map fun x => x.2).getD empty
def within (n m : Nat) (cs : Cells) : Cells := cs.filter fun x => decide (n ≤ x.1) && decide (x.1 < n + m)
theorem within_zero (n : Nat) (cs : Cells) : within n 0 cs = [] := by
  unfold within
  rw [List.filter_eq_nil_iff]
  intro x _
  simp
  try omega
theorem find_none_of {p : Nat × Sum → Bool} {cs : Cells} (h : ∀ x ∈ cs, p x = false) : cs.find? p = none := by
  rw [List.find?_eq_none]
  intro x hx
  rw [h x hx]; simp
theorem within_succ (n m : Nat) : ∀ {cs : Cells}, Rising cs → within n (m + 1) cs = (match cs.find? fun x => x.1 == n with | some x => [x] | none => []) ++ within (n + 1) m cs
  | [], _ => rfl
  | x :: r, h => by
    obtain ⟨h1, h2⟩ := List.pairwise_cons.mp h
    have ih := within_succ n m h2
    by_cases e : x.1 = n
    · have hr : ∀ y ∈ r, ¬ y.1 = n := fun y hy => by have := h1 y hy; omega
      have f1 : (x :: r).find? (fun x => x.1 == n) = some x := by simp [List.find?_cons, e]
      have f2 : r.find? (fun x => x.1 == n) = none := find_none_of fun y hy => by simp [hr y hy]
      rw [f2] at ih
      rw [f1]
      unfold within at ih ⊢
      rw [List.filter_cons, if_pos (by simp; omega), ih, List.filter_cons, if_neg (by simp; omega)]
      rfl
    · have f1 : (x :: r).find? (fun x => x.1 == n) = r.find? (fun x => x.1 == n) := by simp [List.find?_cons, e]
      rw [f1]
      by_cases hx : n ≤ x.1 ∧ x.1 < n + (m + 1)
      · have hr : ∀ y ∈ r, ¬ y.1 = n := fun y hy => by have := h1 y hy; omega
        have f2 : r.find? (fun x => x.1 == n) = none := find_none_of fun y hy => by simp [hr y hy]
        rw [f2] at ih ⊢
        unfold within at ih ⊢
        rw [List.filter_cons, if_pos (by simp; omega), ih, List.filter_cons, if_pos (by simp; omega)]
        rfl
      · unfold within at ih ⊢
        rw [List.filter_cons, if_neg (by simp; omega), ih, List.filter_cons, if_neg (by simp; omega)]
def run (l n m : Nat) : List (Nat × Nat) := (List.range m).map fun c => (l, n + c)
theorem run_zero (l n : Nat) : run l n 0 = [] := rfl
theorem run_succ (l n m : Nat) : run l n (m + 1) = (l, n) :: run l (n + 1) m := by
  unfold run
  rw [List.range_succ_eq_map, List.map_cons, List.map_map]
  congr 1
  apply List.map_congr_left
  intro c _
  simp; omega
theorem run_length (l n m : Nat) : (run l n m).length = m := by simp [run]
theorem fold_run {cs : Cells} (h : Rising cs) (l : Nat) : ∀ (m n : Nat) (a : Sum),
    (run l n m).foldl (fun a z => join a (cellOf cs z.2)) a = (within n m cs).foldl (fun a x => join a x.2) a
  | 0, n, a => by rw [within_zero]; rfl
  | m + 1, n, a => by
    rw [run_succ, List.foldl_cons, fold_run h l m (n + 1), within_succ n m h, List.foldl_append]
    congr 1
    show join a (cellOf cs n) = _
    unfold cellOf
    cases cs.find? fun x => x.1 == n with
    | none => simp [join_empty_right]
    | some x => rfl

theorem nums_run {cs : Cells} (h : Rising cs) : ∀ (m n : Nat), ((List.range m).map (fun c => n + c)).filter (fun i => cs.any fun x => x.1 == i) = (within n m cs).map (·.1)
  | 0, n => by rw [within_zero]; rfl
  | m + 1, n => by
    have e : (List.range (m + 1)).map (fun c => n + c) = n :: (List.range m).map (fun c => (n + 1) + c) := by
      rw [List.range_succ_eq_map, List.map_cons, List.map_map]
      congr 1
      apply List.map_congr_left
      intro c _
      simp; omega
    rw [e, within_succ n m h, List.filter_cons, nums_run h m (n + 1), List.map_append]
    cases q : cs.find? fun x => x.1 == n with
    | none =>
      have : (cs.any fun x => x.1 == n) = false := by
        rw [List.any_eq_false]
        intro x hx
        exact List.find?_eq_none.mp q x hx
      rw [this]; rfl
    | some x =>
      have hx := List.find?_some q
      have hm := List.mem_of_find?_eq_some q
      have : (cs.any fun x => x.1 == n) = true := List.any_eq_true.mpr ⟨x, hm, hx⟩
      have hx' : x.1 = n := by simpa using hx
      rw [this, if_pos rfl]
      show n :: _ = [x.1] ++ _
      rw [hx']; rfl

theorem dropWhile_filter (o : Nat) : ∀ {cs : Cells}, Rising cs → cs.dropWhile (fun x => decide (x.1 < o)) = cs.filter (fun x => decide (o ≤ x.1))
  | [], _ => rfl
  | x :: r, h => by
    obtain ⟨h1, h2⟩ := List.pairwise_cons.mp h
    by_cases e : x.1 < o
    · rw [List.dropWhile_cons, if_pos (by simp [e]), List.filter_cons, if_neg (by simp; omega), dropWhile_filter o h2]
    · rw [List.dropWhile_cons, if_neg (by simp; omega), List.filter_cons, if_pos (by simp; omega)]
      congr 1
      symm
      rw [List.filter_eq_self]
      intro y hy
      have := h1 y hy
      simp; omega
theorem filter_rising {cs : Cells} (p : Nat × Sum → Bool) (h : Rising cs) : Rising (cs.filter p) := List.Pairwise.filter _ h
def putCell (i : Nat) (s : Sum) (cs : Cells) : Cells :=
  if cs.any (fun x => x.1 == i) then cs.map (fun x => if x.1 = i then (x.1, join x.2 s) else x) else cs ++ [(i, s)]
theorem put_last {i : Nat} {s : Sum} {cs : Cells} (h : Rising cs) (hi : ∀ x ∈ cs, x.1 ≤ i) :
    putCell i s cs = (match cs.getLast? with | some c => if c.1 = i then cs.dropLast ++ [(i, join c.2 s)] else cs ++ [(i, s)] | none => [(i, s)]) := by
  rcases List.eq_nil_or_concat cs with rfl | ⟨r, c, e0⟩
  · rfl
  · rw [List.concat_eq_append] at e0
    subst e0
    have hr : ∀ x ∈ r, x.1 < c.1 := fun x hx => (List.pairwise_append.mp h).2.2 x hx c (List.mem_singleton.mpr rfl)
    have hc := hi c (by simp)
    have hn : ∀ x ∈ r, ¬ x.1 = i := fun x hx => by have := hr x hx; omega
    have ha : (r.any fun x => x.1 == i) = false := by
      rw [List.any_eq_false]
      intro x hx
      simp [hn x hx]
    have hm : (r.map fun x => if x.1 = i then (x.1, join x.2 s) else x) = r := by
      conv => rhs; rw [← List.map_id r]
      apply List.map_congr_left
      intro x hx
      rw [if_neg (hn x hx)]; rfl
    unfold putCell
    rw [List.any_append, ha, Bool.false_or, List.getLast?_concat]
    by_cases e : c.1 = i
    · have e2 : ([c].any fun x => x.1 == i) = true := by simp [e]
      rw [e2, if_pos rfl, List.map_append, hm]
      simp only [List.map_cons, List.map_nil, if_pos e, List.dropLast_concat]
      rw [e]
    · have e2 : ([c].any fun x => x.1 == i) = false := by simp [e]
      rw [e2, if_neg (by simp)]
      simp only [if_neg e]
end TC
namespace TC
open Sq05

theorem put_filter {i o : Nat} {s : Sum} {cs : Cells} (ho : o ≤ i) : (putCell i s cs).filter (fun c => decide (o ≤ c.1)) = putCell i s (cs.filter fun c => decide (o ≤ c.1)) := by
  have ha : ((cs.filter fun c => decide (o ≤ c.1)).any fun x => x.1 == i) = cs.any fun x => x.1 == i := by
    rw [Bool.eq_iff_iff, List.any_eq_true, List.any_eq_true]
    constructor
    · rintro ⟨x, hx, e⟩
      exact ⟨x, (List.mem_filter.mp hx).1, e⟩
    · rintro ⟨x, hx, e⟩
      refine ⟨x, List.mem_filter.mpr ⟨hx, ?_⟩, e⟩
      have : x.1 = i := by simpa using e
      simp; omega
  unfold putCell
  rw [ha]
  split
  · rw [List.filter_map]
    congr 1
    apply List.filter_congr
    intro x _
    show decide (o ≤ (if x.1 = i then (x.1, join x.2 s) else x).1) = _
    split <;> rfl
  · rw [List.filter_append, List.filter_cons, if_pos (by simp; omega)]
    rfl
theorem added_eq {st : Set} {l : Nat} {m : St.Measurement} {cs : Cells} (h : Rising cs) (hi : ∀ x ∈ cs, x.1 ≤ m.time / st.wide l) (ho : st.oldest l m.time ≤ m.time / st.wide l) :
    st.added l m cs = putCell (m.time / st.wide l) (of m) (cs.filter fun c => decide (st.oldest l m.time ≤ c.1)) := by
  rw [← put_filter ho, put_last h hi]
  rfl
theorem put_rising {i : Nat} {s : Sum} {cs : Cells} (h : Rising cs) (hi : ∀ x ∈ cs, x.1 ≤ i) : Rising (putCell i s cs) := by
  unfold putCell
  split
  · unfold Rising at h ⊢
    rw [List.pairwise_map]
    refine h.imp fun {a b} hab => ?_
    have e : ∀ x : Nat × Sum, (if x.1 = i then (x.1, join x.2 s) else x).1 = x.1 := fun x => by split <;> rfl
    rw [e, e]
    exact hab
  · rename_i hn
    have hn' : ∀ x ∈ cs, ¬ x.1 = i := fun x hx e => hn (List.any_eq_true.mpr ⟨x, hx, by simp [e]⟩)
    refine List.pairwise_append.mpr ⟨h, List.pairwise_singleton _ _, fun a ha b hb => ?_⟩
    rw [List.mem_singleton.mp hb]
    have h1 := hi a ha
    have h2 := hn' a ha
    show a.1 < i
    omega
theorem put_mem {i : Nat} {s : Sum} {cs : Cells} {x : Nat × Sum} (h : x ∈ putCell i s cs) : x ∈ cs ∨ x = (i, s) ∨ ∃ y ∈ cs, y.1 = i ∧ x = (i, join y.2 s) := by
  unfold putCell at h
  split at h
  · obtain ⟨y, hy, e⟩ := List.mem_map.mp h
    by_cases q : y.1 = i
    · rw [if_pos q] at e
      exact .inr (.inr ⟨y, hy, q, by rw [← e, q]⟩)
    · rw [if_neg q] at e
      exact .inl (e ▸ hy)
  · rcases List.mem_append.mp h with h | h
    · exact .inl h
    · exact .inr (.inl (List.mem_singleton.mp h))
structure LevOk (o i b : Nat) (cs : Cells) : Prop where
  rise : Rising cs
  old : ∀ x ∈ cs, o ≤ x.1
  new : ∀ x ∈ cs, x.1 ≤ i
  good : ∀ x ∈ cs, Good x.2
  few : ∀ x ∈ cs, x.2.many ≤ b
theorem LevOk.nil {o i b : Nat} : LevOk o i b [] := ⟨List.Pairwise.nil, fun _ h => by simp at h, fun _ h => by simp at h, fun _ h => by simp at h, fun _ h => by simp at h⟩
theorem LevOk.mono {o i b b' : Nat} {cs : Cells} (h : LevOk o i b cs) (hb : b ≤ b') : LevOk o i b' cs := ⟨h.rise, h.old, h.new, h.good, fun x hx => Nat.le_trans (h.few x hx) hb⟩
theorem LevOk.later {o i b i' : Nat} {cs : Cells} (h : LevOk o i b cs) (hi : i ≤ i') : LevOk o i' b cs := ⟨h.rise, h.old, fun x hx => Nat.le_trans (h.new x hx) hi, h.good, h.few⟩
theorem LevOk.filter {o i b : Nat} {cs : Cells} (h : LevOk o i b cs) (o' : Nat) : LevOk o' i b (cs.filter fun c => decide (o' ≤ c.1)) :=
  ⟨filter_rising _ h.rise, fun x hx => by simpa using (List.mem_filter.mp hx).2, fun x hx => h.new x (List.mem_filter.mp hx).1, fun x hx => h.good x (List.mem_filter.mp hx).1, fun x hx => h.few x (List.mem_filter.mp hx).1⟩
theorem LevOk.put {o i b : Nat} {cs : Cells} (h : LevOk o i b cs) (ho : o ≤ i) (m : St.Measurement) : LevOk o i (b + 1) (putCell i (of m) cs) := by
  have hm : (of m).many = 1 := by unfold of; split <;> rfl
  refine ⟨put_rising h.rise h.new, fun x hx => ?_, fun x hx => ?_, fun x hx => ?_, fun x hx => ?_⟩
  · rcases put_mem hx with h1 | rfl | ⟨y, hy, e, rfl⟩
    · exact h.old x h1
    · exact ho
    · exact ho
  · rcases put_mem hx with h1 | rfl | ⟨y, hy, e, rfl⟩
    · exact h.new x h1
    · exact Nat.le_refl _
    · exact Nat.le_refl _
  · rcases put_mem hx with h1 | rfl | ⟨y, hy, e, rfl⟩
    · exact h.good x h1
    · exact good_of m
    · exact good_join (h.good y hy) (good_of m)
  · rcases put_mem hx with h1 | rfl | ⟨y, hy, e, rfl⟩
    · exact Nat.le_succ_of_le (h.few x h1)
    · show (of m).many ≤ b + 1
      rw [hm]; omega
    · show y.2.many + (of m).many ≤ b + 1
      rw [hm]
      exact Nat.add_le_add_right (h.few y hy) 1
theorem rising_short : ∀ {cs : Cells} {o i : Nat}, Rising cs → (∀ x ∈ cs, o ≤ x.1) → (∀ x ∈ cs, x.1 ≤ i) → cs.length ≤ i + 1 - o
  | [], _, _, _, _, _ => by simp
  | x :: r, o, i, h, h1, h2 => by
    obtain ⟨q1, q2⟩ := List.pairwise_cons.mp h
    have ih := rising_short (o := x.1 + 1) (i := i) q2 (fun y hy => q1 y hy) (fun y hy => h2 y (by simp [hy]))
    have a1 := h1 x (by simp)
    have a2 := h2 x (by simp)
    rw [List.length_cons]
    omega
theorem LevOk.length {o i b : Nat} {cs : Cells} (h : LevOk o i b cs) : cs.length ≤ i + 1 - o := rising_short h.rise h.old h.new

structure SetOk (s : Set) : Prop where
  pos : ∀ l, l < 4 → 0 < s.wide l
  dvd : ∀ i j, i ≤ j → j < 4 → s.wide i ∣ s.wide j
def fitsAt (s : Set) (last x b l : Nat) : Bool := s.keeps last x l && (x % s.wide l == 0 && decide (x + s.wide l ≤ b))
theorem pick_eq (s : Set) (last x b : Nat) : s.pick last x b = match [3, 2, 1, 0].find? (fitsAt s last x b) with
  | some l => some l
  | none => [0, 1, 2, 3].find? fun l => s.keeps last x l := rfl
def widest (s : Set) (last x : Nat) : List Nat → Nat → Option (Nat × Nat)
  | [], _ => none
  | l :: r, reach => if (s.keeps last x l && (x % s.wide l == 0 && decide (x + s.wide l ≤ reach))) = true then some (l, (reach - x) / s.wide l) else widest s last x r (min reach ((x / s.wide l + 1) * s.wide l))
theorem end_gt {w x : Nat} (hw : 0 < w) : x < (x / w + 1) * w := by
  have h1 := Nat.div_add_mod x w
  have h2 := Nat.mod_lt x hw
  rw [Nat.add_mul, Nat.one_mul, Nat.mul_comm]
  omega
theorem end_ge {w v x : Nat} (hw : 0 < w) (hv : v ∣ w) (hx : v ∣ x) : x + v ≤ (x / w + 1) * w := by
  have h1 := end_gt (x := x) hw
  obtain ⟨c, hc⟩ := hx
  obtain ⟨d, hd⟩ : v ∣ (x / w + 1) * w := Nat.dvd_trans hv (Nat.dvd_mul_left w _)
  rw [hd] at h1 ⊢
  rw [hc] at h1 ⊢
  have : c < d := Nat.lt_of_mul_lt_mul_left h1
  have h3 : v * (c + 1) ≤ v * d := Nat.mul_le_mul_left v this
  rw [Nat.mul_add, Nat.mul_one] at h3
  exact h3
theorem widest_find {s : Set} (ok : SetOk s) {last x b : Nat} : ∀ (ls : List Nat) (reach : Nat), ls.Pairwise (fun i j => j ≤ i) → (∀ l ∈ ls, l < 4) → reach ≤ b → x < reach →
    (∀ l ∈ ls, s.wide l ∣ x → x + s.wide l ≤ b → x + s.wide l ≤ reach) →
    (match widest s last x ls reach with
    | none => ls.find? (fitsAt s last x b) = none
    | some (l, m) => ls.find? (fitsAt s last x b) = some l ∧ l ∈ ls ∧ fitsAt s last x b l = true ∧ 1 ≤ m ∧ ∃ r, r ≤ reach ∧ m = (r - x) / s.wide l ∧ ∀ k ∈ ls, l < k → r ≤ (x / s.wide k + 1) * s.wide k)
  | [], _, _, _, _, _, _ => rfl
  | l :: ls, reach, hs, h4, hb, hx, hr => by
    obtain ⟨hs1, hs2⟩ := List.pairwise_cons.mp hs
    have hl := h4 l (by simp)
    have hw := ok.pos l hl
    unfold widest
    by_cases c : (s.keeps last x l && (x % s.wide l == 0 && decide (x + s.wide l ≤ reach))) = true
    · rw [if_pos c]
      have c' := c
      simp only [Bool.and_eq_true, beq_iff_eq, decide_eq_true_eq] at c'
      obtain ⟨c1, c2, c3⟩ := c'
      have f : fitsAt s last x b l = true := by
        unfold fitsAt
        simp only [Bool.and_eq_true, beq_iff_eq, decide_eq_true_eq]
        exact ⟨c1, c2, by omega⟩
      refine ⟨by rw [List.find?_cons, f], by simp, f, (Nat.le_div_iff_mul_le hw).mpr (by omega), reach, Nat.le_refl _, rfl, fun k hk hlk => ?_⟩
      rcases List.mem_cons.mp hk with rfl | hk
      · omega
      · have := hs1 k hk; omega
    · rw [if_neg c]
      have f : fitsAt s last x b l = false := by
        cases q : fitsAt s last x b l with
        | false => rfl
        | true =>
          exfalso
          apply c
          unfold fitsAt at q
          simp only [Bool.and_eq_true, beq_iff_eq, decide_eq_true_eq] at q ⊢
          exact ⟨q.1, q.2.1, hr l (by simp) (Nat.dvd_of_mod_eq_zero q.2.1) q.2.2⟩
      have ih := widest_find ok (last := last) (x := x) (b := b) ls (min reach ((x / s.wide l + 1) * s.wide l)) hs2 (fun k hk => h4 k (by simp [hk])) (by omega) (by have := end_gt (x := x) hw; omega)
        (fun k hk hd hkb => by
          have h1 := hr k (by simp [hk]) hd hkb
          have h2 := end_ge (x := x) hw (ok.dvd k l (hs1 k hk) hl) hd
          omega)
      rw [List.find?_cons, f]
      cases q : widest s last x ls (min reach ((x / s.wide l + 1) * s.wide l)) with
      | none => rw [q] at ih; exact ih
      | some p =>
        obtain ⟨k, m⟩ := p
        rw [q] at ih
        obtain ⟨i1, i2, i3, i4, r, i5, i6, i7⟩ := ih
        refine ⟨i1, by simp [i2], i3, i4, r, by omega, i6, fun j hj hkj => ?_⟩
        rcases List.mem_cons.mp hj with rfl | hj
        · omega
        · exact i7 j hj hkj
end TC
namespace TC
open Sq05
def phi (s : Set) (t l x : Nat) : Nat := t / s.wide l + 1 - max (s.oldest l t) (x / s.wide l)
def Phi (s : Set) (t x : Nat) : Nat := phi s t 0 x + phi s t 1 x + phi s t 2 x + phi s t 3 x
theorem phi_mono {s : Set} {t l x y : Nat} (h : x ≤ y) : phi s t l y ≤ phi s t l x := by
  have := Nat.div_le_div_right (c := s.wide l) h
  unfold phi
  omega
theorem phi_le (s : Set) (t l x : Nat) : phi s t l x ≤ s.kept.getD l 0 := by
  unfold phi Set.oldest
  omega
theorem phi_down {s : Set} {t l x y m : Nat} (hk : s.oldest l t ≤ x / s.wide l) (hy : y / s.wide l = x / s.wide l + m) (ht : x / s.wide l + m ≤ t / s.wide l + 1) : phi s t l y + m ≤ phi s t l x := by
  unfold phi
  rw [hy]
  omega
theorem Phi_down {s : Set} {t l x y m : Nat} (hl : l < 4) (hk : s.oldest l t ≤ x / s.wide l) (hxy : x ≤ y) (hy : y / s.wide l = x / s.wide l + m) (ht : x / s.wide l + m ≤ t / s.wide l + 1) : Phi s t y + m ≤ Phi s t x := by
  have h0 := phi_mono (s := s) (t := t) (l := 0) hxy
  have h1 := phi_mono (s := s) (t := t) (l := 1) hxy
  have h2 := phi_mono (s := s) (t := t) (l := 2) hxy
  have h3 := phi_mono (s := s) (t := t) (l := 3) hxy
  have hd := phi_down hk hy ht
  unfold Phi
  have : l = 0 ∨ l = 1 ∨ l = 2 ∨ l = 3 := by omega
  rcases this with rfl | rfl | rfl | rfl <;> omega
theorem Phi_le (s : Set) (t x : Nat) : Phi s t x ≤ s.kept.getD 0 0 + s.kept.getD 1 0 + s.kept.getD 2 0 + s.kept.getD 3 0 := by
  have h0 := phi_le s t 0 x
  have h1 := phi_le s t 1 x
  have h2 := phi_le s t 2 x
  have h3 := phi_le s t 3 x
  unfold Phi
  omega
theorem div_le_of_hi {s : Set} (ok : SetOk s) {t x l : Nat} (hl : l < 4) (h : x < (t / s.wide 0 + 1) * s.wide 0) : x / s.wide l ≤ t / s.wide l := by
  obtain ⟨q, hq⟩ := ok.dvd 0 l (Nat.zero_le _) hl
  have h1 : x / s.wide 0 ≤ t / s.wide 0 := by
    have : x / s.wide 0 < t / s.wide 0 + 1 := (Nat.div_lt_iff_lt_mul (ok.pos 0 (by omega))).mpr h
    omega
  rw [hq, ← Nat.div_div_eq_div_mul, ← Nat.div_div_eq_div_mul]
  exact Nat.div_le_div_right h1
theorem cover_many {s : Set} {t b l : Nat} (hw : 0 < s.wide l) (f : Nat) : ∀ (m n : Nat), (∀ c, c < m → (n + c) * s.wide l < b ∧ s.pick t ((n + c) * s.wide l) b = some l) →
    s.cover t b (f + m) (n * s.wide l) = run l n m ++ s.cover t b f ((n + m) * s.wide l)
  | 0, n, _ => by rw [run_zero]; rfl
  | m + 1, n, h => by
    have h0 := h 0 (by omega)
    rw [Nat.add_zero] at h0
    have ih := cover_many (t := t) (b := b) hw f m (n + 1) (fun c hc => by
      have := h (c + 1) (by omega)
      rw [show n + (c + 1) = n + 1 + c by omega] at this
      exact this)
    show s.cover t b (f + m + 1) (n * s.wide l) = _
    rw [Set.cover, if_neg (by omega), h0.2]
    simp only [Nat.mul_div_cancel _ hw]
    rw [ih, run_succ, show n + 1 + m = n + (m + 1) by omega]
    rfl
theorem find_low {p : Nat → Bool} {l : Nat} (hl : l < 4) (h : p l = true) (hk : ∀ k, k < 4 → l < k → p k = false) : [3, 2, 1, 0].find? p = some l := by
  have : l = 0 ∨ l = 1 ∨ l = 2 ∨ l = 3 := by omega
  rcases this with rfl | rfl | rfl | rfl
  · simp [List.find?_cons, h, hk 1 (by omega) (by omega), hk 2 (by omega) (by omega), hk 3 (by omega) (by omega)]
  · simp [List.find?_cons, h, hk 2 (by omega) (by omega), hk 3 (by omega) (by omega)]
  · simp [List.find?_cons, h, hk 3 (by omega) (by omega)]
  · simp [List.find?_cons, h]
theorem find_above {p : Nat → Bool} {l k : Nat} (h : [3, 2, 1, 0].find? p = some l) (hk : k < 4) (hlk : l < k) : p k = false := by
  cases h3 : p 3 <;> cases h2 : p 2 <;> cases h1 : p 1 <;> cases h0 : p 0 <;> simp [List.find?_cons, h3, h2, h1, h0] at h <;> subst h
  all_goals (have : k = 1 ∨ k = 2 ∨ k = 3 := by omega)
  all_goals (rcases this with rfl | rfl | rfl <;> first | assumption | omega)
theorem pick_wide {s : Set} {t x b l : Nat} (h : [3, 2, 1, 0].find? (fitsAt s t x b) = some l) : s.pick t x b = some l := by
  rw [pick_eq, h]
theorem not_aligned {w x y : Nat} (hw : 0 < w) (h1 : x < y) (h2 : y < (x / w + 1) * w) : ¬ y % w = 0 := by
  intro h
  obtain ⟨c, rfl⟩ := Nat.dvd_of_mod_eq_zero h
  rw [Nat.mul_comm w c] at h1 h2
  have h3 : c < x / w + 1 := Nat.lt_of_mul_lt_mul_right h2
  have h4 : x / w < c := (Nat.div_lt_iff_lt_mul hw).mpr h1
  omega
theorem cover_wide {s : Set} (ok : SetOk s) {t x b l m f : Nat} (hxb : x < b) (hb : b ≤ (t / s.wide 0 + 1) * s.wide 0) (h : widest s t x [3, 2, 1, 0] b = some (l, m)) (hf : Phi s t x ≤ f) :
    l < 4 ∧ s.keeps t x l = true ∧ 1 ≤ m ∧ x = x / s.wide l * s.wide l ∧ (x / s.wide l + m) * s.wide l ≤ b ∧ m ≤ f ∧ ∃ f', Phi s t ((x / s.wide l + m) * s.wide l) ≤ f' ∧ s.cover t b f x = run l (x / s.wide l) m ++ s.cover t b f' ((x / s.wide l + m) * s.wide l) := by
  have W := widest_find ok (last := t) (x := x) (b := b) [3, 2, 1, 0] b (by decide) (by decide) (Nat.le_refl _) hxb (fun _ _ _ h => h)
  rw [h] at W
  obtain ⟨w1, w2, w3, w4, r, w5, w6, w7⟩ := W
  have hl : l < 4 := by
    simp at w2; omega
  have hw := ok.pos l hl
  have w3' := w3
  unfold fitsAt at w3'
  simp only [Bool.and_eq_true, beq_iff_eq, decide_eq_true_eq] at w3'
  obtain ⟨k1, k2, k3⟩ := w3'
  have ex : x = x / s.wide l * s.wide l := (Nat.div_mul_cancel (Nat.dvd_of_mod_eq_zero k2)).symm
  have hmr : m * s.wide l ≤ r - x := by rw [w6]; exact Nat.div_mul_le_self _ _
  have hm0 : 0 < m * s.wide l := Nat.mul_pos w4 hw
  have eend : (x / s.wide l + m) * s.wide l = x + m * s.wide l := by rw [Nat.add_mul, ← ex]
  have hend : (x / s.wide l + m) * s.wide l ≤ r := by rw [eend]; omega
  have hk : s.oldest l t ≤ x / s.wide l := by
    unfold Set.keeps at k1
    simpa using k1
  have hlast : x / s.wide l + m ≤ t / s.wide l + 1 := by
    have h1 : (x / s.wide l + (m - 1)) * s.wide l < (t / s.wide 0 + 1) * s.wide 0 := by
      have : (x / s.wide l + (m - 1)) * s.wide l + s.wide l = (x / s.wide l + m) * s.wide l := by
        rw [← Nat.succ_mul]
        congr 1
        omega
      omega
    have h2 := div_le_of_hi ok hl h1
    rw [Nat.mul_div_cancel _ hw] at h2
    omega
  have hdown : Phi s t ((x / s.wide l + m) * s.wide l) + m ≤ Phi s t x := Phi_down hl hk (by rw [eend]; omega) (by rw [Nat.mul_div_cancel _ hw]) hlast
  refine ⟨hl, k1, w4, ex, Nat.le_trans hend w5, by omega, f - m, by omega, ?_⟩
  have hp : ∀ c, c < m → (x / s.wide l + c) * s.wide l < b ∧ s.pick t ((x / s.wide l + c) * s.wide l) b = some l := fun c hc => by
    have hc1 : (x / s.wide l + c) * s.wide l + s.wide l ≤ (x / s.wide l + m) * s.wide l := by
      rw [← Nat.succ_mul]
      exact Nat.mul_le_mul_right _ (by omega)
    have hc2 : (x / s.wide l + c) * s.wide l = x + c * s.wide l := by rw [Nat.add_mul, ← ex]
    refine ⟨by omega, pick_wide (find_low hl ?_ fun k hk4 hlk => ?_)⟩
    · unfold fitsAt Set.keeps
      simp only [Bool.and_eq_true, beq_iff_eq, decide_eq_true_eq, Nat.mul_div_cancel _ hw, Nat.mul_mod_left]
      exact ⟨by omega, trivial, by omega⟩
    · by_cases c0 : c = 0
      · subst c0
        rw [Nat.add_zero, ← ex]
        exact find_above w1 hk4 hlk
      · have hne : ¬ ((x / s.wide l + c) * s.wide l) % s.wide k = 0 := by
          refine not_aligned (x := x) (ok.pos k hk4) ?_ ?_
          · rw [hc2]
            have := Nat.mul_pos (Nat.pos_of_ne_zero c0) hw
            omega
          · have := w7 k (by simp; omega) hlk
            omega
        unfold fitsAt
        simp [hne]
  have := cover_many (t := t) (b := b) hw (f - m) m (x / s.wide l) hp
  rw [← ex, show f - m + m = f by omega] at this
  exact this
theorem cover_narrow {s : Set} (ok : SetOk s) {t x b l f : Nat} (hxb : x < b) (hb : b ≤ (t / s.wide 0 + 1) * s.wide 0) (h : widest s t x [3, 2, 1, 0] b = none) (hn : [0, 1, 2, 3].find? (fun l => s.keeps t x l) = some l) (hf : Phi s t x ≤ f) :
    l < 4 ∧ s.keeps t x l = true ∧ 1 ≤ f ∧ ∃ f', Phi s t ((x / s.wide l + 1) * s.wide l) ≤ f' ∧ s.cover t b f x = run l (x / s.wide l) 1 ++ s.cover t b f' ((x / s.wide l + 1) * s.wide l) := by
  have W := widest_find ok (last := t) (x := x) (b := b) [3, 2, 1, 0] b (by decide) (by decide) (Nat.le_refl _) hxb (fun _ _ _ h => h)
  rw [h] at W
  have hm := List.mem_of_find?_eq_some hn
  have hl : l < 4 := by simp at hm; omega
  have hk : s.keeps t x l = true := List.find?_some hn
  have hw := ok.pos l hl
  have hk' : s.oldest l t ≤ x / s.wide l := by
    unfold Set.keeps at hk
    simpa using hk
  have hle := div_le_of_hi ok hl (Nat.lt_of_lt_of_le hxb hb)
  have hdown : Phi s t ((x / s.wide l + 1) * s.wide l) + 1 ≤ Phi s t x := Phi_down hl hk' (Nat.le_of_lt (end_gt hw)) (by rw [Nat.mul_div_cancel _ hw]) (by omega)
  have hp : s.pick t x b = some l := by
    rw [pick_eq, show [3, 2, 1, 0].find? (fitsAt s t x b) = none from W]
    exact hn
  refine ⟨hl, hk, by omega, f - 1, by omega, ?_⟩
  obtain ⟨g, rfl⟩ : ∃ g, f = g + 1 := ⟨f - 1, by omega⟩
  rw [Set.cover, if_neg (by omega), hp]
  rfl
theorem cover_end {s : Set} {t x b : Nat} (h : b ≤ x) : ∀ f, s.cover t b f x = []
  | 0 => rfl
  | f + 1 => by rw [Set.cover, if_pos h]
theorem keeps_three {s : Set} (ok : SetOk s) {t x : Nat} (h : s.oldest 3 t * s.wide 3 ≤ x) : s.keeps t x 3 = true := by
  unfold Set.keeps
  simp only [decide_eq_true_eq]
  exact (Nat.le_div_iff_mul_le (ok.pos 3 (by omega))).mpr h
theorem narrow_some {s : Set} {t x : Nat} (h : s.keeps t x 3 = true) : ∃ l, [0, 1, 2, 3].find? (fun l => s.keeps t x l) = some l := by
  cases q : [0, 1, 2, 3].find? (fun l => s.keeps t x l) with
  | some l => exact ⟨l, rfl⟩
  | none =>
    have := List.find?_eq_none.mp q 3 (by simp)
    exact absurd h this
end TC
namespace TC
open PySem L2

def top (i : Nat) : Stmt := PySem.Challenge.pw_trendcells_s01_answers.main.body.getD i (.Pass ⟨0, 0, 0, 0⟩)
abbrev st_sIni : Stmt := inClass (top 3) 0
abbrev st_sWv : Stmt := inClass (top 3) 1
abbrev st_sTi : Stmt := inClass (top 3) 2
abbrev st_sTv : Stmt := inClass (top 3) 3
abbrev st_sMean : Stmt := inClass (top 3) 4
abbrev st_sTold : Stmt := inClass (top 3) 5
abbrev st_fOne : Stmt := top 4
abbrev st_fNear : Stmt := top 5
abbrev st_lIni : Stmt := inClass (top 7) 0
abbrev st_lAdd : Stmt := inClass (top 7) 1
abbrev st_lDrop : Stmt := inClass (top 7) 2
abbrev st_lBeg : Stmt := inClass (top 7) 3
abbrev st_lKeep : Stmt := inClass (top 7) 4
abbrev st_lEnd : Stmt := inClass (top 7) 5
abbrev st_lFrom : Stmt := inClass (top 7) 6
abbrev st_lNum : Stmt := inClass (top 7) 7
abbrev st_rIni : Stmt := inClass (top 8) 0
abbrev st_rBeg : Stmt := inClass (top 8) 1
abbrev st_rEnd : Stmt := inClass (top 8) 2
abbrev st_rSto : Stmt := inClass (top 8) 3
abbrev st_fCov : Stmt := top 9
abbrev st_fWid : Stmt := top 10
abbrev st_fNar : Stmt := top 11
abbrev st_cIni : Stmt := inClass (top 13) 0
abbrev st_cAdd : Stmt := inClass (top 13) 1
abbrev st_cRuns : Stmt := inClass (top 13) 2
abbrev st_cTold : Stmt := inClass (top 13) 3
abbrev st_fTr : Stmt := top 14
abbrev st_fTc : Stmt := top 15
abbrev st_fAns : Stmt := top 30
abbrev st_fAof : Stmt := top 31
abbrev st_tIni : Stmt := inClass (top 32) 0
abbrev st_tSet : Stmt := inClass (top 32) 1
abbrev st_tBeg : Stmt := inClass (top 32) 2
abbrev st_tAdd : Stmt := inClass (top 32) 3
abbrev st_tAsk : Stmt := inClass (top 32) 4
abbrev st_tCells : Stmt := inClass (top 32) 5
abbrev st_tKnown : Stmt := inClass (top 32) 6
abbrev st_tForg : Stmt := inClass (top 32) 7
abbrev st_fWfr : Stmt := top 33
abbrev st_fCbg : Stmt := top 34
abbrev st_fKr : Stmt := top 35
abbrev st_fCad : Stmt := top 36
abbrev st_fCask : Stmt := top 37
abbrev st_fIch : Stmt := top 38
abbrev st_fIlv : Stmt := top 39
abbrev st_fItm : Stmt := top 40
abbrev st_fIvl : Stmt := top 41
structure Adr where
  cS : Addr
  cL : Addr
  cR : Addr
  cC : Addr
  cT : Addr
  f_sIni : Addr
  d_sIni : FuncData
  f_sWv : Addr
  d_sWv : FuncData
  f_sTi : Addr
  d_sTi : FuncData
  f_sTv : Addr
  d_sTv : FuncData
  f_sMean : Addr
  d_sMean : FuncData
  f_sTold : Addr
  d_sTold : FuncData
  f_fOne : Addr
  d_fOne : FuncData
  f_fNear : Addr
  d_fNear : FuncData
  f_lIni : Addr
  d_lIni : FuncData
  f_lAdd : Addr
  d_lAdd : FuncData
  f_lDrop : Addr
  d_lDrop : FuncData
  f_lBeg : Addr
  d_lBeg : FuncData
  f_lKeep : Addr
  d_lKeep : FuncData
  f_lEnd : Addr
  d_lEnd : FuncData
  f_lFrom : Addr
  d_lFrom : FuncData
  f_lNum : Addr
  d_lNum : FuncData
  f_rIni : Addr
  d_rIni : FuncData
  f_rBeg : Addr
  d_rBeg : FuncData
  f_rEnd : Addr
  d_rEnd : FuncData
  f_rSto : Addr
  d_rSto : FuncData
  f_fCov : Addr
  d_fCov : FuncData
  f_fWid : Addr
  d_fWid : FuncData
  f_fNar : Addr
  d_fNar : FuncData
  f_cIni : Addr
  d_cIni : FuncData
  f_cAdd : Addr
  d_cAdd : FuncData
  f_cRuns : Addr
  d_cRuns : FuncData
  f_cTold : Addr
  d_cTold : FuncData
  f_fTr : Addr
  d_fTr : FuncData
  f_fTc : Addr
  d_fTc : FuncData
  f_fAns : Addr
  d_fAns : FuncData
  f_fAof : Addr
  d_fAof : FuncData
  f_tIni : Addr
  d_tIni : FuncData
  f_tSet : Addr
  d_tSet : FuncData
  f_tBeg : Addr
  d_tBeg : FuncData
  f_tAdd : Addr
  d_tAdd : FuncData
  f_tAsk : Addr
  d_tAsk : FuncData
  f_tCells : Addr
  d_tCells : FuncData
  f_tKnown : Addr
  d_tKnown : FuncData
  f_tForg : Addr
  d_tForg : FuncData
  f_fWfr : Addr
  d_fWfr : FuncData
  f_fCbg : Addr
  d_fCbg : FuncData
  f_fKr : Addr
  d_fKr : FuncData
  f_fCad : Addr
  d_fCad : FuncData
  f_fCask : Addr
  d_fCask : FuncData
  f_fIch : Addr
  d_fIch : FuncData
  f_fIlv : Addr
  d_fIlv : FuncData
  f_fItm : Addr
  d_fItm : FuncData
  f_fIvl : Addr
  d_fIvl : FuncData
  a_times : Addr
  a_kept : Addr
  a_given : Addr
structure Txt (K : PySem.W.Frag) (mg : Str → Option Value) (t : Adr) : Prop where
  clS : Cls K t.cS
  mkS : Mk K t.cS t.f_sIni
  mgS : mg "Summary" = some (.ref t.cS)
  nS_many : NoAttr K t.cS "many"
  nS_nones : NoAttr K t.cS "nones"
  nS_least : NoAttr K t.cS "least"
  nS_greatest : NoAttr K t.cS "greatest"
  nS_total : NoAttr K t.cS "total"
  nS_first_time : NoAttr K t.cS "first_time"
  nS_first_value : NoAttr K t.cS "first_value"
  nS_last_time : NoAttr K t.cS "last_time"
  nS_last_value : NoAttr K t.cS "last_value"
  nS_marks : NoAttr K t.cS "marks"
  clL : Cls K t.cL
  mkL : Mk K t.cL t.f_lIni
  mgL : mg "Level" = some (.ref t.cL)
  nL_width : NoAttr K t.cL "width"
  nL_kept : NoAttr K t.cL "kept"
  nL_oldest : NoAttr K t.cL "oldest"
  nL_summaries : NoAttr K t.cL "summaries"
  clR : Cls K t.cR
  mkR : Mk K t.cR t.f_rIni
  mgR : mg "Run" = some (.ref t.cR)
  nR_level : NoAttr K t.cR "level"
  nR_number : NoAttr K t.cR "number"
  nR_many : NoAttr K t.cR "many"
  clC : Cls K t.cC
  mkC : Mk K t.cC t.f_cIni
  mgC : mg "Channel" = some (.ref t.cC)
  nC_last : NoAttr K t.cC "last"
  nC_levels : NoAttr K t.cC "levels"
  clT : Cls K t.cT
  mkT : Mk K t.cT t.f_tIni
  mgT : mg "Station" = some (.ref t.cT)
  nT_widths : NoAttr K t.cT "widths"
  nT_kept : NoAttr K t.cT "kept"
  nT_channels : NoAttr K t.cT "channels"
  F_sIni : Fun K "__init__" "Summary.__init__" st_sIni t.f_sIni t.d_sIni
  b_sIni : Binds K t.d_sIni ["self"] []
  m_sIni : Meth K t.cS "__init__" t.f_sIni
  F_sWv : Fun K "with_value" "Summary.with_value" st_sWv t.f_sWv t.d_sWv
  b_sWv : Binds K t.d_sWv ["self"] []
  m_sWv : Meth K t.cS "with_value" t.f_sWv
  F_sTi : Fun K "take_in" "Summary.take_in" st_sTi t.f_sTi t.d_sTi
  b_sTi : Binds K t.d_sTi ["self", "later"] []
  m_sTi : Meth K t.cS "take_in" t.f_sTi
  F_sTv : Fun K "take_in_values" "Summary.take_in_values" st_sTv t.f_sTv t.d_sTv
  b_sTv : Binds K t.d_sTv ["self", "later"] []
  m_sTv : Meth K t.cS "take_in_values" t.f_sTv
  F_sMean : Fun K "mean" "Summary.mean" st_sMean t.f_sMean t.d_sMean
  b_sMean : Binds K t.d_sMean ["self"] []
  m_sMean : Meth K t.cS "mean" t.f_sMean
  F_sTold : Fun K "told" "Summary.told" st_sTold t.f_sTold t.d_sTold
  b_sTold : Binds K t.d_sTold ["self"] []
  m_sTold : Meth K t.cS "told" t.f_sTold
  F_fOne : Fun K "summary_of_one" "summary_of_one" st_fOne t.f_fOne t.d_fOne
  b_fOne : Binds K t.d_fOne ["time", "value", "marks"] []
  g_fOne : mg "summary_of_one" = some (.ref t.f_fOne)
  F_fNear : Fun K "nearest" "nearest" st_fNear t.f_fNear t.d_fNear
  b_fNear : Binds K t.d_fNear ["total", "parts"] []
  g_fNear : mg "nearest" = some (.ref t.f_fNear)
  F_lIni : Fun K "__init__" "Level.__init__" st_lIni t.f_lIni t.d_lIni
  b_lIni : Binds K t.d_lIni ["self", "width", "kept"] []
  m_lIni : Meth K t.cL "__init__" t.f_lIni
  F_lAdd : Fun K "add" "Level.add" st_lAdd t.f_lAdd t.d_lAdd
  b_lAdd : Binds K t.d_lAdd ["self", "time", "one"] []
  m_lAdd : Meth K t.cL "add" t.f_lAdd
  F_lDrop : Fun K "drop_before" "Level.drop_before" st_lDrop t.f_lDrop t.d_lDrop
  b_lDrop : Binds K t.d_lDrop ["self", "oldest"] []
  m_lDrop : Meth K t.cL "drop_before" t.f_lDrop
  F_lBeg : Fun K "beginning" "Level.beginning" st_lBeg t.f_lBeg t.d_lBeg
  b_lBeg : Binds K t.d_lBeg ["self"] []
  m_lBeg : Meth K t.cL "beginning" t.f_lBeg
  F_lKeep : Fun K "keeps" "Level.keeps" st_lKeep t.f_lKeep t.d_lKeep
  b_lKeep : Binds K t.d_lKeep ["self", "time"] []
  m_lKeep : Meth K t.cL "keeps" t.f_lKeep
  F_lEnd : Fun K "end_of" "Level.end_of" st_lEnd t.f_lEnd t.d_lEnd
  b_lEnd : Binds K t.d_lEnd ["self", "time"] []
  m_lEnd : Meth K t.cL "end_of" t.f_lEnd
  F_lFrom : Fun K "summaries_from" "Level.summaries_from" st_lFrom t.f_lFrom t.d_lFrom
  b_lFrom : Binds K t.d_lFrom ["self", "number", "many"] []
  m_lFrom : Meth K t.cL "summaries_from" t.f_lFrom
  F_lNum : Fun K "numbers_from" "Level.numbers_from" st_lNum t.f_lNum t.d_lNum
  b_lNum : Binds K t.d_lNum ["self", "number", "most"] []
  m_lNum : Meth K t.cL "numbers_from" t.f_lNum
  F_rIni : Fun K "__init__" "Run.__init__" st_rIni t.f_rIni t.d_rIni
  b_rIni : Binds K t.d_rIni ["self", "level", "number", "many"] []
  m_rIni : Meth K t.cR "__init__" t.f_rIni
  F_rBeg : Fun K "begins" "Run.begins" st_rBeg t.f_rBeg t.d_rBeg
  b_rBeg : Binds K t.d_rBeg ["self"] []
  m_rBeg : Meth K t.cR "begins" t.f_rBeg
  F_rEnd : Fun K "ends" "Run.ends" st_rEnd t.f_rEnd t.d_rEnd
  b_rEnd : Binds K t.d_rEnd ["self"] []
  m_rEnd : Meth K t.cR "ends" t.f_rEnd
  F_rSto : Fun K "stored" "Run.stored" st_rSto t.f_rSto t.d_rSto
  b_rSto : Binds K t.d_rSto ["self"] []
  m_rSto : Meth K t.cR "stored" t.f_rSto
  F_fCov : Fun K "cover" "cover" st_fCov t.f_fCov t.d_fCov
  b_fCov : Binds K t.d_fCov ["levels", "x", "y"] []
  g_fCov : mg "cover" = some (.ref t.f_fCov)
  F_fWid : Fun K "widest_run" "widest_run" st_fWid t.f_fWid t.d_fWid
  b_fWid : Binds K t.d_fWid ["levels", "at", "y"] []
  g_fWid : mg "widest_run" = some (.ref t.f_fWid)
  F_fNar : Fun K "narrowest_run" "narrowest_run" st_fNar t.f_fNar t.d_fNar
  b_fNar : Binds K t.d_fNar ["levels", "at"] []
  g_fNar : mg "narrowest_run" = some (.ref t.f_fNar)
  F_cIni : Fun K "__init__" "Channel.__init__" st_cIni t.f_cIni t.d_cIni
  b_cIni : Binds K t.d_cIni ["self", "widths", "kept"] []
  m_cIni : Meth K t.cC "__init__" t.f_cIni
  F_cAdd : Fun K "add" "Channel.add" st_cAdd t.f_cAdd t.d_cAdd
  b_cAdd : Binds K t.d_cAdd ["self", "time", "value", "marks"] []
  m_cAdd : Meth K t.cC "add" t.f_cAdd
  F_cRuns : Fun K "runs_of" "Channel.runs_of" st_cRuns t.f_cRuns t.d_cRuns
  b_cRuns : Binds K t.d_cRuns ["self", "a", "b"] []
  m_cRuns : Meth K t.cC "runs_of" t.f_cRuns
  F_cTold : Fun K "told_levels" "Channel.told_levels" st_cTold t.f_cTold t.d_cTold
  b_cTold : Binds K t.d_cTold ["self"] []
  m_cTold : Meth K t.cC "told_levels" t.f_cTold
  F_fTr : Fun K "told_runs" "told_runs" st_fTr t.f_fTr t.d_fTr
  b_fTr : Binds K t.d_fTr ["runs"] []
  g_fTr : mg "told_runs" = some (.ref t.f_fTr)
  F_fTc : Fun K "told_cells" "told_cells" st_fTc t.f_fTc t.d_fTc
  b_fTc : Binds K t.d_fTc ["level", "number", "most"] []
  g_fTc : mg "told_cells" = some (.ref t.f_fTc)
  F_fAns : Fun K "answers" "answers" st_fAns t.f_fAns t.d_fAns
  b_fAns : Binds K t.d_fAns ["calls"] []
  g_fAns : mg "answers" = some (.ref t.f_fAns)
  F_fAof : Fun K "answer_of" "answer_of" st_fAof t.f_fAof t.d_fAof
  b_fAof : Binds K t.d_fAof ["station", "call", "given"] []
  g_fAof : mg "answer_of" = some (.ref t.f_fAof)
  F_tIni : Fun K "__init__" "Station.__init__" st_tIni t.f_tIni t.d_tIni
  b_tIni : Binds K t.d_tIni ["self"] []
  m_tIni : Meth K t.cT "__init__" t.f_tIni
  F_tSet : Fun K "set_anew" "Station.set_anew" st_tSet t.f_tSet t.d_tSet
  b_tSet : Binds K t.d_tSet ["self", "width", "times", "kept"] []
  m_tSet : Meth K t.cT "set_anew" t.f_tSet
  F_tBeg : Fun K "begin" "Station.begin" st_tBeg t.f_tBeg t.d_tBeg
  b_tBeg : Binds K t.d_tBeg ["self", "width", "times", "kept"] []
  m_tBeg : Meth K t.cT "begin" t.f_tBeg
  F_tAdd : Fun K "add" "Station.add" st_tAdd t.f_tAdd t.d_tAdd
  b_tAdd : Binds K t.d_tAdd ["self", "channel", "time", "value", "marks"] []
  m_tAdd : Meth K t.cT "add" t.f_tAdd
  F_tAsk : Fun K "ask" "Station.ask" st_tAsk t.f_tAsk t.d_tAsk
  b_tAsk : Binds K t.d_tAsk ["self", "channel", "a", "b"] []
  m_tAsk : Meth K t.cT "ask" t.f_tAsk
  F_tCells : Fun K "cells" "Station.cells" st_tCells t.f_tCells t.d_tCells
  b_tCells : Binds K t.d_tCells ["self", "channel", "level", "number", "most"] []
  m_tCells : Meth K t.cT "cells" t.f_tCells
  F_tKnown : Fun K "known" "Station.known" st_tKnown t.f_tKnown t.d_tKnown
  b_tKnown : Binds K t.d_tKnown ["self", "channel"] []
  m_tKnown : Meth K t.cT "known" t.f_tKnown
  F_tForg : Fun K "forget" "Station.forget" st_tForg t.f_tForg t.d_tForg
  b_tForg : Binds K t.d_tForg ["self", "channel"] []
  m_tForg : Meth K t.cT "forget" t.f_tForg
  F_fWfr : Fun K "widths_from" "widths_from" st_fWfr t.f_fWfr t.d_fWfr
  b_fWfr : Binds K t.d_fWfr ["width", "times"] []
  g_fWfr : mg "widths_from" = some (.ref t.f_fWfr)
  F_fCbg : Fun K "can_begin" "can_begin" st_fCbg t.f_fCbg t.d_fCbg
  b_fCbg : Binds K t.d_fCbg ["width", "times", "kept"] []
  g_fCbg : mg "can_begin" = some (.ref t.f_fCbg)
  F_fKr : Fun K "keeps_reach" "keeps_reach" st_fKr t.f_fKr t.d_fKr
  b_fKr : Binds K t.d_fKr ["times", "kept"] []
  g_fKr : mg "keeps_reach" = some (.ref t.f_fKr)
  F_fCad : Fun K "can_add" "can_add" st_fCad t.f_fCad t.d_fCad
  b_fCad : Binds K t.d_fCad ["channel", "time", "value", "marks"] []
  g_fCad : mg "can_add" = some (.ref t.f_fCad)
  F_fCask : Fun K "can_ask" "can_ask" st_fCask t.f_fCask t.d_fCask
  b_fCask : Binds K t.d_fCask ["channel", "a", "b"] []
  g_fCask : mg "can_ask" = some (.ref t.f_fCask)
  F_fIch : Fun K "is_channel" "is_channel" st_fIch t.f_fIch t.d_fIch
  b_fIch : Binds K t.d_fIch ["number"] []
  g_fIch : mg "is_channel" = some (.ref t.f_fIch)
  F_fIlv : Fun K "is_level" "is_level" st_fIlv t.f_fIlv t.d_fIlv
  b_fIlv : Binds K t.d_fIlv ["number"] []
  g_fIlv : mg "is_level" = some (.ref t.f_fIlv)
  F_fItm : Fun K "is_time" "is_time" st_fItm t.f_fItm t.d_fItm
  b_fItm : Binds K t.d_fItm ["number"] []
  g_fItm : mg "is_time" = some (.ref t.f_fItm)
  F_fIvl : Fun K "is_value" "is_value" st_fIvl t.f_fIvl t.d_fIvl
  b_fIvl : Binds K t.d_fIvl ["number"] []
  g_fIvl : mg "is_value" = some (.ref t.f_fIvl)
  i_NO_VALUE : ∃ k, mg "NO_VALUE" = some (.int (-9223372036854775808) k)
  i_GREATEST : ∃ k, mg "GREATEST" = some (.int (4611686018427387904) k)
  i_BEGIN : ∃ k, mg "BEGIN" = some (.int (1) k)
  i_ADD : ∃ k, mg "ADD" = some (.int (2) k)
  i_ASK : ∃ k, mg "ASK" = some (.int (3) k)
  i_CELLS : ∃ k, mg "CELLS" = some (.int (4) k)
  i_KNOWN : ∃ k, mg "KNOWN" = some (.int (5) k)
  i_NOT_IN_RANGE : ∃ k, mg "NOT_IN_RANGE" = some (.int (-1) k)
  i_NOTHING_KNOWN : ∃ k, mg "NOTHING_KNOWN" = some (.int (-2) k)
  i_BEFORE_THE_LAST : ∃ k, mg "BEFORE_THE_LAST" = some (.int (-4) k)
  i_FIRST_WIDTH : ∃ k, mg "FIRST_WIDTH" = some (.int (60000000) k)
  i_WIDEST_WIDTH : ∃ k, mg "WIDEST_WIDTH" = some (.int (1099511627776) k)
  b_min : mg "min" = none
  b_max : mg "max" = none
  b_abs : mg "abs" = none
  b_list : mg "list" = none
  b_len : mg "len" = none
  b_range : mg "range" = none
  b_reversed : mg "reversed" = none
  b_zip : mg "zip" = none
  b_sum : mg "sum" = none
  b_all : mg "all" = none
  g_times : mg "FIRST_TIMES" = some (.ref t.a_times)
  g_kept : mg "FIRST_KEPT" = some (.ref t.a_kept)
  g_given : mg "GIVEN" = some (.ref t.a_given)
end TC
namespace TC
open PySem L2
def sumF (m n l g t ft fv lt lv q : Int) : List (Str × V) := [("many", .int m), ("nones", .int n), ("least", .int l), ("greatest", .int g), ("total", .int t), ("first_time", .int ft), ("first_value", .int fv), ("last_time", .int lt), ("last_value", .int lv), ("marks", .int q)]
def sumV (s : Sq05.Sum) : List (Str × V) := sumF s.many s.nones (_root_.St.told s.least) (_root_.St.told s.greatest) s.total (ft s.first) (fv s.first) (ft s.last) (fv s.last) s.marks
section
variable {P : Program} {w : World} {K : PySem.W.Frag} {mg : Str → Option Value} {base : Heap} {t : Adr}
def sp_sIni (t : Adr) : Sp := fun vs H Q _ => ∃ (p dx : Addr), vs = [.ref p] ∧ H p = some (.ins t.cS dx []) ∧ Q .non (upd H p (.ins t.cS dx (sumV Sq05.empty)))
theorem sc_sIni : FnScope ["self"] ["self"] (defScope st_sIni) := ⟨rfl, rfl, rfl, by decide +kernel, rfl, by decide +kernel, by decide +kernel⟩
theorem ok_sIni (T : Txt K mg t) : FnOk P w K mg base CX0 1 t.f_sIni t.d_sIni ["self"] (sp_sIni t) := by
  refine T.F_sIni.ok sc_sIni (fun vs H Q E h => ?_) (fun cdv A outer s H vs Q E hr h => ?_)
  · obtain ⟨p, dx, rfl, _⟩ := h
    rfl
  · obtain ⟨p, dx, rfl, hp, k⟩ := h
    obtain ⟨kn, hn⟩ := T.i_NO_VALUE
    refine ⟨_, pss_cons (ps_fld (pv 0) pe_int rfl) (pss_cons (ps_fld (pv 0) pe_int rfl) (pss_cons (ps_fld (pv 0) (pe_glob (v := .int (-9223372036854775808)) rfl hn ⟨kn, rfl⟩) rfl) (pss_cons (ps_fld (pv 0) (pe_glob (v := .int (-9223372036854775808)) rfl hn ⟨kn, rfl⟩) rfl)
      (pss_cons (ps_fld (pv 0) pe_int rfl) (pss_cons (ps_fld (pv 0) pe_int rfl) (pss_cons (ps_fld (pv 0) (pe_glob (v := .int (-9223372036854775808)) rfl hn ⟨kn, rfl⟩) rfl) (pss_cons (ps_fld (pv 0) pe_int rfl) (pss_cons (ps_fld (pv 0) (pe_glob (v := .int (-9223372036854775808)) rfl hn ⟨kn, rfl⟩) rfl)
      (pss_one (ps_fld (pv 0) pe_int rfl)))))))))), ?_⟩
    refine ⟨_, rfl, p, t.cS, dx, [], rfl, hp, T.clS, T.nS_many, (by show 0 < 1000; decide), ?_⟩
    refine ⟨_, rfl, p, t.cS, dx, _, rfl, upd_same, T.clS, T.nS_nones, (by show 1 < 1000; decide), ?_⟩
    refine ⟨_, rfl, p, t.cS, dx, _, rfl, upd_same, T.clS, T.nS_least, (by show 2 < 1000; decide), ?_⟩
    refine ⟨_, rfl, p, t.cS, dx, _, rfl, upd_same, T.clS, T.nS_greatest, (by show 3 < 1000; decide), ?_⟩
    refine ⟨_, rfl, p, t.cS, dx, _, rfl, upd_same, T.clS, T.nS_total, (by show 4 < 1000; decide), ?_⟩
    refine ⟨_, rfl, p, t.cS, dx, _, rfl, upd_same, T.clS, T.nS_first_time, (by show 5 < 1000; decide), ?_⟩
    refine ⟨_, rfl, p, t.cS, dx, _, rfl, upd_same, T.clS, T.nS_first_value, (by show 6 < 1000; decide), ?_⟩
    refine ⟨_, rfl, p, t.cS, dx, _, rfl, upd_same, T.clS, T.nS_last_time, (by show 7 < 1000; decide), ?_⟩
    refine ⟨_, rfl, p, t.cS, dx, _, rfl, upd_same, T.clS, T.nS_last_value, (by show 8 < 1000; decide), ?_⟩
    refine ⟨_, rfl, p, t.cS, dx, _, rfl, upd_same, T.clS, T.nS_marks, (by show 9 < 1000; decide), ?_⟩
    simp only [upd_upd]
    exact k
def sp_sWv (t : Adr) : Sp := fun vs H Q _ => ∃ (a dx : Addr) (m n l g tt f1 f2 l1 l2 q : Int), vs = [.ref a] ∧ H a = some (.ins t.cS dx (sumF m n l g tt f1 f2 l1 l2 q)) ∧ Q (.int (m - n)) H
theorem sc_sWv : FnScope ["self"] ["self"] (defScope st_sWv) := ⟨rfl, rfl, rfl, by decide +kernel, rfl, by decide +kernel, by decide +kernel⟩
theorem ok_sWv (T : Txt K mg t) : FnOk P w K mg base CX0 1 t.f_sWv t.d_sWv ["self"] (sp_sWv t) := by
  refine T.F_sWv.ok sc_sWv (fun vs H Q E h => ?_) (fun cdv A outer s H vs Q E hr h => ?_)
  · obtain ⟨a, dx, m, n, l, g, tt, f1, f2, l1, l2, q, rfl, _⟩ := h
    rfl
  · obtain ⟨a, dx, m, n, l, g, tt, f1, f2, l1, l2, q, rfl, ha, k⟩ := h
    refine ⟨_, pss_one (ps_ret (pe_op op_sub (pe_fld (pv 0) rfl) (pe_fld (pv 0) rfl))), ?_⟩
    exact ⟨_, rfl, a, t.cS, dx, _, _, rfl, ha, T.clS, T.nS_many, rfl, _, rfl, a, t.cS, dx, _, _, rfl, ha, T.clS, T.nS_nones, rfl, _, _, rfl, rfl, k⟩
def sumJ (sa sb : Sq05.Sum) : List (Str × V) := sumF sa.many sa.nones (_root_.St.told (Sq05.join sa sb).least) (_root_.St.told (Sq05.join sa sb).greatest) (Sq05.join sa sb).total (ft (Sq05.join sa sb).first) (fv (Sq05.join sa sb).first) (ft (Sq05.join sa sb).last) (fv (Sq05.join sa sb).last) sa.marks
def sp_sTv (t : Adr) : Sp := fun vs H Q _ => ∃ (a b dx dy : Addr) (sa sb : Sq05.Sum), vs = [.ref a, .ref b] ∧ H a = some (.ins t.cS dx (sumV sa)) ∧ H b = some (.ins t.cS dy (sumV sb)) ∧ a ≠ b ∧ Good sa ∧ Good sb ∧ sb.nones < sb.many ∧
  Q .non (upd H a (.ins t.cS dx (sumJ sa sb)))
theorem sc_sTv : FnScope ["self", "later"] ["self", "later"] (defScope st_sTv) := ⟨rfl, rfl, rfl, by decide +kernel, rfl, by decide +kernel, by decide +kernel⟩
theorem dec_z {i j : Int} : (V.int i = V.int j) ↔ i = j := ⟨fun h => V.int.inj h, fun h => by rw [h]⟩
theorem ok_sTv (T : Txt K mg t) : FnOk P w K mg base CX0 2 t.f_sTv t.d_sTv ["self", "later"] (sp_sTv t) := by
  refine T.F_sTv.ok sc_sTv (fun vs H Q E h => ?_) (fun cdv A outer s H vs Q E hr h => ?_)
  · obtain ⟨a, b, dx, dy, sa, sb, rfl, _⟩ := h
    rfl
  · obtain ⟨a, b, dx, dy, sa, sb, rfl, ha, hb, hab, ga, gb, hv, k⟩ := h
    refine ⟨_, pss_cons (ps_if (pt_cmpR op_eq (pe_meth0 (pv 0) T.clS T.m_sWv (ok_sWv T) hr T.b_sWv .nil pass0) pe_int (nomark _))
      (pss_cons (ps_fld (pv 0) (pe_fld (pv 1) rfl) rfl) (pss_cons (ps_fld (pv 0) (pe_fld (pv 1) rfl) rfl) (pss_cons (ps_fld (pv 0) (pe_fld (pv 1) rfl) rfl) (pss_one (ps_fld (pv 0) (pe_fld (pv 1) rfl) rfl)))))
      (pss_cons (ps_fld (pv 0) (pe_callB (call_min2 rfl) rfl T.b_min PyProof.Rows.boot_min (pa_cons (pe_fld (pv 0) rfl) (pa_cons (pe_fld (pv 1) rfl) pa_nil))) rfl)
        (pss_one (ps_fld (pv 0) (pe_callB (call_max2 rfl) rfl T.b_max PyProof.Rows.boot_max (pa_cons (pe_fld (pv 0) rfl) (pa_cons (pe_fld (pv 1) rfl) pa_nil))) rfl))))
      (pss_cons (ps_fldaug (pv 0) (pe_fld (pv 1) rfl) in_add) (pss_cons (ps_fld (pv 0) (pe_fld (pv 1) rfl) rfl) (pss_one (ps_fld (pv 0) (pe_fld (pv 1) rfl) rfl)))), ?_⟩
    have hb' : ∀ {o : HO}, (upd H a o) b = some (.ins t.cS dy (sumV sb)) := fun {o} => by rw [upd_ne hab.symm]; exact hb
    have hb2 : ∀ {H' : Hp} {o o' : HO}, (upd H' a o) b = some (.ins t.cS dy (sumV sb)) → (upd (upd H' a o) a o') b = some (.ins t.cS dy (sumV sb)) := fun e => by rw [upd_ne hab.symm]; exact e
    refine ⟨_, rfl, a, dx, _, rfl, ha, rfl, a, dx, _, _, _, _, _, _, _, _, _, _, rfl, ha, rfl, _, rfl, ite2 (fun hz => ?_) fun hz => ?_⟩
    · -- no value so far
      have ez : sa.nones = sa.many := by
        have e := dec_z.mp (of_decide_eq_true hz)
        have := ga.le
        omega
      obtain ⟨j1, j2, j3, j4⟩ := join_first ga gb hv ez
      refine ⟨_, rfl, b, t.cS, dy, _, _, rfl, hb, T.clS, T.nS_least, rfl, _, rfl, a, t.cS, dx, _, rfl, ha, T.clS, T.nS_least, (by show 10 < 1000; decide), ?_⟩
      refine ⟨_, rfl, b, t.cS, dy, _, _, rfl, hb', T.clS, T.nS_greatest, rfl, _, rfl, a, t.cS, dx, _, rfl, upd_same, T.clS, T.nS_greatest, (by show 10 < 1000; decide), ?_⟩
      refine ⟨_, rfl, b, t.cS, dy, _, _, rfl, hb2 hb', T.clS, T.nS_first_time, rfl, _, rfl, a, t.cS, dx, _, rfl, upd_same, T.clS, T.nS_first_time, (by show 10 < 1000; decide), ?_⟩
      refine ⟨_, rfl, b, t.cS, dy, _, _, rfl, hb2 (hb2 hb'), T.clS, T.nS_first_value, rfl, _, rfl, a, t.cS, dx, _, rfl, upd_same, T.clS, T.nS_first_value, (by show 10 < 1000; decide), ?_⟩
      refine ⟨_, rfl, a, t.cS, dx, _, _, rfl, upd_same, T.clS, T.nS_total, rfl, _, rfl, b, t.cS, dy, _, _, rfl, hb2 (hb2 (hb2 hb')), T.clS, T.nS_total, rfl, _, _, rfl, rfl, dx, _, upd_same, (by show 10 < 1000; decide), ?_⟩
      refine ⟨_, rfl, b, t.cS, dy, _, _, rfl, hb2 (hb2 (hb2 (hb2 hb'))), T.clS, T.nS_last_time, rfl, _, rfl, a, t.cS, dx, _, rfl, upd_same, T.clS, T.nS_last_time, (by show 10 < 1000; decide), ?_⟩
      refine ⟨_, rfl, b, t.cS, dy, _, _, rfl, hb2 (hb2 (hb2 (hb2 (hb2 hb')))), T.clS, T.nS_last_value, rfl, _, rfl, a, t.cS, dx, _, rfl, upd_same, T.clS, T.nS_last_value, (by show 10 < 1000; decide), ?_⟩
      simp only [upd_upd]
      have e : sumJ sa sb = sumF sa.many sa.nones (_root_.St.told sb.least) (_root_.St.told sb.greatest) (sa.total + sb.total) (ft sb.first) (fv sb.first) (ft sb.last) (fv sb.last) sa.marks := by
        unfold sumJ
        rw [j1, j2, j3, j4]
        rfl
      rw [e] at k
      exact k
    · have ez : sa.nones < sa.many := by
        have e : ¬ ((sa.many : Int) - sa.nones = 0) := fun e => hz (decide_eq_true (dec_z.mpr e))
        have := ga.le
        omega
      obtain ⟨j1, j2, j3, j4⟩ := join_more ga gb hv ez
      refine ⟨_, rfl, a, t.cS, dx, _, _, rfl, ha, T.clS, T.nS_least, rfl, _, rfl, b, t.cS, dy, _, _, rfl, hb, T.clS, T.nS_least, rfl, _, _, rfl, _, rfl, a, t.cS, dx, _, rfl, ha, T.clS, T.nS_least, (by show 10 < 1000; decide), ?_⟩
      refine ⟨_, rfl, a, t.cS, dx, _, _, rfl, upd_same, T.clS, T.nS_greatest, rfl, _, rfl, b, t.cS, dy, _, _, rfl, hb', T.clS, T.nS_greatest, rfl, _, _, rfl, _, rfl, a, t.cS, dx, _, rfl, upd_same, T.clS, T.nS_greatest, (by show 10 < 1000; decide), ?_⟩
      refine ⟨_, rfl, a, t.cS, dx, _, _, rfl, upd_same, T.clS, T.nS_total, rfl, _, rfl, b, t.cS, dy, _, _, rfl, hb2 hb', T.clS, T.nS_total, rfl, _, _, rfl, rfl, dx, _, upd_same, (by show 10 < 1000; decide), ?_⟩
      refine ⟨_, rfl, b, t.cS, dy, _, _, rfl, hb2 (hb2 hb'), T.clS, T.nS_last_time, rfl, _, rfl, a, t.cS, dx, _, rfl, upd_same, T.clS, T.nS_last_time, (by show 10 < 1000; decide), ?_⟩
      refine ⟨_, rfl, b, t.cS, dy, _, _, rfl, hb2 (hb2 (hb2 hb')), T.clS, T.nS_last_value, rfl, _, rfl, a, t.cS, dx, _, rfl, upd_same, T.clS, T.nS_last_value, (by show 10 < 1000; decide), ?_⟩
      simp only [upd_upd]
      have e : sumJ sa sb = sumF sa.many sa.nones (if _root_.St.told sb.least < _root_.St.told sa.least then _root_.St.told sb.least else _root_.St.told sa.least) (if _root_.St.told sb.greatest > _root_.St.told sa.greatest then _root_.St.told sb.greatest else _root_.St.told sa.greatest) (sa.total + sb.total) (ft sa.first) (fv sa.first) (ft sb.last) (fv sb.last) sa.marks := by
        unfold sumJ
        rw [j1, j2, j3, j4]
        congr 1
        · omega
        · omega
      rw [e] at k
      exact k
def sp_sTi (t : Adr) : Sp := fun vs H Q _ => ∃ (a b dx dy : Addr) (sa sb : Sq05.Sum), vs = [.ref a, .ref b] ∧ H a = some (.ins t.cS dx (sumV sa)) ∧ H b = some (.ins t.cS dy (sumV sb)) ∧ a ≠ b ∧ Good sa ∧ Good sb ∧
  Q .non (upd H a (.ins t.cS dx (sumV (Sq05.join sa sb))))
theorem sc_sTi : FnScope ["self", "later"] ["self", "later"] (defScope st_sTi) := ⟨rfl, rfl, rfl, by decide +kernel, rfl, by decide +kernel, by decide +kernel⟩
theorem bitOr_nat (m n : Nat) : Builtin.bitOr (m : Int) (n : Int) = ((m ||| n : Nat) : Int) := by
  rw [Bits.bitOr_pp (Int.natCast_nonneg _) (Int.natCast_nonneg _)]
  simp
theorem ok_sTi (T : Txt K mg t) : FnOk P w K mg base CX0 3 t.f_sTi t.d_sTi ["self", "later"] (sp_sTi t) := by
  refine T.F_sTi.ok sc_sTi (fun vs H Q E h => ?_) (fun cdv A outer s H vs Q E hr h => ?_)
  · obtain ⟨a, b, dx, dy, sa, sb, rfl, _⟩ := h
    rfl
  · obtain ⟨a, b, dx, dy, sa, sb, rfl, ha, hb, hab, ga, gb, k⟩ := h
    have hr1 : Room 1 _ := hr.mono (by decide)
    refine ⟨_, pss_cons (ps_if (pt_cmpR op_gt (pe_meth0 (pv 1) T.clS T.m_sWv (ok_sWv T) hr1 T.b_sWv .nil pass0) pe_int (nomark _))
      (pss_one (ps_expr (pe_meth (pv 0) T.clS T.m_sTv (ok_sTv T) hr T.b_sTv .nil pass0 (pa_cons (pv 1) pa_nil)))) pss_nil)
      (pss_cons (ps_fldaug (pv 0) (pe_fld (pv 1) rfl) in_add) (pss_cons (ps_fldaug (pv 0) (pe_fld (pv 1) rfl) in_add) (pss_one (ps_fld (pv 0) (pe_op op_or (pe_fld (pv 0) rfl) (pe_fld (pv 1) rfl)) rfl)))), ?_⟩
    have hb2 : ∀ {H' : Hp} {o o' : HO}, (upd H' a o) b = some (.ins t.cS dy (sumV sb)) → (upd (upd H' a o) a o') b = some (.ins t.cS dy (sumV sb)) := fun e => by rw [upd_ne hab.symm]; exact e
    refine ⟨_, rfl, b, dy, _, rfl, hb, rfl, b, dy, _, _, _, _, _, _, _, _, _, _, rfl, hb, _, _, rfl, rfl, _, rfl, ite2 (fun hz => ?_) fun hz => ?_⟩
    · have hv : sb.nones < sb.many := by
        have e := of_decide_eq_true hz
        omega
      refine ⟨_, rfl, a, dx, _, rfl, ha, rfl, _, rfl, a, b, dx, dy, sa, sb, rfl, ha, hb, hab, ga, gb, hv, ?_⟩
      have hb' : (upd H a (.ins t.cS dx (sumJ sa sb))) b = some (.ins t.cS dy (sumV sb)) := by rw [upd_ne hab.symm]; exact hb
      refine ⟨_, rfl, a, t.cS, dx, _, _, rfl, upd_same, T.clS, T.nS_many, rfl, _, rfl, b, t.cS, dy, _, _, rfl, hb', T.clS, T.nS_many, rfl, _, _, rfl, rfl, dx, _, upd_same, (by show 10 < 1000; decide), ?_⟩
      refine ⟨_, rfl, a, t.cS, dx, _, _, rfl, upd_same, T.clS, T.nS_nones, rfl, _, rfl, b, t.cS, dy, _, _, rfl, hb2 hb', T.clS, T.nS_nones, rfl, _, _, rfl, rfl, dx, _, upd_same, (by show 10 < 1000; decide), ?_⟩
      refine ⟨_, rfl, a, t.cS, dx, _, _, rfl, upd_same, T.clS, T.nS_marks, rfl, _, rfl, b, t.cS, dy, _, _, rfl, hb2 (hb2 hb'), T.clS, T.nS_marks, rfl, _, _, rfl, rfl, _, rfl, a, t.cS, dx, _, rfl, upd_same, T.clS, T.nS_marks, (by show 10 < 1000; decide), ?_⟩
      simp only [upd_upd]
      rw [bitOr_nat]
      exact k
    · have hv : sb.nones = sb.many := by
        have e : ¬ (0 < (sb.many : Int) - sb.nones) := fun e => hz (decide_eq_true e)
        have := gb.le
        omega
      obtain ⟨j1, j2, j3, j4, j5⟩ := join_none (a := sa) gb hv
      have hb' : ∀ {o : HO}, (upd H a o) b = some (.ins t.cS dy (sumV sb)) := fun {o} => by rw [upd_ne hab.symm]; exact hb
      refine ⟨_, rfl, a, t.cS, dx, _, _, rfl, ha, T.clS, T.nS_many, rfl, _, rfl, b, t.cS, dy, _, _, rfl, hb, T.clS, T.nS_many, rfl, _, _, rfl, rfl, dx, _, ha, (by show 10 < 1000; decide), ?_⟩
      refine ⟨_, rfl, a, t.cS, dx, _, _, rfl, upd_same, T.clS, T.nS_nones, rfl, _, rfl, b, t.cS, dy, _, _, rfl, hb', T.clS, T.nS_nones, rfl, _, _, rfl, rfl, dx, _, upd_same, (by show 10 < 1000; decide), ?_⟩
      refine ⟨_, rfl, a, t.cS, dx, _, _, rfl, upd_same, T.clS, T.nS_marks, rfl, _, rfl, b, t.cS, dy, _, _, rfl, hb2 hb', T.clS, T.nS_marks, rfl, _, _, rfl, rfl, _, rfl, a, t.cS, dx, _, rfl, upd_same, T.clS, T.nS_marks, (by show 10 < 1000; decide), ?_⟩
      simp only [upd_upd]
      rw [bitOr_nat]
      have e : sumV (Sq05.join sa sb) = sumF (sa.many + sb.many) (sa.nones + sb.nones) (_root_.St.told sa.least) (_root_.St.told sa.greatest) sa.total (ft sa.first) (fv sa.first) (ft sa.last) (fv sa.last) ((sa.marks ||| sb.marks : Nat) : Int) := by
        unfold sumV
        rw [j1, j2, j3, j4, j5]
        rfl
      rw [e] at k
      exact k
end
end TC
namespace TC
open PySem L2
theorem op_fdivW {X : Cx} : OpR X (binaryOp .FloorDiv) (rI (fun _ j => 0 < j ∧ j < 2 ^ 64) fun i j => .int (i / j)) := opI fun i j _ _ _ _ _ hc q => by
  have e : i.fdiv j = i / j := Int.fdiv_eq_ediv_of_nonneg _ (by omega)
  refine PyProof.Rows.floordiv_int (by omega) ?_ (.inl (PyProof.noPylong_of_log2 ?_))
  · rw [e]; exact q
  · have h0 : j.natAbs ≠ 0 := by omega
    have h1 : j.natAbs.log2 < 64 := (Nat.log2_lt h0).mpr (by omega)
    omega
section
variable {P : Program} {w : World} {K : PySem.W.Frag} {mg : Str → Option Value} {base : Heap} {t : Adr}
def sp_fNear : Sp := fun vs H Q _ => ∃ (z : Int) (d : Nat), vs = [.int z, .int d] ∧ 0 < d ∧ d < 2 ^ 62 ∧ Q (.int (_root_.St.nearest z d)) H
theorem sc_fNear : FnScope ["total", "parts", "amount"] ["total", "parts"] (defScope st_fNear) := ⟨rfl, rfl, rfl, by decide +kernel, rfl, by decide +kernel, by decide +kernel⟩
theorem near_eq (z : Int) (d : Nat) : (2 * (if z < 0 then -z else z) + (d : Int)) / (2 * d) = (((2 * z.natAbs + d) / (2 * d) : Nat) : Int) := by
  have e : (if z < 0 then -z else z) = (z.natAbs : Int) := by split <;> omega
  rw [e]
  simp
theorem ok_fNear (T : Txt K mg t) : FnOk P w K mg base CX0 1 t.f_fNear t.d_fNear ["total", "parts"] sp_fNear := by
  refine T.F_fNear.ok sc_fNear (fun vs H Q E h => ?_) (fun cdv A outer s H vs Q E hr h => ?_)
  · obtain ⟨z, d, rfl, _⟩ := h
    rfl
  · obtain ⟨z, d, rfl, h0, h1, k⟩ := h
    refine ⟨_, pss_cons (ps_set (i := 2) sc_fNear.nd rfl (Or.inl rfl) (pe_op op_fdivW (pe_op op_add (pe_op op_mul pe_int (pe_callB call_abs rfl T.b_abs PyProof.Rows.boot_abs (pa_cons (pv 0) pa_nil))) (pv 1)) (pe_op op_mul pe_int (pv 1))))
      (pss_cons (ps_if (pt_cmpR op_lt (pv 0) pe_int (nomark _)) (pss_one (ps_ret (pe_un un_neg (pv 2)))) pss_nil) (pss_one (ps_ret (pv 2)))), ?_⟩
    refine ⟨_, rfl, _, rfl, _, _, rfl, rfl, .inl ⟨by decide, by decide⟩, _, rfl, _, _, rfl, rfl, _, rfl, _, _, rfl, rfl, .inl ⟨by decide, by decide⟩, _, _, rfl, rfl, ⟨by omega, by omega⟩, ?_⟩
    have e := near_eq z d
    refine ⟨_, rfl, _, _, rfl, rfl, _, rfl, ite2 (fun hz => ?_) fun hz => ?_⟩
    · have hz' : z < 0 := of_decide_eq_true hz
      refine ⟨_, rfl, _, rfl, ?_⟩
      rw [e]
      unfold _root_.St.nearest at k
      rw [if_neg (by omega)] at k
      exact k
    · have hz' : ¬ z < 0 := fun q => hz (decide_eq_true q)
      refine ⟨_, rfl, ?_⟩
      show Q (V.int ((2 * (if z < 0 then -z else z) + (d : Int)) / (2 * d))) H
      rw [e]
      unfold _root_.St.nearest at k
      rw [if_pos (by omega)] at k
      exact k
def meanOf (s : Sq05.Sum) : Int := if s.many = s.nones then _root_.St.NONE else _root_.St.nearest s.total (s.many - s.nones)
def sp_sMean (t : Adr) : Sp := fun vs H Q _ => ∃ (a dx : Addr) (s : Sq05.Sum), vs = [.ref a] ∧ H a = some (.ins t.cS dx (sumV s)) ∧ Good s ∧ s.many < 2 ^ 62 ∧ Q (.int (meanOf s)) H
theorem sc_sMean : FnScope ["self"] ["self"] (defScope st_sMean) := ⟨rfl, rfl, rfl, by decide +kernel, rfl, by decide +kernel, by decide +kernel⟩
theorem ok_sMean (T : Txt K mg t) : FnOk P w K mg base CX0 2 t.f_sMean t.d_sMean ["self"] (sp_sMean t) := by
  refine T.F_sMean.ok sc_sMean (fun vs H Q E h => ?_) (fun cdv A outer s H vs Q E hr h => ?_)
  · obtain ⟨a, dx, s, rfl, _⟩ := h
    rfl
  · obtain ⟨a, dx, s, rfl, ha, g, hm, k⟩ := h
    obtain ⟨kn, hn⟩ := T.i_NO_VALUE
    refine ⟨_, pss_cons (ps_if (pt_cmpR op_eq (pe_meth0 (pv 0) T.clS T.m_sWv (ok_sWv T) hr T.b_sWv .nil pass0) pe_int (nomark _)) (pss_one (ps_ret (pe_glob (v := .int (-9223372036854775808)) rfl hn ⟨kn, rfl⟩))) pss_nil)
      (pss_one (ps_ret (pe_call (ok_fNear T) hr rfl T.g_fNear T.F_fNear.kp T.b_fNear .nil pass0 (pa_cons (pe_fld (pv 0) rfl) (pa_cons (pe_meth0 (pv 0) T.clS T.m_sWv (ok_sWv T) hr T.b_sWv .nil pass0) pa_nil))))), ?_⟩
    have hle := g.le
    refine ⟨_, rfl, a, dx, _, rfl, ha, rfl, a, dx, _, _, _, _, _, _, _, _, _, _, rfl, ha, rfl, _, rfl, ite2 (fun hz => ?_) fun hz => ?_⟩
    · have e := dec_z.mp (of_decide_eq_true hz)
      unfold meanOf at k
      rw [if_pos (by omega)] at k
      exact k
    · have e : ¬ ((s.many : Int) - s.nones = 0) := fun e => hz (decide_eq_true (dec_z.mpr e))
      have ed : ((s.many : Int) - s.nones) = ((s.many - s.nones : Nat) : Int) := by omega
      refine ⟨_, rfl, a, t.cS, dx, _, _, rfl, ha, T.clS, T.nS_total, rfl, _, rfl, a, dx, _, rfl, ha, rfl, a, dx, _, _, _, _, _, _, _, _, _, _, rfl, ha, s.total, s.many - s.nones, by rw [← ed]; rfl, by omega, by omega, ?_⟩
      unfold meanOf at k
      rw [if_neg (by omega)] at k
      exact k
def sp_sTold (t : Adr) : Sp := fun vs H Q _ => ∃ (a dx : Addr) (s : Sq05.Sum), vs = [.ref a] ∧ H a = some (.ins t.cS dx (sumV s)) ∧ Good s ∧ s.many < 2 ^ 62 ∧ ∀ l, H l = none → Q (.ref l) (upd H l (.lst ((Sq05.told s).map V.int)))
theorem sc_sTold : FnScope ["self"] ["self"] (defScope st_sTold) := ⟨rfl, rfl, rfl, by decide +kernel, rfl, by decide +kernel, by decide +kernel⟩
theorem told_eq (s : Sq05.Sum) : Sq05.told s = [(s.many : Int), s.nones, _root_.St.told s.least, _root_.St.told s.greatest, s.total / 2 ^ 62, s.total % 2 ^ 62, meanOf s, ft s.first, fv s.first, ft s.last, fv s.last, s.marks] := by
  unfold Sq05.told
  rw [pair_eq, pair_eq]
  rfl
theorem told_len (s : Sq05.Sum) : (Sq05.told s).length = 12 := by rw [told_eq]; rfl
theorem ok_sTold (T : Txt K mg t) : FnOk P w K mg base CX0 3 t.f_sTold t.d_sTold ["self"] (sp_sTold t) := by
  refine T.F_sTold.ok sc_sTold (fun vs H Q E h => ?_) (fun cdv A outer s H vs Q E hr h => ?_)
  · obtain ⟨a, dx, s, rfl, _⟩ := h
    rfl
  · obtain ⟨a, dx, s, rfl, ha, g, hm, k⟩ := h
    obtain ⟨kn, hn⟩ := T.i_GREATEST
    refine ⟨_, pss_one (ps_ret (pe_lst (pa_cons (pe_fld (pv 0) rfl) (pa_cons (pe_fld (pv 0) rfl) (pa_cons (pe_fld (pv 0) rfl) (pa_cons (pe_fld (pv 0) rfl)
      (pa_cons (pe_op op_fdivW (pe_fld (pv 0) rfl) (pe_glob (v := .int 4611686018427387904) rfl hn ⟨kn, rfl⟩)) (pa_cons (pe_op op_mod (pe_fld (pv 0) rfl) (pe_glob (v := .int 4611686018427387904) rfl hn ⟨kn, rfl⟩))
      (pa_cons (pe_meth0 (pv 0) T.clS T.m_sMean (ok_sMean T) hr T.b_sMean .nil pass0)
      (pa_cons (pe_fld (pv 0) rfl) (pa_cons (pe_fld (pv 0) rfl) (pa_cons (pe_fld (pv 0) rfl) (pa_cons (pe_fld (pv 0) rfl) (pa_cons (pe_fld (pv 0) rfl) pa_nil)))))))))))))), ?_⟩
    refine ⟨_, rfl, a, t.cS, dx, _, _, rfl, ha, T.clS, T.nS_many, rfl, ?_⟩
    refine ⟨_, rfl, a, t.cS, dx, _, _, rfl, ha, T.clS, T.nS_nones, rfl, ?_⟩
    refine ⟨_, rfl, a, t.cS, dx, _, _, rfl, ha, T.clS, T.nS_least, rfl, ?_⟩
    refine ⟨_, rfl, a, t.cS, dx, _, _, rfl, ha, T.clS, T.nS_greatest, rfl, ?_⟩
    refine ⟨_, rfl, a, t.cS, dx, _, _, rfl, ha, T.clS, T.nS_total, rfl, _, _, rfl, rfl, ⟨by decide, by decide⟩, ?_⟩
    refine ⟨_, rfl, a, t.cS, dx, _, _, rfl, ha, T.clS, T.nS_total, rfl, _, _, rfl, rfl, (by decide : (0 : Int) < 4611686018427387904), ?_⟩
    refine ⟨_, rfl, a, dx, _, rfl, ha, rfl, a, dx, s, rfl, ha, g, hm, ?_⟩
    refine ⟨_, rfl, a, t.cS, dx, _, _, rfl, ha, T.clS, T.nS_first_time, rfl, ?_⟩
    refine ⟨_, rfl, a, t.cS, dx, _, _, rfl, ha, T.clS, T.nS_first_value, rfl, ?_⟩
    refine ⟨_, rfl, a, t.cS, dx, _, _, rfl, ha, T.clS, T.nS_last_time, rfl, ?_⟩
    refine ⟨_, rfl, a, t.cS, dx, _, _, rfl, ha, T.clS, T.nS_last_value, rfl, ?_⟩
    refine ⟨_, rfl, a, t.cS, dx, _, _, rfl, ha, T.clS, T.nS_marks, rfl, ?_⟩
    refine ⟨(by show 12 ≤ sizeLine; decide), fun l hl => ?_⟩
    have := k l hl
    rw [told_eq] at this
    exact this
def valOf (m : _root_.St.Measurement) : Int := _root_.St.told m.value
def sp_fOne (t : Adr) : Sp := fun vs H Q _ => ∃ (m : _root_.St.Measurement), vs = [.int m.time, .int (valOf m), .int m.quality] ∧ (∀ v, m.value = some v → v ≠ _root_.St.NONE) ∧
  ∀ x dx, H x = none → H dx = none → dx ≠ x → Q (.ref x) (upd (upd H dx (.own x)) x (.ins t.cS dx (sumV (Sq05.of m))))
theorem sc_fOne : FnScope ["time", "value", "marks", "one"] ["time", "value", "marks"] (defScope st_fOne) := ⟨rfl, rfl, rfl, by decide +kernel, rfl, by decide +kernel, by decide +kernel⟩
theorem ok_fOne (T : Txt K mg t) : FnOk P w K mg base CX0 3 t.f_fOne t.d_fOne ["time", "value", "marks"] (sp_fOne t) := by
  refine T.F_fOne.ok sc_fOne (fun vs H Q E h => ?_) (fun cdv A outer s H vs Q E hr h => ?_)
  · obtain ⟨m, rfl, _⟩ := h
    rfl
  · obtain ⟨m, rfl, hv, k⟩ := h
    obtain ⟨kn, hn⟩ := T.i_NO_VALUE
    refine ⟨_, pss_cons (ps_set (i := 3) sc_fOne.nd rfl (Or.inl rfl) (pe_make0 T.mkS (ok_sIni T) hr rfl T.mgS T.b_sIni .nil pass0))
      (pss_cons (ps_fld (pv 3) pe_int rfl) (pss_cons (ps_fld (pv 3) (pv 2) rfl)
      (pss_cons (ps_if (pt_cmpR op_eq (pv 1) (pe_glob (v := .int (-9223372036854775808)) rfl hn ⟨kn, rfl⟩) (nomark _)) (pss_cons (ps_fld (pv 3) pe_int rfl) (pss_one (ps_ret (pv 3)))) pss_nil)
      (pss_cons (ps_fld (pv 3) (pv 1) rfl) (pss_cons (ps_fld (pv 3) (pv 1) rfl) (pss_cons (ps_fld (pv 3) (pv 1) rfl) (pss_cons (ps_fld (pv 3) (pv 0) rfl) (pss_cons (ps_fld (pv 3) (pv 1) rfl) (pss_cons (ps_fld (pv 3) (pv 0) rfl) (pss_cons (ps_fld (pv 3) (pv 1) rfl) (pss_one (ps_ret (pv 3))))))))))))), ?_⟩
    intro x dx nx ndx nex
    refine ⟨x, dx, rfl, upd_same, ⟨rfl, ?_⟩⟩
    refine ⟨_, rfl, x, t.cS, dx, _, rfl, upd_same, T.clS, T.nS_many, (by show 10 < 1000; decide), ?_⟩
    refine ⟨_, rfl, _, rfl, x, t.cS, dx, _, rfl, upd_same, T.clS, T.nS_marks, (by show 10 < 1000; decide), ?_⟩
    have hk := k x dx nx ndx nex
    refine ⟨_, rfl, rfl, _, rfl, ite2 (fun hz => ?_) fun hz => ?_⟩
    · have e := dec_z.mp (of_decide_eq_true hz)
      have em : m.value = none := by
        cases q : m.value with
        | none => rfl
        | some v =>
          exfalso
          refine hv v q ?_
          unfold valOf at e
          rw [q] at e
          exact e
      refine ⟨_, rfl, x, t.cS, dx, _, rfl, upd_same, T.clS, T.nS_nones, (by show 10 < 1000; decide), ?_⟩
      refine ⟨_, rfl, ?_⟩
      simp only [upd_upd]
      have e2 : Sq05.of m = ⟨1, 1, none, none, 0, none, none, m.quality⟩ := by
        unfold Sq05.of
        rw [em]
      rw [e2] at hk
      exact hk
    · have em : ∃ v, m.value = some v := by
        cases q : m.value with
        | none =>
          exfalso
          refine hz (decide_eq_true (dec_z.mpr ?_))
          unfold valOf
          rw [q]
          rfl
        | some v => exact ⟨v, rfl⟩
      obtain ⟨v, em⟩ := em
      have ev : valOf m = v := by
        unfold valOf
        rw [em]
        rfl
      refine ⟨_, rfl, _, rfl, x, t.cS, dx, _, rfl, upd_same, T.clS, T.nS_least, (by show 10 < 1000; decide), ?_⟩
      refine ⟨_, rfl, _, rfl, x, t.cS, dx, _, rfl, upd_same, T.clS, T.nS_greatest, (by show 10 < 1000; decide), ?_⟩
      refine ⟨_, rfl, _, rfl, x, t.cS, dx, _, rfl, upd_same, T.clS, T.nS_total, (by show 10 < 1000; decide), ?_⟩
      refine ⟨_, rfl, _, rfl, x, t.cS, dx, _, rfl, upd_same, T.clS, T.nS_first_time, (by show 10 < 1000; decide), ?_⟩
      refine ⟨_, rfl, _, rfl, x, t.cS, dx, _, rfl, upd_same, T.clS, T.nS_first_value, (by show 10 < 1000; decide), ?_⟩
      refine ⟨_, rfl, _, rfl, x, t.cS, dx, _, rfl, upd_same, T.clS, T.nS_last_time, (by show 10 < 1000; decide), ?_⟩
      refine ⟨_, rfl, _, rfl, x, t.cS, dx, _, rfl, upd_same, T.clS, T.nS_last_value, (by show 10 < 1000; decide), ?_⟩
      refine ⟨_, rfl, ?_⟩
      simp only [upd_upd]
      have e2 : Sq05.of m = ⟨1, 0, some v, some v, v, some (m.time, v), some (m.time, v), m.quality⟩ := by
        unfold Sq05.of
        rw [em]
      rw [e2] at hk
      rw [ev]
      exact hk
end
end TC
namespace TC
open PySem PySem.Spec PyProof.Rows L2

theorem vals_by : ∀ {xs : List V} {us : List Value}, xs.length = us.length → (∀ (j : Nat) (u : Value), us[j]? = some u → ∃ x, xs[j]? = some x ∧ RelV x u) → Vals xs us
  | [], [], _, _ => .nil
  | [], _ :: _, h, _ => by simp at h
  | _ :: _, [], h, _ => by simp at h
  | x :: xs, u :: us, h, k => by
    obtain ⟨y, hy, r⟩ := k 0 u rfl
    have e : x = y := Option.some.inj hy
    subst e
    exact .cons r (vals_by (by simpa using h) fun j v hv => k (j + 1) v hv)
theorem call_list_dk {X : Cx} (hc : X.calm = true) : CallR X (.type "list") (fun xs H Q => ∃ a kvs, xs = [.ref a] ∧ H a = some (.dK kvs) ∧ ∀ l, H l = none → Q (.ref l) (upd H l (.lst (kvs.map fun kv => kV kv.1)))) := by
  intro pins s σ H xs us Q I r h
  obtain ⟨a, kvs, rfl, ha, q⟩ := h
  obtain ⟨u, rfl, rx⟩ := vals1 r
  cases rx
  obtain ⟨z, hd, vs, rel, o, es, ep, h1⟩ := dk_of I.hok ha
  have hlen := rel.length
  have hkeys := rel.keys
  refine PySem.W.kdl_call (PySem.W.kdl_dict (knd := mixKind X.prog X.w) (kvs := vs) (ep := ep) hd) (I.ok.hd hc) ⟨o, es, h1⟩ (by rw [← hlen]; exact z) fun h' tk acc c kp e it => ?_
  have hv : Vals (kvs.map fun kv => kV kv.1) acc.toList := by
    have el : acc.toList.length = acc.size := by simp
    refine vals_by (by rw [List.length_map, el, it.1, hlen]) fun j u hu => ?_
    obtain ⟨k, x, hk, hi⟩ := it.2 j u (by rw [← Array.getElem?_toList]; exact hu)
    have e1 : (kvs.map (·.1))[j]? = some k := by rw [hkeys, List.getElem?_map, hk]; rfl
    refine ⟨kV k, ?_, relV_key hi⟩
    rw [List.getElem?_map] at e1 ⊢
    cases q : kvs[j]? with
    | none => rw [q] at e1; cases e1
    | some p =>
      rw [q] at e1
      have e2 : p.1 = k := Option.some.inj e1
      rw [← e2]
      rfl
  have new : ObjOk X.prog X.w (upd H s.heap.objs.size (.lst (kvs.map fun kv => kV kv.1))) h' s.heap.objs.size (.lst (kvs.map fun kv => kV kv.1)) := ⟨by rw [List.length_map]; exact z, acc.toList, c, hv, by simpa using e⟩
  exact ⟨.ref s.heap.objs.size, _, I.laid (t' := tk) kp (Nat.le_refl _) new, rfl, q _ (I.hok.fresh (Nat.le_refl _))⟩

theorem small_oneW {a b : Int} (ha : 0 ≤ a) (hb : 0 ≤ b) (hb' : b ≤ 2 ^ 62) (ha' : a ≤ 2 ^ 62) : Builtin.Range.small a b 1 = true := by
  unfold Builtin.Range.small
  rw [rangeSize_one]
  simp only [Builtin.Range.rangeFitsLong, Bool.and_eq_true, Bool.or_eq_true, decide_eq_true_eq, beq_iff_eq, show (1 : Int) > 0 by decide, if_true]
  split <;> omega
section
variable {X : Cx} {tg : Expr}
def iRngW (ta : TA) : TI := fun σ H R => ta σ H fun vs H1 => ∃ i j : Int, vs = [.int i, .int j] ∧ (0 ≤ i ∧ i ≤ 2 ^ 62 ∧ 0 ≤ j ∧ j ≤ 2 ^ 62) ∧ R (Itr i (j - i).toNat) H1
theorem pi_rangeW {a b : Expr} {ta : TA} {p pos : Pos} (hg : Gl X "range") (hm : X.mg "range" = none) (ha : PA X [a, b] ta) (hs : starEach [a, b] X.env = [(false, eval a X.env), (false, eval b X.env)] := by rfl) (hs2 : starEach [b] X.env = [(false, eval b X.env)] := by rfl) :
    PI X tg (.Call (.Name "range" p) [a, b] [] pos) (iRngW ta) := by
  intro pins s σ H R I h
  refine Call_ (ld_blt I hg hm boot_range (PyProof.Rows.callWith_type1 (thn (ha pos pins s σ H _ I h) fun us s1 ⟨vs, H1, I1, r1, q1⟩ => ?_) (by rw [hs, hs2]) (by rw [hs2]; rfl)))
  obtain ⟨i, j, e, ⟨q1, q2, q3, q4⟩, q⟩ := q1
  subst e
  cases r1 with
  | cons r rr =>
    cases rr with
    | cons r' rr =>
      cases rr
      obtain ⟨t, rfl⟩ := r
      obtain ⟨t', rfl⟩ := r'
      refine call_range_2 ?_
      refine wpAny_pyIter_range (IsRange.new ..) (small_oneW q1 q3 q4 q2) ?_
      refine pi_one (I1.kept fun b o e => Heap.get?_push_of_some _ e) _ (turn_range _ i (j - i).toNat) ?_ q
      have e1 : i + ((0 : Nat) : Int) * 1 = i := by simp
      have e2 : (((j - i).toNat : Nat) : Int) - ((0 : Nat) : Int) = Builtin.Range.rangeSize i j 1 := by rw [rangeSize_one]; split <;> omega
      show IsRangeIter _ _ (i + ((0 : Nat) : Int) * 1) ((((j - i).toNat : Nat) : Int) - ((0 : Nat) : Int)) 1
      rw [e1, e2]
      exact Heap.get?_push_size _ rfl
end
end TC
namespace TC
open PySem PySem.Spec PyProof.Rows L2
section
variable {prog : Program} {w : World} {A : Around} {E : Value → Shared → Prop} {s : Shared}

theorem nx_tup {i b : Addr} {n : Nat} {its : Array Value} {v : Value} {Q : Value → Shared → Prop} (hi : s.heap.IsTupleIter i b n) (hb : s.heap.IsTuple b its) (hv : its[n]? = some v)
    (hQ : ∀ g, g.IsTupleIter i b (n + 1) → Heap.SameBut i s.heap g → Q v { s with heap := g }) : wpAny (model prog w) A (Builtin.SmallTypes.nextOf (.ref i)) Q E s := by
  obtain ⟨oi, gi, ci, di⟩ := id hi
  obtain ⟨ob, gb, _, nb, db⟩ := hb
  unfold Builtin.SmallTypes.nextOf
  refine wpAny_bind (wpAny_callSpecial?_slot (name := Str.ofString "__next__") hi.typeIs F.slot_tuple_iterator_next (wpAny_call_entry F.slot_tuple_iterator_next hi.typeIs F.entry_tuple_iterator_next (?_ : wpAny _ _ (field (.ref i) 0 >>= _) _ _ s) (F.args_tuple_iterator_next_1 _)))
  refine wpAny_bind (wpAny_field gi di (x := .ref b) rfl (?_ : wpAny _ _ (if (Value.ref b == Value.none) = true then _ else _) _ _ s))
  rw [if_neg (show ¬ ((Value.ref b == Value.none) = true) from Bool.false_ne_true)]
  refine (show wpAny _ _ (field (.ref i) 1 >>= _) _ _ s from wpAny_bind (wpAny_field gi di (x := .int n 0) rfl (?_ : wpAny _ _ (seqItems? (.ref b) >>= _) _ _ s)))
  refine wpAny_bind (wpAny_seqItems gb db ?_)
  simp only [Int.toNat_natCast, hv]
  refine wpAny_bind (wpAny_setField gi di (by simp) (wpAny_pure ⟨v, rfl, wpAny_pure (hQ _ ⟨_, Heap.get?_update_self _ gi (Obj.isFreed_of_fields (Obj.data_mapFields di _)), (Obj.cls_mapFields ..).trans ci, ?_⟩ (Heap.SameBut.update ..))⟩))
  rw [Obj.data_mapFields di]; simp [rawInt]

def It2 (tp : Bool) (h : Heap) (i b : Addr) (n : Nat) : Prop := if tp = true then h.IsTupleIter i b n else h.IsListIter i b n
def Sq2 (tp : Bool) (h : Heap) (b : Addr) (its : Array Value) : Prop := if tp = true then h.IsTuple b its else h.IsList b its
theorem It2.ext {tp : Bool} {h g : Heap} {i b c : Addr} {n : Nat} (x : It2 tp h i b n) (hs : Heap.ExtBut c h g) (hne : i ≠ c) : It2 tp g i b n := by
  cases tp
  · exact Heap.IsListIter.extBut (show h.IsListIter i b n from x) hs hne
  · exact Heap.IsTupleIter.extBut (show h.IsTupleIter i b n from x) hs hne
theorem It2.at {tp : Bool} {h g : Heap} {i b : Addr} {n : Nat} (x : It2 tp h i b n) (e : ∀ o, h.get? i = some o → g.get? i = some o) : It2 tp g i b n := by
  cases tp
  · exact Heap.IsListIter.at (show h.IsListIter i b n from x) e
  · exact Heap.IsTupleIter.at (show h.IsTupleIter i b n from x) e
theorem It2.obj {tp : Bool} {h : Heap} {i b : Addr} {n : Nat} (x : It2 tp h i b n) : ∃ o, h.get? i = some o ∧ ∀ v, o.data ≠ .cell v := by
  cases tp
  · obtain ⟨o, e, _, d⟩ := (show h.IsListIter i b n from x)
    exact ⟨o, e, fun v q => by rw [d] at q; cases q⟩
  · obtain ⟨o, e, _, d⟩ := (show h.IsTupleIter i b n from x)
    exact ⟨o, e, fun v q => by rw [d] at q; cases q⟩
theorem Sq2.ext {tp : Bool} {h g : Heap} {b c : Addr} {its : Array Value} (x : Sq2 tp h b its) (hs : Heap.ExtBut c h g) (hne : b ≠ c) : Sq2 tp g b its := by
  cases tp
  · exact Heap.IsList.extBut (show h.IsList b its from x) hs hne
  · exact Heap.IsTuple.extBut (show h.IsTuple b its from x) hs hne
theorem nx2 {tp : Bool} {i b : Addr} {n : Nat} {its : Array Value} {v : Value} {Q : Value → Shared → Prop} (hi : It2 tp s.heap i b n) (hb : Sq2 tp s.heap b its) (hv : its[n]? = some v)
    (hQ : ∀ g, It2 tp g i b (n + 1) → Heap.SameBut i s.heap g → Q v { s with heap := g }) : wpAny (model prog w) A (Builtin.SmallTypes.nextOf (.ref i)) Q E s := by
  cases tp
  · exact wpAny_nextOf_list_item hi hb hv hQ
  · exact nx_tup hi hb hv hQ

abbrev Zp (h : Heap) (z TI TO : Addr) (f0 f1 : Value) : Prop := h.get? z = some { cls := .type "zip", dict := none, data := .fields #[f0, f1, .bool false, .ref TI, .ref TO], slots := #[] }
def F0 (v : Value) : Prop := v = .none ∨ ∃ (n : Nat), v = rawInt n
theorem alive_any {a : Addr} {Q : Option Obj → Shared → Prop} (h : Q (s.heap.get? a) s) : wpAny (model prog w) A (loadIfAlive a) Q E s := fun _ _ _ => h
theorem zp_asks {z TI TO : Addr} {f0 f1 : Value} (hz : Zp s.heap z TI TO f0 f1) (h0 : F0 f0) :
    (∀ Q : Bool → Shared → Prop, Q true s → wpAny (model prog w) A (Builtin.SmallTypes.ownedTupleIsFree (.ref z)) Q E s) ∨
    (∀ Q : Bool → Shared → Prop, (∀ g f1', Zp g z TI TO f0 f1' → Heap.SameBut z s.heap g → Q false { s with heap := g }) → wpAny (model prog w) A (Builtin.SmallTypes.ownedTupleIsFree (.ref z)) Q E s) := by
  rcases h0 with rfl | ⟨n, rfl⟩
  · exact .inl fun Q q => wpAny_bind (wpAny_field hz rfl (x := .none) rfl (wpAny_pure q))
  · cases hn : s.heap.get? n with
    | none =>
      refine .inl fun Q q => wpAny_bind (wpAny_field hz rfl (x := rawInt n) rfl (wpAny_bind (alive_any ?_)))
      rw [show ((n : Int)).toNat = n from rfl, hn]
      exact wpAny_pure q
    | some o =>
      refine .inr fun Q q => wpAny_bind (wpAny_field hz rfl (x := rawInt n) rfl (wpAny_bind (alive_any ?_)))
      rw [show ((n : Int)).toNat = n from rfl, hn]
      refine wpAny_bind (wpAny_field hz rfl (x := f1) rfl ?_)
      by_cases e : (f1 != Value.bool true) = true
      · rw [if_pos e]
        exact wpAny_bind (wpAny_setField_rec hz (by simp) fun g hg sg => wpAny_pure (q g _ hg sg))
      · rw [if_neg e]
        exact wpAny_bind (wpAny_pure (wpAny_pure (q s.heap _ hz ⟨rfl, fun _ _ => rfl⟩)))
structure ZpOut (tp : Bool) (h g : Heap) (z TI TO i1 i2 l1 l2 : Addr) (k : Nat) (x y : Value) : Prop where
  rec_ : ∃ f0 f1, Zp g z TI TO f0 f1 ∧ F0 f0
  own : ∃ a b, IsPair g TO a b
  it1 : g.IsListIter i1 l1 (k + 1)
  it2 : It2 tp g i2 l2 (k + 1)
  new : IsPair g h.objs.size x y
  kept : ∀ c o, c ≠ z → c ≠ TO → c ≠ i1 → c ≠ i2 → h.get? c = some o → g.get? c = some o
theorem zp_item {tp : Bool} {z TI TO i1 i2 l1 l2 : Addr} {k : Nat} {xs ys : Array Value} {x y a b f0 f1 : Value} {Q : Value → Shared → Prop} (D : ZipApart z TI TO i1 i2 l1 l2)
    (hz : Zp s.heap z TI TO f0 f1) (h0 : F0 f0) (hTI : IsPair s.heap TI (.ref i1) (.ref i2)) (hTO : IsPair s.heap TO a b) (h1 : s.heap.IsListIter i1 l1 k) (h2 : It2 tp s.heap i2 l2 k)
    (hl1 : s.heap.IsList l1 xs) (hl2 : Sq2 tp s.heap l2 ys) (hx : xs[k]? = some x) (hy : ys[k]? = some y) (hQ : ∀ g, ZpOut tp s.heap g z TI TO i1 i2 l1 l2 k x y → Q (.ref s.heap.objs.size) { s with heap := g }) :
    wpAny (model prog w) A (Builtin.«zip.__next__» ⟨[.ref z], []⟩) (fun fin s' => ∃ v, fin = .done (.ret v) ∧ Q v s') E s := by
  refine (show wpAny _ _ (field (.ref z) 2 >>= _) _ _ _ from wpAny_bind (wpAny_field hz rfl (x := .bool false) rfl (?_ : wpAny _ _ (field (.ref z) 3 >>= _) _ _ _)))
  refine wpAny_bind (wpAny_field hz rfl (x := .ref TI) rfl (wpAny_bind (wpAny_seqItems hTI rfl (?_ : wpAny _ _ (Builtin.SmallTypes.ownedTupleIsFree (.ref z) >>= _) _ _ _))))
  refine wpAny_bind ?_
  rcases zp_asks (prog := prog) (w := w) (A := A) (E := E) hz h0 with hf | hf
  · -- the kept pair again
    refine hf _ ?_
    simp only [if_true]
    refine wpAny_bind (wpAny_rule (wpAny_bind (wpAny_field hz rfl (x := .ref TO) rfl (wpAny_bind (wpAny_setField_rec hz (by simp) fun g1 z1 s1 => ?_)))))
    replace z1 : Zp g1 z TI TO .ellipsis f1 := z1
    refine wpAny_bind ?_
    simp only [List.zipIdx_cons, List.zipIdx_nil, List.forIn_cons, List.forIn_nil]
    refine wpAny_bind (wpAny_bind (wpAny_onRaise (?_ : wpAny _ _ (Builtin.SmallTypes.nextOf (.ref i1) >>= _) _ _ _)))
    refine wpAny_bind (wpAny_nextOf_list_item (h1.extBut s1.extBut D.i1z) (hl1.extBut s1.extBut D.l1z) hx fun g2 a2 s2 => wpAny_pure ?_)
    have t2 : IsPair g2 TO a b := s2.extBut _ _ D.TOi1 (s1.extBut _ _ D.TOz hTO)
    refine wpAny_bind (wpAny_seqItems t2 rfl (wpAny_bind (wpAny_updateSeq_pair t2 fun g3 t3 s3 => wpAny_bind (wpAny_letGo (wpAny_pure ?_)))))
    replace t3 : IsPair g3 TO x b := t3
    refine wpAny_bind (wpAny_bind (wpAny_onRaise (?_ : wpAny _ _ (Builtin.SmallTypes.nextOf (.ref i2) >>= _) _ _ _)))
    refine wpAny_bind (nx2 (((h2.ext s1.extBut D.i2z).ext s2.extBut D.i12.symm).ext s3.extBut D.TOi2.symm) (((hl2.ext s1.extBut D.l2z).ext s2.extBut D.l2i1).ext s3.extBut D.l2TO) hy fun g4 a4 s4 => wpAny_pure ?_)
    have t4 : IsPair g4 TO x b := s4.extBut _ _ D.TOi2 t3
    refine wpAny_bind (wpAny_seqItems t4 rfl (wpAny_bind (wpAny_updateSeq_pair t4 fun g5 t5 s5 => wpAny_bind (wpAny_letGo (wpAny_pure (wpAny_pure ?_))))))
    replace t5 : IsPair g5 TO x y := t5
    refine wpAny_bind (wpAny_seqItems t5 rfl (wpAny_bind (wpAny_newTuple ?_)))
    have hsz : g5.objs.size = s.heap.objs.size := by rw [s5.1, s4.1, s3.1, s2.1, s1.1]
    have z5 : Zp g5 z TI TO .ellipsis f1 := s5.extBut _ _ D.TOz.symm (s4.extBut _ _ D.i2z.symm (s3.extBut _ _ D.TOz.symm (s2.extBut _ _ D.i1z.symm z1)))
    have kp5 : ∀ c o, c ≠ z → c ≠ TO → c ≠ i1 → c ≠ i2 → s.heap.get? c = some o → g5.get? c = some o := fun c o c1 c2 c3 c4 e => s5.extBut _ _ c2 (s4.extBut _ _ c4 (s3.extBut _ _ c2 (s2.extBut _ _ c3 (s1.extBut _ _ c1 e))))
    have b1 : g5.IsListIter i1 l1 (k + 1) := ((a2.extBut s3.extBut D.TOi1.symm).extBut s4.extBut D.i12).extBut s5.extBut D.TOi1.symm
    have b2 : It2 tp g5 i2 l2 (k + 1) := a4.ext s5.extBut D.TOi2.symm
    have zl : z < g5.objs.size := Heap.lt_size z5
    refine (show wpAny _ _ (Builtin.SmallTypes.ownedTupleHandOut (.ref z) (.ref g5.objs.size) >>= _) _ _ _ from wpAny_bind ?_)
    unfold Builtin.SmallTypes.ownedTupleHandOut
    have z6 : Zp (g5.push { cls := .type "tuple", data := .seq #[x, y] }) z TI TO .ellipsis f1 := Heap.get?_push_of_some _ z5
    refine wpAny_bind (wpAny_setField_rec z6 (by simp) fun g7 z7 s7 => ?_)
    replace z7 : Zp g7 z TI TO (rawInt g5.objs.size) f1 := z7
    refine wpAny_setField_rec z7 (by simp) fun g8 z8 s8 => ?_
    replace z8 : Zp g8 z TI TO (rawInt g5.objs.size) (.bool false) := z8
    have up : ∀ c o, c ≠ z → g5.get? c = some o → g8.get? c = some o := fun c o c1 e => s8.extBut _ _ c1 (s7.extBut _ _ c1 (Heap.get?_push_of_some _ e))
    have n8 : IsPair g8 g5.objs.size x y := s8.extBut _ _ (Nat.ne_of_gt zl) (s7.extBut _ _ (Nat.ne_of_gt zl) (Heap.get?_push_size _ rfl))
    refine wpAny_pure ⟨_, rfl, (?_ : Q (.ref g5.objs.size) _)⟩
    rw [hsz] at n8 ⊢
    exact hQ g8 ⟨⟨_, _, z8, .inr ⟨_, rfl⟩⟩, ⟨_, _, up _ _ D.TOz t5⟩, b1.at fun o e => up _ o D.i1z e, b2.at fun o e => up _ o D.i2z e, n8, fun c o c1 c2 c3 c4 e => up c o c1 (kp5 c o c1 c2 c3 c4 e)⟩
  · -- the pair is held: a new one by itself
    refine hf _ fun g1 f1' z1 s1 => ?_
    simp only [Bool.false_eq_true, if_false]
    refine wpAny_bind ?_
    rw [← Array.forIn_toList]
    simp only [List.forIn_cons, List.forIn_nil]
    refine wpAny_bind (wpAny_bind (wpAny_holding (?_ : wpAny _ _ (Builtin.SmallTypes.nextOf (.ref i1) >>= _) _ _ _)))
    refine wpAny_bind (wpAny_nextOf_list_item (h1.extBut s1.extBut D.i1z) (hl1.extBut s1.extBut D.l1z) hx fun g2 a2 s2 => wpAny_pure (wpAny_pure ?_))
    refine wpAny_bind (wpAny_bind (wpAny_holding (?_ : wpAny _ _ (Builtin.SmallTypes.nextOf (.ref i2) >>= _) _ _ _)))
    refine wpAny_bind (nx2 ((h2.ext s1.extBut D.i2z).ext s2.extBut D.i12.symm) ((hl2.ext s1.extBut D.l2z).ext s2.extBut D.l2i1) hy fun g3 a3 s3 => wpAny_pure (wpAny_pure (wpAny_pure ?_)))
    refine wpAny_bind (wpAny_newTuple ?_ (by show 2 ≤ sizeLine; decide))
    have hsz : g3.objs.size = s.heap.objs.size := by rw [s3.1, s2.1, s1.1]
    have z3 : Zp g3 z TI TO f0 f1' := s3.extBut _ _ D.i2z.symm (s2.extBut _ _ D.i1z.symm z1)
    have t3 : IsPair g3 TO a b := s3.extBut _ _ D.TOi2 (s2.extBut _ _ D.TOi1 (s1.extBut _ _ D.TOz hTO))
    have n3 : IsPair (g3.push { cls := .type "tuple", data := .seq #[x, y] }) g3.objs.size x y := Heap.get?_push_size _ rfl
    refine wpAny_pure ⟨_, rfl, (?_ : Q (.ref g3.objs.size) _)⟩
    rw [hsz] at n3 ⊢
    exact hQ _ ⟨⟨_, _, Heap.get?_push_of_some _ z3, h0⟩, ⟨_, _, Heap.get?_push_of_some _ t3⟩, (a2.extBut s3.extBut D.i12).at fun o e => Heap.get?_push_of_some _ e, a3.at fun o e => Heap.get?_push_of_some _ e, n3,
      fun c o c1 c2 c3 c4 e => Heap.get?_push_of_some _ (s3.extBut _ _ c4 (s2.extBut _ _ c3 (s1.extBut _ _ c1 e)))⟩
theorem zp_end {tp : Bool} {z TI TO i1 i2 l1 l2 : Addr} {k : Nat} {xs : Array Value} {a b f0 f1 : Value} {Q : Fin → Shared → Prop} (hh : A.handled = none) (D : ZipApart z TI TO i1 i2 l1 l2)
    (hz : Zp s.heap z TI TO f0 f1) (h0 : F0 f0) (hTI : IsPair s.heap TI (.ref i1) (.ref i2)) (h1 : s.heap.IsListIter i1 l1 k) (hl1 : s.heap.IsList l1 xs) (hx : xs[k]? = none)
    (hE : ∀ g e, (∀ c o, c ≠ z → c ≠ TO → c ≠ i1 → c ≠ i2 → s.heap.get? c = some o → g.get? c = some o) → (∃ o, g.get? e = some o ∧ o.cls = .type "StopIteration") → E (.ref e) { s with heap := g }) :
    wpAny (model prog w) A (Builtin.«zip.__next__» ⟨[.ref z], []⟩) Q E s := by
  refine (show wpAny _ _ (field (.ref z) 2 >>= _) _ _ _ from wpAny_bind (wpAny_field hz rfl (x := .bool false) rfl (?_ : wpAny _ _ (field (.ref z) 3 >>= _) _ _ _)))
  refine wpAny_bind (wpAny_field hz rfl (x := .ref TI) rfl (wpAny_bind (wpAny_seqItems hTI rfl (?_ : wpAny _ _ (Builtin.SmallTypes.ownedTupleIsFree (.ref z) >>= _) _ _ _))))
  refine wpAny_bind ?_
  rcases zp_asks (prog := prog) (w := w) (A := A) (E := E) hz h0 with hf | hf
  · refine hf _ ?_
    simp only [if_true]
    refine wpAny_bind (wpAny_rule (wpAny_bind (wpAny_field hz rfl (x := .ref TO) rfl (wpAny_bind (wpAny_setField_rec hz (by simp) fun g1 z1 s1 => ?_)))))
    replace z1 : Zp g1 z TI TO .ellipsis f1 := z1
    refine wpAny_bind ?_
    simp only [List.zipIdx_cons, List.zipIdx_nil, List.forIn_cons, List.forIn_nil]
    refine wpAny_bind (wpAny_bind (wpAny_onRaise (?_ : wpAny _ _ (Builtin.SmallTypes.nextOf (.ref i1) >>= _) _ _ _)))
    refine wpAny_bind (wpAny_nextOf_list_end hh (h1.extBut s1.extBut D.i1z) (hl1.extBut s1.extBut D.l1z) hx fun g2 e s2 he => ?_)
    obtain ⟨oe, hoe, hce⟩ := he
    have z2 : Zp g2 z TI TO .ellipsis f1 := s2 _ _ D.i1z.symm z1
    have hez : e ≠ z := fun x => by subst x; rw [z2] at hoe; cases hoe; simp at hce
    exact wpAny_setField_rec z2 (by simp) fun g3 _ s3 => hE g3 e (fun c o c1 _ c3 _ x => s3.extBut _ _ c1 (s2 _ _ c3 (s1.extBut _ _ c1 x))) ⟨oe, s3.extBut _ _ hez hoe, hce⟩
  · refine hf _ fun g1 f1' z1 s1 => ?_
    simp only [Bool.false_eq_true, if_false]
    refine wpAny_bind ?_
    rw [← Array.forIn_toList]
    simp only [List.forIn_cons, List.forIn_nil]
    refine wpAny_bind (wpAny_bind (wpAny_holding (?_ : wpAny _ _ (Builtin.SmallTypes.nextOf (.ref i1) >>= _) _ _ _)))
    exact wpAny_bind (wpAny_nextOf_list_end hh (h1.extBut s1.extBut D.i1z) (hl1.extBut s1.extBut D.l1z) hx fun g2 e s2 he => hE g2 e (fun c o c1 _ c3 _ x => s2 _ _ c3 (s1.extBut _ _ c1 x)) he)
theorem zp_typ {z TI TO : Addr} {f0 f1 : Value} (hz : Zp s.heap z TI TO f0 f1) : s.TypeIs (.ref z) "zip" := ⟨_, hz, rfl⟩
theorem nx_zp {tp : Bool} {z TI TO i1 i2 l1 l2 : Addr} {k : Nat} {xs ys : Array Value} {x y a b f0 f1 : Value} {Q : Option Value → Shared → Prop} (D : ZipApart z TI TO i1 i2 l1 l2)
    (hz : Zp s.heap z TI TO f0 f1) (h0 : F0 f0) (hTI : IsPair s.heap TI (.ref i1) (.ref i2)) (hTO : IsPair s.heap TO a b) (h1 : s.heap.IsListIter i1 l1 k) (h2 : It2 tp s.heap i2 l2 k)
    (hl1 : s.heap.IsList l1 xs) (hl2 : Sq2 tp s.heap l2 ys) (hx : xs[k]? = some x) (hy : ys[k]? = some y) (hQ : ∀ g, ZpOut tp s.heap g z TI TO i1 i2 l1 l2 k x y → Q (some (.ref s.heap.objs.size)) { s with heap := g }) :
    wpAny (model prog w) A (pyNext (.ref z)) Q E s := by
  unfold pyNext
  exact wpAny_bind (wpAny_attempt (wpAny_callSpecial?_slot (name := Str.ofString "__next__") (zp_typ hz) F.slot_zip_next (wpAny_call_entry F.slot_zip_next (zp_typ hz) F.entry_zip_next
    (zp_item D hz h0 hTI hTO h1 h2 hl1 hl2 hx hy fun g z => wpAny_pure (hQ g z)) (F.args_zip_next_1 _))))
theorem nx_zp_end {tp : Bool} {z TI TO i1 i2 l1 l2 : Addr} {k : Nat} {xs : Array Value} {f0 f1 : Value} {Q : Option Value → Shared → Prop} (hh : A.handled = none) (D : ZipApart z TI TO i1 i2 l1 l2)
    (hz : Zp s.heap z TI TO f0 f1) (h0 : F0 f0) (hTI : IsPair s.heap TI (.ref i1) (.ref i2)) (h1 : s.heap.IsListIter i1 l1 k) (hl1 : s.heap.IsList l1 xs) (hx : xs[k]? = none)
    (hQ : ∀ g, (∀ c o, c ≠ z → c ≠ TO → c ≠ i1 → c ≠ i2 → s.heap.get? c = some o → g.get? c = some o) → Q none { s with heap := g }) : wpAny (model prog w) A (pyNext (.ref z)) Q E s := by
  unfold pyNext
  refine wpAny_bind (wpAny_attempt (wpAny_callSpecial?_slot (name := Str.ofString "__next__") (zp_typ hz) F.slot_zip_next (wpAny_call_entry F.slot_zip_next (zp_typ hz) F.entry_zip_next
    (zp_end (tp := tp) (a := .none) (b := .none) hh D hz h0 hTI h1 hl1 hx fun g e kp he => ?_) (F.args_zip_next_1 _))))
  obtain ⟨o, ho, hc⟩ := he
  exact wpAny_bind (wpAny_isInstance (T := "StopIteration") (b := true) ⟨o, ho, hc⟩ isSubtype_stop (wpAny_pure (hQ _ kp)))
theorem it_zp {z TI TO : Addr} {f0 f1 : Value} {Q : Value → Shared → Prop} (hz : Zp s.heap z TI TO f0 f1) (h : Q (.ref z) s) : wpAny (model prog w) A (pyIter (.ref z)) Q E s :=
  wpAny_pyIter_slot (zp_typ hz) F.slot_zip_iter (wpAny_call_entry F.slot_zip_iter (zp_typ hz) F.entry_zip_iter (show wpAny _ _ (ret (.ref z)) _ _ s from wpAny_pure ⟨_, rfl, "zip", _, zp_typ hz, F.slot_zip_next.lookup, h⟩) (F.args_zip_iter_1 _))
end


abbrev zt1 (h : Heap) (a : Addr) : Heap := h.push { cls := .type "list_iterator", data := .fields #[.ref a, .int 0 0] }
abbrev zt2 (h : Heap) (a b : Addr) : Heap := (zt1 h a).push { cls := .type "tuple_iterator", data := .fields #[.ref b, .int 0 0] }
abbrev zt3 (h : Heap) (a b : Addr) : Heap := (zt2 h a b).push { cls := .type "tuple", data := .seq #[.ref h.objs.size, .ref (zt1 h a).objs.size] }
abbrev zt4 (h : Heap) (a b : Addr) : Heap := (zt3 h a b).push { cls := .type "tuple", data := .seq #[.none, .none] }
abbrev zt5 (h : Heap) (a b : Addr) : Heap := (zt4 h a b).push { cls := .type "zip", data := .fields #[.none, .bool false, .bool false, .ref (zt2 h a b).objs.size, .ref (zt3 h a b).objs.size] }
theorem meets_zt (a b : Addr) (xs ys : Array Value) : Meets (Builtin.«zip.__new__» ⟨[.type "zip", .ref a, .ref b], []⟩) (fun _ R s => s.heap.IsList a xs ∧ s.heap.IsTuple b ys ∧ R (.ok (.ret (.ref (zt4 s.heap a b).objs.size))) { s with heap := zt5 s.heap a b }) :=
  .of_wp fun prog w A R s h => by
    obtain ⟨hp, g, d, tk, os⟩ := s
    obtain ⟨ha, hb, h⟩ := h
    have hsub := sub_zip
    have hA : Heap.IsList (Shared.heap ⟨hp, g, d, tk, os⟩) a xs := ha
    have hB : Heap.IsTuple (Shared.heap ⟨hp.push { cls := .type "list_iterator", data := .fields #[.ref a, .int 0 0] }, g, d, tk, os⟩) b ys := Heap.IsTuple.push hb _
    wp_walk using wpAny_pyIter_list hA, wpAny_pyIter_tuple hB
    exact ⟨_, rfl, h⟩
section
variable {prog : Program} {w : World} {A : Around} {E : Value → Shared → Prop} {s : Shared}
theorem call_zip2 {tp : Bool} {l1 l2 : Addr} {xs ys : Array Value} {Q : Value → Shared → Prop} (hl1 : s.heap.IsList l1 xs) (hl2 : Sq2 tp s.heap l2 ys)
    (h : ∀ g, Zp g (s.heap.objs.size + 4) (s.heap.objs.size + 2) (s.heap.objs.size + 3) .none (.bool false) → IsPair g (s.heap.objs.size + 2) (.ref s.heap.objs.size) (.ref (s.heap.objs.size + 1)) →
      IsPair g (s.heap.objs.size + 3) .none .none → g.IsListIter s.heap.objs.size l1 0 → It2 tp g (s.heap.objs.size + 1) l2 0 → (∀ c o, s.heap.get? c = some o → g.get? c = some o) → Q (.ref (s.heap.objs.size + 4)) { s with heap := g }) :
    wpAny (model prog w) A (call (.type "zip") [.ref l1, .ref l2]) Q E s := by
  cases tp
  · exact call_zip_2 hl1 hl2 fun g a1 a2 a3 a4 a5 _ a7 => h g a1 a2 a3 a4 a5 a7
  · refine callType_new F.called_zip (by decide) (F.typeCall_zip_2 _ _) (F.newCall_zip_2 _ _) (fun obj => F.args_object_init_3 obj _ _) F.entry_zip_new (meets_zt l1 l2 xs ys) ⟨hl1, hl2, ?_⟩
    have e1 : (zt1 s.heap l1).objs.size = s.heap.objs.size + 1 := Heap.size_push ..
    have e2 : (zt2 s.heap l1 l2).objs.size = s.heap.objs.size + 2 := by rw [Heap.size_push, e1]
    have e3 : (zt3 s.heap l1 l2).objs.size = s.heap.objs.size + 3 := by rw [Heap.size_push, e2]
    have e4 : (zt4 s.heap l1 l2).objs.size = s.heap.objs.size + 4 := by rw [Heap.size_push, e3]
    have g5 : (zt5 s.heap l1 l2).get? (zt4 s.heap l1 l2).objs.size = some _ := Heap.get?_push_size _ rfl
    have g4 : (zt5 s.heap l1 l2).get? (zt3 s.heap l1 l2).objs.size = some _ := Heap.get?_push_of_some _ (Heap.get?_push_size _ rfl)
    have g3 : (zt5 s.heap l1 l2).get? (zt2 s.heap l1 l2).objs.size = some _ := Heap.get?_push_of_some _ (Heap.get?_push_of_some _ (Heap.get?_push_size _ rfl))
    have g2 : (zt5 s.heap l1 l2).get? (zt1 s.heap l1).objs.size = some _ := Heap.get?_push_of_some _ (Heap.get?_push_of_some _ (Heap.get?_push_of_some _ (Heap.get?_push_size _ rfl)))
    have g1 : (zt5 s.heap l1 l2).get? s.heap.objs.size = some _ := Heap.get?_push_of_some _ (Heap.get?_push_of_some _ (Heap.get?_push_of_some _ (Heap.get?_push_of_some _ (Heap.get?_push_size _ rfl))))
    refine (show _ ∧ _ from ?_)
    rw [e2, e3, e4] at g5
    rw [e1, e2] at g3
    rw [e3] at g4
    rw [e1] at g2
    rw [e4]
    exact ⟨⟨_, g5, rfl⟩, h _ g5 g3 g4 ⟨_, g1, rfl, rfl⟩ (show Heap.IsTupleIter _ _ _ _ from ⟨_, g2, rfl, rfl⟩) fun c o x => Heap.get?_push_of_some _ (Heap.get?_push_of_some _ (Heap.get?_push_of_some _ (Heap.get?_push_of_some _ (Heap.get?_push_of_some _ x))))⟩
end


def SqX (tp : Bool) (K : PySem.W.Frag) (H : Hp) (b : Addr) (ys : List V) : Prop := if tp = true then SqT K H b ys else SqL K H b ys
theorem sqX_at {tp : Bool} {X : Cx} {pins : List (Addr × Obj)} {σ : L2.St} {H : Hp} {s : Shared} {b : Addr} {ys : List V} (I : L2.Inv X pins σ H s) (h : SqX tp X.K H b ys) : ∃ its : List Value, Vals ys its ∧ Sq2 tp s.heap b its.toArray ∧ b < s.heap.objs.size := by
  cases tp
  · obtain ⟨its, r, p, _⟩ := I.list (show SqL X.K H b ys from h)
    exact ⟨its, r, p.isList, p.lt⟩
  · obtain ⟨its, r, p, _⟩ := I.tuple (show SqT X.K H b ys from h)
    refine ⟨its, r, p, ?_⟩
    obtain ⟨o, ho, _⟩ := p
    exact Heap.lt_size ho
theorem sqX_inj {tp : Bool} {X : Cx} {pins : List (Addr × Obj)} {σ : L2.St} {H : Hp} {s : Shared} {b : Addr} {ys zs : List V} (I : L2.Inv X pins σ H s) (h : SqX tp X.K H b ys) (h' : SqX tp X.K H b zs) : ys = zs := by
  cases tp
  · exact I.list_inj (show SqL X.K H b ys from h) (show SqL X.K H b zs from h')
  · exact I.tuple_inj (show SqT X.K H b ys from h) (show SqT X.K H b zs from h')
def Itz2 (tp : Bool) (K : PySem.W.Frag) (a b : Addr) : It :=
  ⟨fun i H => ∃ (xs ys : List V) (x y : V), SqL K H a xs ∧ SqX tp K H b ys ∧ xs[i]? = some x ∧ ys[i]? = some y,
    fun i H v H' => ∃ T x y, v = .ref T ∧ H T = none ∧ H' = upd H T (.tup [x, y]) ∧ (∀ xs, SqL K H a xs → xs[i]? = some x) ∧ ∀ ys, SqX tp K H b ys → ys[i]? = some y,
    fun i H => ∃ xs : List V, SqL K H a xs ∧ xs.length ≤ i⟩
theorem turn_zip2 {tp : Bool} {P : Program} {w : World} {K : PySem.W.Frag} {nm : Str} {tpos : Pos} {a b z TI TO i1 i2 : Addr} (D : ZipApart z TI TO i1 i2 a b) :
    Turn P w K (.Name nm tpos) (Itz2 tp K a b) [z, TI, TO, i1, i2] z (fun i h => (∃ f0 f1, Zp h z TI TO f0 f1 ∧ F0 f0) ∧ IsPair h TI (.ref i1) (.ref i2) ∧ (∃ x y, IsPair h TO x y) ∧ h.IsListIter i1 a i ∧ It2 tp h i2 b i) where
  mem := by simp
  obj := fun i h st c hc => by
    obtain ⟨⟨f0, f1, hz, _⟩, hTI, ⟨x, y, hTO⟩, ⟨o1, e1, _, d1⟩, h2⟩ := st
    obtain ⟨o2, e2, d2⟩ := h2.obj
    have e' : c = z ∨ c = TI ∨ c = TO ∨ c = i1 ∨ c = i2 := by simpa using hc
    rcases e' with q | q | q | q | q
    · rw [q]; exact ⟨_, hz, fun v q => nomatch q⟩
    · rw [q]; exact ⟨_, hTI, fun v q => nomatch q⟩
    · rw [q]; exact ⟨_, hTO, fun v q => nomatch q⟩
    · rw [q]; exact ⟨o1, e1, fun v q => by rw [d1] at q; cases q⟩
    · rw [q]; exact ⟨o2, e2, d2⟩
  keep := fun i h h' st k => by
    obtain ⟨⟨f0, f1, hz, q0⟩, hTI, ⟨x, y, hTO⟩, h1, h2⟩ := st
    exact ⟨⟨f0, f1, k z (by simp) _ hz, q0⟩, k TI (by simp) _ hTI, ⟨x, y, k TO (by simp) _ hTO⟩, h1.at fun o q => k i1 (by simp) o q, h2.at fun o q => k i2 (by simp) o q⟩
  item := by
    intro X hP hw hK hc i pins s σ H E I hf st hg
    subst hP hw hK
    obtain ⟨⟨f0, f1, hz, q0⟩, hTI, ⟨x0, y0, hTO⟩, h1, h2⟩ := st
    obtain ⟨xs, ys, x, y, hqx, hqy, hx, hy⟩ := hg
    obtain ⟨its, rv, p, _⟩ := I.list hqx
    obtain ⟨its2, rv2, p2, _⟩ := sqX_at I hqy
    obtain ⟨u, hu, ru⟩ := rv.get hx
    obtain ⟨u2, hu2, ru2⟩ := rv2.get hy
    refine nx_zp D hz q0 hTI hTO h1 h2 p.isList p2 (x := u) (y := u2) (by simpa using hu) (by simpa using hu2) fun g zo => ?_
    have new : ObjOk X.prog X.w (upd H s.heap.objs.size (.tup [x, y])) g s.heap.objs.size (.tup [x, y]) := ⟨by show 2 ≤ sizeLine; decide, [u, u2], .cons ru (.cons ru2 .nil), ⟨_, zo.new, rfl, _, rfl⟩⟩
    have I1 : L2.Inv X pins σ (upd H s.heap.objs.size (.tup [x, y])) { s with heap := g } :=
      I.turnedNew (t' := s.toks) (ch := [z, TI, TO, i1, i2]) (fun c o hb q => zo.kept c o (fun q' => hb (by simp [q'])) (fun q' => hb (by simp [q'])) (fun q' => hb (by simp [q'])) (fun q' => hb (by simp [q'])) q) hf (Nat.le_refl _) new
    refine ⟨_, rfl, wpAny_pure ⟨.ref s.heap.objs.size, _, I1, rfl, ⟨_, x, y, rfl, I.hok.fresh (Nat.le_refl _), rfl, fun l hl => by rw [I.list_inj hl hqx]; exact hx, fun l hl => by rw [sqX_inj I hl hqy]; exact hy⟩, ⟨zo.rec_, zo.kept _ _ D.TIz D.TITO D.TIi1 D.TIi2 hTI, zo.own, zo.it1, zo.it2⟩, fun c hcm => ?_⟩⟩
    have hlt : c < s.heap.objs.size := by
      have e' : c = z ∨ c = TI ∨ c = TO ∨ c = i1 ∨ c = i2 := by simpa using hcm
      rcases e' with q | q | q | q | q
      · rw [q]; exact Heap.lt_size hz
      · rw [q]; exact Heap.lt_size hTI
      · rw [q]; exact Heap.lt_size hTO
      · rw [q]; obtain ⟨_, e1, _⟩ := h1; exact Heap.lt_size e1
      · rw [q]; obtain ⟨_, e2, _⟩ := h2.obj; exact Heap.lt_size e2
    rw [upd_ne (Nat.ne_of_lt hlt)]
    exact (hf c hcm).1
  done := by
    intro X hP hw hK hc i pins s σ H E I hf st hg
    subst hP hw hK
    obtain ⟨⟨f0, f1, hz, q0⟩, hTI, ⟨x0, y0, hTO⟩, h1, h2⟩ := st
    obtain ⟨xs, hqx, hend⟩ := hg
    obtain ⟨its, rv, p, _⟩ := I.list hqx
    have l1 := rv.length
    exact nx_zp_end (tp := tp) (I.ok.hd hc) D hz q0 hTI h1 p.isList (by simp; omega) fun g kp => ⟨rfl, I.turnedL (t' := s.toks) (ch := [z, TI, TO, i1, i2]) (fun c o hb q =>
      kp c o (fun q' => hb (by simp [q'])) (fun q' => hb (by simp [q'])) (fun q' => hb (by simp [q'])) (fun q' => hb (by simp [q'])) q) hf⟩
  self := fun A i s Q E st h => let ⟨⟨_, _, hz, _⟩, _⟩ := st; it_zp hz h
def iZip2 (tp : Bool) (K : PySem.W.Frag) (ta : TA) : TI := fun σ H R => ta σ H fun vs H1 => ∃ a b xs ys, vs = [.ref a, .ref b] ∧ SqL K H1 a xs ∧ SqX tp K H1 b ys ∧ R (Itz2 tp K a b) H1
theorem pi_zip2 {X : Cx} (tp : Bool) {e e2 : Expr} {ta : TA} {p pos tpos : Pos} {nm : Str} (hg : Gl X "zip") (hm : X.mg "zip" = none) (ha : PA X [e, e2] ta)
    (hs : starEach [e, e2] X.env = (false, eval e X.env) :: starEach [e2] X.env := by rfl) (hpl : (backTo pos (starEach [e2] X.env)).any (·.1) = false := by rfl) :
    PI X (.Name nm tpos) (.Call (.Name "zip" p) [e, e2] [] pos) (iZip2 tp X.K ta) := by
  intro pins s σ H R I h
  refine Call_ (ld_blt I hg hm boot_zip5 (PyProof.Rows.callWith_type1 (thn (ha pos pins s σ H _ I h) fun us s1 ⟨vs, H1, I1, r1, q1⟩ => ?_) hs hpl))
  obtain ⟨a, b, xs, ys, ex, hqx, hqy, q⟩ := q1
  subst ex
  cases r1 with
  | cons r rr =>
    cases rr with
    | cons r' rr =>
      cases rr
      cases r
      cases r'
      obtain ⟨its, rv, p1, _⟩ := I1.list hqx
      obtain ⟨its2, rv2, p2, lb⟩ := sqX_at I1 hqy
      have la : a < s1.heap.objs.size := p1.lt
      refine call_zip2 p1.isList p2 fun g hz hTI hTO h1 h2 hk => it_zp hz ?_
      have I2 : L2.Inv X pins σ H1 { s1 with heap := g } := I1.kept (t' := s1.toks) hk
      refine ⟨s1.heap.objs.size + 4, [s1.heap.objs.size + 4, s1.heap.objs.size + 2, s1.heap.objs.size + 3, s1.heap.objs.size, s1.heap.objs.size + 1], _, _, H1, rfl, I2, turn_zip2 (PySem.W.ktu_apart s1.heap.objs.size a b la lb), ⟨⟨_, _, hz, .inl rfl⟩, hTI, ⟨_, _, hTO⟩, h1, h2⟩, fun c hcm => ?_, q⟩
      have e' : c = s1.heap.objs.size + 4 ∨ c = s1.heap.objs.size + 2 ∨ c = s1.heap.objs.size + 3 ∨ c = s1.heap.objs.size ∨ c = s1.heap.objs.size + 1 := by simpa using hcm
      have hle : s1.heap.objs.size ≤ c := by
        rcases e' with z | z | z | z | z
        · rw [z]; exact Nat.le_add_right _ _
        · rw [z]; exact Nat.le_add_right _ _
        · rw [z]; exact Nat.le_add_right _ _
        · rw [z]; exact Nat.le_refl _
        · rw [z]; exact Nat.le_add_right _ _
      exact I1.fpOk hle (I1.hok.fresh hle)
end TC
namespace TC
open PySem L2
abbrev ACells := List (Nat × Addr × Sq05.Sum)
def cellsOf (L : ACells) : Cells := L.map fun x => (x.1, x.2.2)
def kvsOf (L : ACells) : List (Key × V) := L.map fun x => (Sum.inl (x.1 : Int), V.ref x.2.1)
def levF (w k o : Nat) (d : Addr) : List (Str × V) := [("width", .int w), ("kept", .int k), ("oldest", .int o), ("summaries", .ref d)]
structure Keeps (M : Addr → Prop) (H H' : Hp) : Prop where
  kp : ∀ c o, H c = some o → ¬ M c → H' c = some o
  dom : ∀ c, H' c = none → H c = none
theorem Keeps.refl {M : Addr → Prop} {H : Hp} : Keeps M H H := ⟨fun _ _ h _ => h, fun _ h => h⟩
theorem Keeps.trans {M N : Addr → Prop} {H H1 H2 : Hp} (a : Keeps M H H1) (b : Keeps N H1 H2) (hn : ∀ c, N c → M c ∨ H c = none) : Keeps M H H2 :=
  ⟨fun c o h hm => b.kp c o (a.kp c o h hm) fun n => (hn c n).elim hm fun z => (by rw [h] at z; cases z), fun c h => a.dom c (b.dom c h)⟩
theorem Keeps.mono {M N : Addr → Prop} {H H1 : Hp} (a : Keeps M H H1) (h : ∀ c, M c → N c) : Keeps N H H1 := ⟨fun c o e n => a.kp c o e fun m => n (h c m), a.dom⟩
theorem Keeps.new {M : Addr → Prop} {H : Hp} {p : Addr} {o : HO} (h : H p = none) : Keeps M H (upd H p o) :=
  ⟨fun c u e _ => by rw [upd_ne (ne_of_none e h)]; exact e, fun c e => by
    by_cases hc : c = p
    · subst hc; exact h
    · rw [upd_ne hc] at e; exact e⟩
theorem Keeps.own {M : Addr → Prop} {H : Hp} {p : Addr} {o : HO} (h : M p) : Keeps M H (upd H p o) :=
  ⟨fun c u e n => (by rw [upd_ne (show c ≠ p from fun q => n (q.symm ▸ h))]; exact e), fun c e => by
    by_cases hc : c = p
    · subst hc; rw [upd_same] at e; cases e
    · rw [upd_ne hc] at e; exact e⟩
structure LevAt (t : Adr) (H : Hp) (M : Addr → Prop) (a d : Addr) (w k o : Nat) (L : ACells) : Prop where
  ob : ∃ dx, H a = some (.ins t.cL dx (levF w k o d))
  dct : H d = some (.dK (kvsOf L))
  sums : ∀ x ∈ L, ∃ dx, H x.2.1 = some (.ins t.cS dx (sumV x.2.2))
  nd : (L.map (·.2.1)).Nodup
  ma : M a
  md : M d
  ms : ∀ x ∈ L, M x.2.1
  wp : 0 < w
  wl : w < 2 ^ 60
theorem LevAt.frame {t : Adr} {H H' : Hp} {M N : Addr → Prop} {a d : Addr} {w k o : Nat} {L : ACells} (l : LevAt t H M a d w k o L) (kp : Keeps N H H') (h : ∀ c, M c → ¬ N c) : LevAt t H' M a d w k o L :=
  ⟨let ⟨dx, e⟩ := l.ob; ⟨dx, kp.kp _ _ e (h _ l.ma)⟩, kp.kp _ _ l.dct (h _ l.md), fun x hx => let ⟨dx, e⟩ := l.sums x hx; ⟨dx, kp.kp _ _ e (h _ (l.ms x hx))⟩, l.nd, l.ma, l.md, l.ms, l.wp, l.wl⟩
theorem val_kvs (i : Nat) : ∀ L : ACells, valV (kvsOf L) (Sum.inl (i : Int)) = (L.find? fun x => x.1 == i).map fun x => V.ref x.2.1
  | [] => rfl
  | x :: r => by
    by_cases e : x.1 = i
    · have e1 : (Sum.inl (x.1 : Int) : Key) = Sum.inl (i : Int) := by rw [e]
      have e2 : valV (kvsOf (x :: r)) (Sum.inl (i : Int)) = some (V.ref x.2.1) := valV_pos (p := (Sum.inl (x.1 : Int), V.ref x.2.1)) (r := kvsOf r) e1
      rw [e2, List.find?_cons, show (x.1 == i) = true by simp [e]]
      rfl
    · have e1 : ¬ (Sum.inl (x.1 : Int) : Key) = Sum.inl (i : Int) := fun q => e (by have := Sum.inl.inj q; omega)
      have e2 : valV (kvsOf (x :: r)) (Sum.inl (i : Int)) = valV (kvsOf r) (Sum.inl (i : Int)) := valV_neg (p := (Sum.inl (x.1 : Int), V.ref x.2.1)) (r := kvsOf r) e1
      rw [e2, val_kvs i r, List.find?_cons, show (x.1 == i) = false by simp [e]]
theorem kvs_keys (L : ACells) : (kvsOf L).map (fun kv => kV kv.1) = L.map fun x => V.int (x.1 : Int) := by
  unfold kvsOf
  rw [List.map_map]
  rfl
section
variable {P : Program} {w : World} {K : PySem.W.Frag} {mg : Str → Option Value} {base : Heap} {t : Adr}
def sp_lIni (t : Adr) : Sp := fun vs H Q _ => ∃ (p dx : Addr) (w k : Nat), vs = [.ref p, .int w, .int k] ∧ H p = some (.ins t.cL dx []) ∧
  ∀ (d : Addr) (H' : Hp), H d = none → d ≠ p → H' p = some (.ins t.cL dx (levF w k 0 d)) → H' d = some (.dK []) → (∀ c, c ≠ p → c ≠ d → H' c = H c) → Q .non H'
theorem sc_lIni : FnScope ["self", "width", "kept"] ["self", "width", "kept"] (defScope st_lIni) := ⟨rfl, rfl, rfl, by decide +kernel, rfl, by decide +kernel, by decide +kernel⟩
theorem ok_lIni (T : Txt K mg t) : FnOk P w K mg base CX0 1 t.f_lIni t.d_lIni ["self", "width", "kept"] (sp_lIni t) := by
  refine T.F_lIni.ok sc_lIni (fun vs H Q E h => ?_) (fun cdv A outer s H vs Q E hr h => ?_)
  · obtain ⟨p, dx, w, k, rfl, _⟩ := h
    rfl
  · obtain ⟨p, dx, w, k, rfl, hp, q⟩ := h
    refine ⟨_, pss_cons (ps_fld (pv 0) (pv 1) rfl) (pss_cons (ps_fld (pv 0) (pv 2) rfl) (pss_cons (ps_fld (pv 0) pe_int rfl) (pss_one (ps_fld (pv 0) pe_dnewK rfl)))), ?_⟩
    refine ⟨_, rfl, _, rfl, p, t.cL, dx, [], rfl, hp, T.clL, T.nL_width, (by show 0 < 1000; decide), ?_⟩
    refine ⟨_, rfl, _, rfl, p, t.cL, dx, _, rfl, upd_same, T.clL, T.nL_kept, (by show 1 < 1000; decide), ?_⟩
    refine ⟨_, rfl, p, t.cL, dx, _, rfl, upd_same, T.clL, T.nL_oldest, (by show 2 < 1000; decide), ?_⟩
    intro d hd
    have hdp : d ≠ p := fun e => by
      subst e
      rw [upd_same] at hd
      cases hd
    have hd0 : H d = none := by
      rw [upd_ne hdp, upd_ne hdp, upd_ne hdp] at hd
      exact hd
    refine ⟨_, rfl, p, t.cL, dx, _, rfl, (by rw [upd_ne hdp.symm]; exact upd_same), T.clL, T.nL_summaries, (by show 3 < 1000; decide), ?_⟩
    refine q d _ hd0 hdp upd_same (by rw [upd_ne hdp, upd_same]) fun c h1 h2 => ?_
    rw [upd_ne h1, upd_ne h2, upd_ne h1, upd_ne h1, upd_ne h1]
def sp_lBeg (t : Adr) : Sp := fun vs H Q _ => ∃ (a dx d : Addr) (w k o : Nat), vs = [.ref a] ∧ H a = some (.ins t.cL dx (levF w k o d)) ∧ w < 2 ^ 60 ∧ Q (.int ((o * w : Nat) : Int)) H
theorem sc_lBeg : FnScope ["self"] ["self"] (defScope st_lBeg) := ⟨rfl, rfl, rfl, by decide +kernel, rfl, by decide +kernel, by decide +kernel⟩
theorem ok_lBeg (T : Txt K mg t) : FnOk P w K mg base CX0 1 t.f_lBeg t.d_lBeg ["self"] (sp_lBeg t) := by
  refine T.F_lBeg.ok sc_lBeg (fun vs H Q E h => ?_) (fun cdv A outer s H vs Q E hr h => ?_)
  · obtain ⟨a, dx, d, w, k, o, rfl, _⟩ := h
    rfl
  · obtain ⟨a, dx, d, w, k, o, rfl, ha, hw, q⟩ := h
    refine ⟨_, pss_one (ps_ret (pe_op op_mul (pe_fld (pv 0) rfl) (pe_fld (pv 0) rfl))), ?_⟩
    refine ⟨_, rfl, a, t.cL, dx, _, _, rfl, ha, T.clL, T.nL_oldest, rfl, _, rfl, a, t.cL, dx, _, _, rfl, ha, T.clL, T.nL_width, rfl, _, _, rfl, rfl, .inr ⟨by omega, by omega⟩, ?_⟩
    rw [Int.natCast_mul] at q
    exact q
def sp_lKeep (t : Adr) : Sp := fun vs H Q _ => ∃ (a dx d : Addr) (w k o x : Nat), vs = [.ref a, .int x] ∧ H a = some (.ins t.cL dx (levF w k o d)) ∧ 0 < w ∧ w < 2 ^ 60 ∧ Q (.bl (decide (o ≤ x / w))) H
theorem sc_lKeep : FnScope ["self", "time"] ["self", "time"] (defScope st_lKeep) := ⟨rfl, rfl, rfl, by decide +kernel, rfl, by decide +kernel, by decide +kernel⟩
theorem ok_lKeep (T : Txt K mg t) : FnOk P w K mg base CX0 1 t.f_lKeep t.d_lKeep ["self", "time"] (sp_lKeep t) := by
  refine T.F_lKeep.ok sc_lKeep (fun vs H Q E h => ?_) (fun cdv A outer s H vs Q E hr h => ?_)
  · obtain ⟨a, dx, d, w, k, o, x, rfl, _⟩ := h
    rfl
  · obtain ⟨a, dx, d, w, k, o, x, rfl, ha, hw0, hw, q⟩ := h
    refine ⟨_, pss_one (ps_ret (pe_cmpR op_ge (pe_op op_fdivW (pv 1) (pe_fld (pv 0) rfl)) (pe_fld (pv 0) rfl) (nomark _))), ?_⟩
    refine ⟨_, rfl, _, rfl, a, t.cL, dx, _, _, rfl, ha, T.clL, T.nL_width, rfl, _, _, rfl, rfl, ⟨by omega, by omega⟩, _, rfl, a, t.cL, dx, _, _, rfl, ha, T.clL, T.nL_oldest, rfl, _, _, rfl, rfl, ?_⟩
    have e : decide ((o : Int) ≤ (x : Int) / (w : Int)) = decide (o ≤ x / w) := by
      congr 1
      apply propext
      rw [← Int.natCast_ediv]
      omega
    show Q (.bl (decide ((o : Int) ≤ (x : Int) / (w : Int)))) H
    rw [e]
    exact q
def sp_lEnd (t : Adr) : Sp := fun vs H Q _ => ∃ (a dx d : Addr) (w k o x : Nat), vs = [.ref a, .int x] ∧ H a = some (.ins t.cL dx (levF w k o d)) ∧ 0 < w ∧ w < 2 ^ 60 ∧ Q (.int (((x / w + 1) * w : Nat) : Int)) H
theorem sc_lEnd : FnScope ["self", "time"] ["self", "time"] (defScope st_lEnd) := ⟨rfl, rfl, rfl, by decide +kernel, rfl, by decide +kernel, by decide +kernel⟩
theorem ok_lEnd (T : Txt K mg t) : FnOk P w K mg base CX0 1 t.f_lEnd t.d_lEnd ["self", "time"] (sp_lEnd t) := by
  refine T.F_lEnd.ok sc_lEnd (fun vs H Q E h => ?_) (fun cdv A outer s H vs Q E hr h => ?_)
  · obtain ⟨a, dx, d, w, k, o, x, rfl, _⟩ := h
    rfl
  · obtain ⟨a, dx, d, w, k, o, x, rfl, ha, hw0, hw, q⟩ := h
    refine ⟨_, pss_one (ps_ret (pe_op op_mul (pe_op op_add (pe_op op_fdivW (pv 1) (pe_fld (pv 0) rfl)) pe_int) (pe_fld (pv 0) rfl))), ?_⟩
    refine ⟨_, rfl, _, rfl, a, t.cL, dx, _, _, rfl, ha, T.clL, T.nL_width, rfl, _, _, rfl, rfl, ⟨by omega, by omega⟩, _, _, rfl, rfl, _, rfl, a, t.cL, dx, _, _, rfl, ha, T.clL, T.nL_width, rfl, _, _, rfl, rfl, .inr ⟨by omega, by omega⟩, ?_⟩
    rw [Int.natCast_mul, Int.natCast_add, Int.natCast_ediv] at q
    exact q
end
end TC
namespace TC
open PySem L2
def levG (w k o : Int) (d : Addr) : List (Str × V) := [("width", .int w), ("kept", .int k), ("oldest", .int o), ("summaries", .ref d)]
theorem rising_keys {x : Nat × Addr × Sq05.Sum} {r : ACells} (h : Rising (cellsOf (x :: r))) : ∀ y ∈ r, x.1 < y.1 := fun y hy => (List.pairwise_cons.mp (show List.Pairwise _ ((x.1, x.2.2) :: cellsOf r) from h)).1 (y.1, y.2.2) (List.mem_map.mpr ⟨y, hy, rfl⟩)
theorem rising_drop {L : ACells} (h : Rising (cellsOf L)) (i : Nat) : Rising (cellsOf (L.drop i)) := by
  unfold cellsOf Rising at *
  rw [List.map_drop]
  exact List.Pairwise.sublist (List.drop_sublist _ _) h
theorem dropK_first {x : Nat × Addr × Sq05.Sum} {r : ACells} (h : Rising (cellsOf (x :: r))) : dropK (kvsOf (x :: r)) (Sum.inl (x.1 : Int)) = kvsOf r := by
  have e : dropK (kvsOf (x :: r)) (Sum.inl (x.1 : Int)) = dropK (kvsOf r) (Sum.inl (x.1 : Int)) := dropK_pos (p := (Sum.inl (x.1 : Int), V.ref x.2.1)) (r := kvsOf r) rfl
  rw [e]
  refine dropK_no fun m => ?_
  unfold kvsOf at m
  rw [List.map_map] at m
  obtain ⟨y, hy, q⟩ := List.mem_map.mp m
  have q' : (y.1 : Int) = (x.1 : Int) := Sum.inl.inj q
  have := rising_keys h y hy
  omega
theorem dropWhile_at {α : Type} {p : α → Bool} : ∀ {l : List α} {i : Nat}, (∀ x ∈ l.take i, p x = true) → (∀ x, l[i]? = some x → p x = false) → l.dropWhile p = l.drop i
  | [], i, _, _ => by simp
  | a :: r, 0, _, h => by
    rw [List.dropWhile_cons, h a rfl]
    rfl
  | a :: r, i + 1, h1, h2 => by
    rw [List.dropWhile_cons, h1 a (by simp), if_pos rfl, List.drop_succ_cons]
    exact dropWhile_at (fun x hx => h1 x (by simp [hx])) fun x hx => h2 x (by simpa using hx)
section
variable {P : Program} {w : World} {K : PySem.W.Frag} {mg : Str → Option Value} {base : Heap} {t : Adr}
def sp_lDrop (t : Adr) : Sp := fun vs H Q _ => ∃ (a d dx : Addr) (w k o : Nat) (z : Int) (L : ACells), vs = [.ref a, .int z] ∧ H a = some (.ins t.cL dx (levF w k o d)) ∧ H d = some (.dK (kvsOf L)) ∧ Rising (cellsOf L) ∧
  (z ≤ o → Q .non H) ∧ ((o : Int) < z → ∀ (l : Addr) (vs : List V), H l = none →
    Q .non (upd (upd (upd H a (.ins t.cL dx (levF w k z.toNat d))) l (.lst vs)) d (.dK (kvsOf (L.dropWhile fun x => decide ((x.1 : Int) < z))))))
theorem sc_lDrop : FnScope ["self", "oldest", "number"] ["self", "oldest"] (defScope st_lDrop) := ⟨rfl, rfl, rfl, by decide +kernel, rfl, by decide +kernel, by decide +kernel⟩
theorem ok_lDrop (T : Txt K mg t) : FnOk P w K mg base CX0 1 t.f_lDrop t.d_lDrop ["self", "oldest"] (sp_lDrop t) := by
  refine T.F_lDrop.ok sc_lDrop (fun vs H Q E h => ?_) (fun cdv A outer s H vs Q E hr h => ?_)
  · obtain ⟨a, d, dx, w, k, o, z, L, rfl, _⟩ := h
    rfl
  · obtain ⟨a, d, dx, w, k, o, z, L, rfl, ha, hd, hR, q1, q2⟩ := h
    refine ⟨_, pss_cons (ps_if (pt_cmpR op_le (pv 1) (pe_fld (pv 0) rfl) (nomark _)) (pss_one ps_retN) pss_nil)
      (pss_cons (ps_fld (pv 0) (pv 1) rfl)
      (pss_one (ps_for PassesOwn.never rfl (pi_list (pe_callTy (call_list_dk rfl) rfl T.b_list PyProof.Rows.boot_list (pa_cons (pe_fld (pv 0) rfl) pa_nil))) (pg_name (i := 2) sc_lDrop.nd rfl (Or.inl rfl))
        (pss_cons (ps_if (pt_cmpR op_ge (pv 2) (pv 1) (nomark _)) (pss_one ps_break) pss_nil)
          (pss_one (ps_expr (pe_dpop1 (pe_fld (pv 0) rfl) (pv 2) ⟨rfl, rfl, rfl, rfl⟩))))))), ?_⟩
    refine ⟨_, rfl, _, rfl, a, t.cL, dx, _, _, rfl, ha, T.clL, T.nL_oldest, rfl, _, _, rfl, rfl, _, rfl, ite2 (fun hz => ?_) fun hz => ?_⟩
    · exact q1 (of_decide_eq_true hz)
    · have hz' : (o : Int) < z := by
        have : ¬ (z ≤ (o : Int)) := fun e => hz (decide_eq_true e)
        omega
      have ez : (z.toNat : Int) = z := by omega
      have had : a ≠ d := ne_of ha hd (by intro e; cases e)
      refine ⟨_, rfl, _, rfl, a, t.cL, dx, _, rfl, ha, T.clL, T.nL_oldest, (by show 4 < 1000; decide), ?_⟩
      have ef : putF "oldest" (V.int z) (levF w k o d) = levF w k z.toNat d := by
        have e1 : putF "oldest" (V.int z) (levF w k o d) = levG w k z d := rfl
        rw [e1]
        unfold levF levG
        rw [ez]
      rw [ef]
      have hd1 : (upd H a (.ins t.cL dx (levF w k z.toNat d))) d = some (.dK (kvsOf L)) := by rw [upd_ne had.symm]; exact hd
      refine ⟨_, rfl, a, t.cL, dx, _, _, rfl, upd_same, T.clL, T.nL_summaries, rfl, d, _, rfl, hd1, fun l hl => ?_⟩
      have hal : a ≠ l := fun e => by
        subst e
        rw [upd_same] at hl
        cases hl
      have hl0 : H l = none := by
        rw [upd_ne hal.symm] at hl
        exact hl
      have hdl : d ≠ l := ne_of_none hd hl0
      have q := q2 hz' l ((kvsOf L).map fun kv => kV kv.1) hl0
      generalize eH : upd (upd H a (.ins t.cL dx (levF w k z.toNat d))) l (.lst ((kvsOf L).map fun kv => kV kv.1)) = Hl at q ⊢
      have hl1 : Hl l = some (.lst ((kvsOf L).map fun kv => kV kv.1)) := by rw [← eH]; exact upd_same
      have ha1 : Hl a = some (.ins t.cL dx (levF w k z.toNat d)) := by rw [← eH, upd_ne hal]; exact upd_same
      have hd2 : Hl d = some (.dK (kvsOf L)) := by rw [← eH, upd_ne hdl]; exact hd1
      have eself : Hl = upd Hl d (.dK (kvsOf L)) := by
        funext c
        by_cases hc : c = d
        · rw [hc, upd_same]; exact hd2
        · rw [upd_ne hc]
      refine ⟨l, rfl, ⟨_, .inl (.inl hl1)⟩, for_list (K := K) (a := l) (xs := (kvsOf L).map fun kv => kV kv.1)
        (fun i σ H' => (∃ v, σ = [some (.ref a), some (.int z), v]) ∧ H' = upd Hl d (.dK (kvsOf (L.drop i))) ∧ ∀ x ∈ L.take i, (x.1 : Int) < z)
        ⟨⟨none, rfl⟩, eself, fun x hx => by simp at hx⟩ (fun i σ H' _ ⟨_, e, _⟩ => by rw [e]; exact .inl (.inl (by rw [upd_ne hdl.symm]; exact hl1))) ?_ ?_⟩
      · rintro i y σ H' hi ⟨⟨v, rfl⟩, rfl, hb⟩
        rw [kvs_keys, List.getElem?_map] at hi
        obtain ⟨x, hx, rfl⟩ : ∃ x, L[i]? = some x ∧ y = V.int (x.1 : Int) := by
          cases e : L[i]? with
          | none => rw [e] at hi; cases hi
          | some x => rw [e] at hi; exact ⟨x, rfl, (Option.some.inj hi).symm⟩
        have hlt : i < L.length := (List.getElem?_eq_some_iff.mp hx).1
        have ed : L.drop i = x :: L.drop (i + 1) := by
          rw [List.drop_eq_getElem_cons hlt]
          congr 1
          exact (List.getElem?_eq_some_iff.mp hx).2
        refine ⟨_, rfl, _, rfl, _, _, rfl, rfl, _, rfl, ite2 (fun hc => ?_) fun hc => ?_⟩
        · -- break
          have hc' : z ≤ (x.1 : Int) := of_decide_eq_true hc
          have e1 : L.dropWhile (fun x => decide ((x.1 : Int) < z)) = L.drop i := dropWhile_at (fun y hy => decide_eq_true (hb y hy)) fun y hy => by
            rw [hx] at hy
            cases hy
            exact decide_eq_false (by omega)
          rw [e1] at q
          exact q
        · have hc' : (x.1 : Int) < z := by
            have : ¬ (z ≤ (x.1 : Int)) := fun e => hc (decide_eq_true e)
            omega
          have hR' := rising_drop hR i
          rw [ed] at hR'
          refine ⟨_, rfl, a, t.cL, dx, _, _, rfl, (by rw [upd_ne had]; exact ha1), T.clL, T.nL_summaries, rfl, d, rfl, .inl ⟨_, .inl upd_same⟩, _, rfl, _, Sum.inl (x.1 : Int), V.ref x.2.1, upd_same, rfl, ?_, ?_⟩
          · rw [ed, val_kvs, List.find?_cons]
            simp
          · refine ⟨⟨_, rfl⟩, ?_, fun y hy => ?_⟩
            · rw [upd_upd, ed, dropK_first hR']
            · rw [List.take_succ_eq_append_getElem hlt] at hy
              rcases List.mem_append.mp hy with hy | hy
              · exact hb y hy
              · rw [List.mem_singleton.mp hy, (List.getElem?_eq_some_iff.mp hx).2]
                exact hc'
      · rintro σ H' ⟨⟨v, rfl⟩, rfl, hb⟩
        have el : ((kvsOf L).map fun kv => kV kv.1).length = L.length := by rw [kvs_keys, List.length_map]
        rw [el] at hb ⊢
        have e1 : L.dropWhile (fun x => decide ((x.1 : Int) < z)) = L.drop L.length := dropWhile_at (fun y hy => decide_eq_true (hb y hy)) fun y hy => by simp at hy
        rw [e1] at q
        exact q
end
end TC
namespace TC
open PySem L2
theorem levAt_sub {t : Adr} {H : Hp} {M : Addr → Prop} {a d : Addr} {w k o o' : Nat} {L L' : ACells} {dx : Addr} {H' : Hp} (l : LevAt t H M a d w k o L) (hs : L'.Sublist L) (h1 : H' a = some (.ins t.cL dx (levF w k o' d))) (h2 : H' d = some (.dK (kvsOf L')))
    (h3 : ∀ c, c ≠ a → c ≠ d → ∀ u, H c = some u → H' c = some u) : LevAt t H' M a d w k o' L' := by
  refine ⟨⟨dx, h1⟩, h2, fun x hx => ?_, List.Nodup.sublist (List.Sublist.map _ hs) l.nd, l.ma, l.md, fun x hx => l.ms x (hs.subset hx), l.wp, l.wl⟩
  obtain ⟨dy, e⟩ := l.sums x (hs.subset hx)
  obtain ⟨dz, e2⟩ := l.ob
  refine ⟨dy, h3 _ (fun q => ?_) (fun q => ?_) _ e⟩
  · rw [q, e2] at e
    have e3 := congrArg (fun o => match o with | some (HO.ins _ _ fs) => fs.length | _ => 0) e
    exact absurd e3 (by show ¬ (4 = 10); decide)
  · rw [q, l.dct] at e
    cases e
def oAft (o : Nat) (z : Int) : Nat := if z ≤ o then o else z.toNat
def lAft (o : Nat) (z : Int) (L : ACells) : ACells := if z ≤ o then L else L.dropWhile fun x => decide ((x.1 : Int) < z)
def sp_lDrop2 (t : Adr) : Sp := fun vs H Q _ => ∃ (a d : Addr) (w k o : Nat) (z : Int) (L : ACells) (M : Addr → Prop), vs = [.ref a, .int z] ∧ LevAt t H M a d w k o L ∧ Rising (cellsOf L) ∧
  ∀ H', LevAt t H' M a d w k (oAft o z) (lAft o z L) → Keeps M H H' → Q .non H'
section
variable {P : Program} {w : World} {K : PySem.W.Frag} {mg : Str → Option Value} {base : Heap} {t : Adr}
theorem ok_lDrop2 (T : Txt K mg t) : FnOk P w K mg base CX0 1 t.f_lDrop t.d_lDrop ["self", "oldest"] (sp_lDrop2 t) := by
  refine (ok_lDrop T).imp fun vs H Q E h => ?_
  obtain ⟨a, d, w, k, o, z, L, M, rfl, l, hR, q⟩ := h
  obtain ⟨dx, ha⟩ := l.ob
  refine ⟨a, d, dx, w, k, o, z, L, rfl, ha, l.dct, hR, fun hz => ?_, fun hz ls vs hl => ?_⟩
  · refine q H ?_ Keeps.refl
    unfold oAft lAft
    rw [if_pos hz, if_pos hz]
    exact l
  · have had : a ≠ d := ne_of ha l.dct (by intro e; cases e)
    have hal : a ≠ ls := ne_of_none ha hl
    have hdl : d ≠ ls := ne_of_none l.dct hl
    refine q _ ?_ ?_
    · unfold oAft lAft
      rw [if_neg (by omega), if_neg (by omega)]
      refine levAt_sub (dx := dx) l (List.dropWhile_sublist _) ?_ upd_same fun c h1 h2 u e => ?_
      · rw [upd_ne had, upd_ne hal]; exact upd_same
      · rw [upd_ne h2, upd_ne (ne_of_none e hl), upd_ne h1]; exact e
    · have k1 : Keeps M H (upd H a (.ins t.cL dx (levF w k z.toNat d))) := Keeps.own l.ma
      have hl' : (upd H a (.ins t.cL dx (levF w k z.toNat d))) ls = none := by rw [upd_ne hal.symm]; exact hl
      exact ((k1.trans (Keeps.new (M := M) hl') fun c m => .inl m)).trans (Keeps.own (M := M) l.md) fun c m => .inl m
theorem cells_filter (p : Nat × Sq05.Sum → Bool) (L : ACells) : (cellsOf L).filter p = cellsOf (L.filter fun x => p (x.1, x.2.2)) := by
  unfold cellsOf
  rw [List.filter_map]
  rfl
theorem dropW_cells (o : Nat) (L : ACells) : cellsOf (L.dropWhile fun x => decide ((x.1 : Int) < (o : Int))) = (cellsOf L).dropWhile fun x => decide (x.1 < o) := by
  induction L with
  | nil => rfl
  | cons x r ih =>
    have e : decide ((x.1 : Int) < (o : Int)) = decide (x.1 < o) := by
      congr 1
      apply propext
      omega
    show cellsOf (List.dropWhile _ (x :: r)) = List.dropWhile _ ((x.1, x.2.2) :: cellsOf r)
    rw [List.dropWhile_cons, List.dropWhile_cons, e]
    split
    · exact ih
    · rfl
theorem aft_eq {o i k : Nat} {L : ACells} {b : Nat} (ok : LevOk o i b (cellsOf L)) (ho : o ≤ i + 1 - k) :
    oAft o ((i : Int) - k + 1) = i + 1 - k ∧ cellsOf (lAft o ((i : Int) - k + 1) L) = (cellsOf L).filter fun c => decide (i + 1 - k ≤ c.1) := by
  unfold oAft lAft
  by_cases h : (i : Int) - k + 1 ≤ o
  · have e : i + 1 - k = o := by omega
    rw [if_pos h, if_pos h, e]
    refine ⟨rfl, ?_⟩
    symm
    rw [List.filter_eq_self]
    intro x hx
    exact decide_eq_true (ok.old x hx)
  · rw [if_neg h, if_neg h]
    have e : (i : Int) - k + 1 = ((i + 1 - k : Nat) : Int) := by omega
    rw [e]
    refine ⟨rfl, ?_⟩
    rw [dropW_cells, dropWhile_filter _ ok.rise]
theorem cells_any (i : Nat) (L : ACells) : (cellsOf L).any (fun x => x.1 == i) = (L.find? fun x => x.1 == i).isSome := by
  unfold cellsOf
  rw [List.any_map, Bool.eq_iff_iff, List.any_eq_true, List.find?_isSome]
  rfl
def sp_lAdd (t : Adr) : Sp := fun vs H Q _ => ∃ (a d one dy : Addr) (w k o x b : Nat) (s : Sq05.Sum) (L : ACells) (M : Addr → Prop), vs = [.ref a, .int x, .ref one] ∧ LevAt t H M a d w k o L ∧ H one = some (.ins t.cS dy (sumV s)) ∧ ¬ M one ∧ Good s ∧
  LevOk o (x / w) b (cellsOf L) ∧ o ≤ x / w + 1 - k ∧ 1 ≤ k ∧ k ≤ 4096 ∧ (∀ c, H c = none → ¬ M c) ∧
  ∀ (H' : Hp) (M' : Addr → Prop) (L' : ACells), LevAt t H' M' a d w k (x / w + 1 - k) L' → cellsOf L' = putCell (x / w) s ((cellsOf L).filter fun c => decide (x / w + 1 - k ≤ c.1)) → Keeps M H H' → (∀ c, M' c → M c ∨ H c = none) → (∀ c, H' c = none → ¬ M' c) → Q .non H'
theorem sc_lAdd : FnScope ["self", "time", "one", "number"] ["self", "time", "one"] (defScope st_lAdd) := ⟨rfl, rfl, rfl, by decide +kernel, rfl, by decide +kernel, by decide +kernel⟩
theorem ok_lAdd (T : Txt K mg t) : FnOk P w K mg base CX0 4 t.f_lAdd t.d_lAdd ["self", "time", "one"] (sp_lAdd t) := by
  refine T.F_lAdd.ok sc_lAdd (fun vs H Q E h => ?_) (fun cdv A outer s H vs Q E hr h => ?_)
  · obtain ⟨a, d, one, dy, w, k, o, x, b, s, L, M, rfl, _⟩ := h
    rfl
  · obtain ⟨a, d, one, dy, w, k, o, x, b, sm, L, M, rfl, l, hone, hno, gs, lo, ho, hk1, hk2, hM, q⟩ := h
    have hu := hu_of hr
    have hr1 : Room 1 _ := hr.mono (by decide)
    have hr2 : Room 2 _ := hr.mono (by decide)
    refine ⟨_, pss_cons (ps_set (i := 3) sc_lAdd.nd rfl (Or.inl rfl) (pe_op op_fdivW (pv 1) (pe_fld (pv 0) rfl)))
      (pss_cons (ps_expr (pe_meth (pv 0) T.clL T.m_lDrop (ok_lDrop2 T) hr1 T.b_lDrop .nil pass0 (pa_cons (pe_op op_add (pe_op op_sub (pv 3) (pe_fld (pv 0) rfl)) pe_int) pa_nil)))
      (pss_cons (ps_if (pt_cmp (pc_dnotin hu (pv 3) (pe_fld (pv 0) rfl))) (pss_one (ps_dput hu (pe_fld (pv 0) rfl) (pv 3) (pe_make0 T.mkS (ok_sIni T) hr2 rfl T.mgS T.b_sIni .nil pass0) rfl)) pss_nil)
      (pss_one (ps_expr (pe_meth (pe_dget hu (pe_fld (pv 0) rfl) (pv 3) (fun _ _ => rfl)) T.clS T.m_sTi (ok_sTi T) hr T.b_sTi .nil pass0 (pa_cons (pv 2) pa_nil)))))), ?_⟩
    obtain ⟨dx, ha⟩ := l.ob
    have hwp := l.wp
    have hwl := l.wl
    refine ⟨_, rfl, _, rfl, a, t.cL, dx, _, _, rfl, ha, T.clL, T.nL_width, rfl, _, _, rfl, rfl, ⟨by omega, by omega⟩, ?_⟩
    have ei : (x : Int) / (w : Int) = ((x / w : Nat) : Int) := (Int.natCast_ediv _ _).symm
    refine ⟨_, rfl, a, dx, _, rfl, ha, rfl, _, rfl, _, rfl, a, t.cL, dx, _, _, rfl, ha, T.clL, T.nL_kept, rfl, _, _, rfl, rfl, _, _, rfl, rfl, a, d, w, k, o, (x : Int) / (w : Int) - k + 1, L, M, rfl, l, lo.rise, fun H1 l1 kp1 => ?_⟩
    obtain ⟨e1, e2⟩ := aft_eq lo ho
    rw [ei, e1] at l1
    generalize hL1 : lAft o ((x / w : Nat) - (k : Int) + 1) L = L1 at l1 e2
    have lo1 : LevOk (x / w + 1 - k) (x / w) b (cellsOf L1) := by rw [e2]; exact lo.filter _
    have hone1 : H1 one = some (.ins t.cS dy (sumV sm)) := kp1.kp _ _ hone hno
    have hM1 : ∀ c, H1 c = none → ¬ M c := fun c hc => hM c (kp1.dom c hc)
    obtain ⟨dx1, ha1⟩ := l1.ob
    have hlen : L1.length ≤ 4096 := by
      have := lo1.length
      unfold cellsOf at this
      rw [List.length_map] at this
      omega
    have hkl : (kvsOf L1).length < sizeLine := by
      unfold kvsOf
      rw [List.length_map]
      exact Nat.lt_of_le_of_lt hlen (by decide)
    refine ⟨_, rfl, _, rfl, a, t.cL, dx1, _, _, rfl, ha1, T.clL, T.nL_summaries, rfl, d, _, rfl, DGet.k (k := Sum.inl ((x : Int) / (w : Int))) l1.dct, _, rfl, ?_⟩
    rw [ei, val_kvs]
    cases hf : L1.find? fun y => y.1 == x / w with
    | none =>
      have hany : (cellsOf L1).any (fun y => y.1 == x / w) = false := by rw [cells_any, hf]; rfl
      refine iteT ?_
      intro y dn ny ndn nne
      refine ⟨y, dn, rfl, upd_same, ⟨rfl, ?_⟩⟩
      rw [upd_upd]
      have had : ∀ {c : Addr} {u : HO}, H1 c = some u → (upd (upd H1 dn (.own y)) y (.ins t.cS dn (sumV Sq05.empty))) c = some u := fun {c u} e => by
        rw [upd_ne (ne_of_none e ny), upd_ne (ne_of_none e ndn)]
        exact e
      generalize eH2 : upd (upd H1 dn (.own y)) y (.ins t.cS dn (sumV Sq05.empty)) = H2 at had ⊢
      have hy2 : H2 y = some (.ins t.cS dn (sumV Sq05.empty)) := by rw [← eH2]; exact upd_same
      refine ⟨_, rfl, a, t.cL, dx1, _, _, rfl, had ha1, T.clL, T.nL_summaries, rfl, _, rfl, d, _, rfl, DPut.k (k := Sum.inl ((x : Int) / (w : Int))) (had l1.dct) hkl, ?_⟩
      have hnone : valV (kvsOf L1) (Sum.inl ((x / w : Nat) : Int)) = none := by rw [val_kvs, hf]; rfl
      rw [ei, putK_new _ hnone]
      have ek : kvsOf L1 ++ [((Sum.inl ((x / w : Nat) : Int) : Key), V.ref y)] = kvsOf (L1 ++ [(x / w, y, Sq05.empty)]) := by
        unfold kvsOf
        rw [List.map_append]
        rfl
      rw [ek]
      have hdy : d ≠ y := ne_of_none l1.dct ny
      have hday : a ≠ d := ne_of ha1 l1.dct (by intro e; cases e)
      have hyo : y ≠ one := (ne_of_none hone1 ny).symm
      have hdo : one ≠ d := ne_of hone1 l1.dct (by intro e; cases e)
      have hfind : (L1 ++ [(x / w, y, Sq05.empty)]).find? (fun z => z.1 == x / w) = some (x / w, y, Sq05.empty) := by
        rw [List.find?_append, hf]
        simp
      refine ⟨_, rfl, a, t.cL, dx1, _, _, rfl, (by rw [upd_ne hday]; exact had ha1), T.clL, T.nL_summaries, rfl, _, rfl, d, V.ref y, rfl, ?_, y, dn, _, rfl, (by rw [upd_ne hdy.symm]; exact hy2), rfl, _, rfl, y, one, dn, dy, Sq05.empty, sm, rfl, (by rw [upd_ne hdy.symm]; exact hy2), (by rw [upd_ne hdo]; exact had hone1), hyo, good_empty, gs, ?_⟩
      · have := DGet.k (k := Sum.inl ((x / w : Nat) : Int)) (upd_same (H := H2) (a := d) (o := .dK (kvsOf (L1 ++ [(x / w, y, Sq05.empty)]))))
        rw [val_kvs, hfind] at this
        exact this
      · rw [join_empty_left]
        have hM' : ∀ z ∈ L1, z.2.1 ≠ y := fun z hz => by
          obtain ⟨dz, ez⟩ := l1.sums z hz
          exact ne_of_none ez ny
        have hdz : ∀ z ∈ L1, z.2.1 ≠ d := fun z hz => by
          obtain ⟨dz, ez⟩ := l1.sums z hz
          exact ne_of ez l1.dct (by intro e; cases e)
        refine q _ (fun c => M c ∨ c = y) (L1 ++ [(x / w, y, sm)]) ⟨⟨dx1, ?_⟩, ?_, fun z hz => ?_, ?_, .inl l1.ma, .inl l1.md, fun z hz => ?_, l1.wp, l1.wl⟩ ?_ ⟨fun c u e hn => ?_, fun c e => ?_⟩ (fun c hc => ?_) fun c hc => ?_
        · rw [upd_ne (ne_of_none ha1 ny), upd_ne hday]; exact had ha1
        · rw [upd_ne hdy, upd_same]
          unfold kvsOf
          rw [List.map_append, List.map_append]
          rfl
        · rcases List.mem_append.mp hz with hz | hz
          · obtain ⟨dz, ez⟩ := l1.sums z hz
            exact ⟨dz, by rw [upd_ne (hM' z hz), upd_ne (hdz z hz)]; exact had ez⟩
          · rw [List.mem_singleton.mp hz]
            exact ⟨dn, upd_same⟩
        · rw [List.map_append]
          refine List.nodup_append.mpr ⟨l1.nd, by simp, fun p hp r hr => ?_⟩
          obtain ⟨z, hz, rfl⟩ := List.mem_map.mp hp
          rw [List.mem_singleton.mp hr]
          exact hM' z hz
        · rcases List.mem_append.mp hz with hz | hz
          · exact .inl (l1.ms z hz)
          · rw [List.mem_singleton.mp hz]
            exact .inr rfl
        · rw [← e2]
          unfold putCell
          rw [hany, if_neg (by simp)]
          unfold cellsOf
          rw [List.map_append]
          rfl
        · have e1 := kp1.kp c u e hn
          rw [upd_ne (ne_of_none e1 ny), upd_ne (show c ≠ d from fun z => hn (z.symm ▸ l1.md))]
          exact had e1
        · refine kp1.dom c ?_
          have h1 : c ≠ y := fun z => by rw [z, upd_same] at e; cases e
          have h2 : c ≠ d := fun z => by rw [upd_ne h1, z, upd_same] at e; cases e
          rw [upd_ne h1, upd_ne h2, ← eH2, upd_ne h1] at e
          by_cases h3 : c = dn
          · rw [h3]; exact ndn
          · rw [upd_ne h3] at e; exact e
        · rcases hc with hc | rfl
          · exact .inl hc
          · exact .inr (kp1.dom _ ny)
        · have h1 : c ≠ y := fun z => by rw [z, upd_same] at hc; cases hc
          have h2 : c ≠ d := fun z => by rw [upd_ne h1, z, upd_same] at hc; cases hc
          rw [upd_ne h1, upd_ne h2, ← eH2, upd_ne h1] at hc
          have h3 : H1 c = none := by
            by_cases h3 : c = dn
            · rw [h3]; exact ndn
            · rw [upd_ne h3] at hc; exact hc
          intro hm
          rcases hm with hm | hm
          · exact hM1 c h3 hm
          · exact h1 hm
    | some y =>
      have hmem := List.mem_of_find?_eq_some hf
      have hyi : y.1 = x / w := by simpa using List.find?_some hf
      have hany : (cellsOf L1).any (fun y => y.1 == x / w) = true := by rw [cells_any, hf]; rfl
      refine iteF ?_
      obtain ⟨dz, ez⟩ := l1.sums y hmem
      have hyo : y.2.1 ≠ one := fun e => hno (e ▸ l1.ms y hmem)
      have gy : Good y.2.2 := lo1.good (y.1, y.2.2) (List.mem_map.mpr ⟨y, hmem, rfl⟩)
      refine ⟨_, rfl, a, t.cL, dx1, _, _, rfl, ha1, T.clL, T.nL_summaries, rfl, _, rfl, d, V.ref y.2.1, rfl, ?_, y.2.1, dz, _, rfl, ez, rfl, _, rfl, y.2.1, one, dz, dy, y.2.2, sm, rfl, ez, hone1, hyo, gy, gs, ?_⟩
      · have := DGet.k (k := Sum.inl ((x / w : Nat) : Int)) l1.dct
        rw [val_kvs, hf] at this
        exact this
      · have hay : a ≠ y.2.1 := fun e => by
          rw [← e, ha1] at ez
          have e3 := congrArg (fun o => match o with | some (HO.ins _ _ fs) => fs.length | _ => 0) ez
          exact absurd e3 (by show ¬ (4 = 10); decide)
        have hdy : d ≠ y.2.1 := (ne_of ez l1.dct (by intro e; cases e)).symm
        have hinj : ∀ z ∈ L1, z.2.1 = y.2.1 → z = y := fun z hz e => by
          obtain ⟨i, hi⟩ := List.getElem?_of_mem hz
          obtain ⟨j, hj⟩ := List.getElem?_of_mem hmem
          have hi' : (L1.map (·.2.1))[i]? = some y.2.1 := by rw [List.getElem?_map, hi]; exact congrArg some e
          have hj' : (L1.map (·.2.1))[j]? = some y.2.1 := by rw [List.getElem?_map, hj]; rfl
          have := nd_ix l1.nd hi' hj'
          subst this
          rw [hi] at hj
          exact Option.some.inj hj
        have huniq : ∀ z ∈ L1, z.1 = x / w → z = y := fun z hz e => by
          by_cases h : z = y
          · exact h
          · exfalso
            obtain ⟨i, hi⟩ := List.getElem?_of_mem hz
            obtain ⟨j, hj⟩ := List.getElem?_of_mem hmem
            obtain ⟨hi1, hi2⟩ := List.getElem?_eq_some_iff.mp hi
            obtain ⟨hj1, hj2⟩ := List.getElem?_eq_some_iff.mp hj
            have hne : i ≠ j := fun e => by subst e; rw [hi2] at hj2; exact h hj2
            have R := lo1.rise
            unfold Rising cellsOf at R
            rw [List.pairwise_map, List.pairwise_iff_getElem] at R
            rcases Nat.lt_or_gt_of_ne hne with hlt | hlt
            · have := R i j hi1 hj1 hlt
              rw [hi2, hj2] at this
              omega
            · have := R j i hj1 hi1 hlt
              rw [hi2, hj2] at this
              omega
        have emap : ∀ z : Nat × Addr × Sq05.Sum, (if z.1 = x / w then (z.1, z.2.1, Sq05.join z.2.2 sm) else z).2.1 = z.2.1 := fun z => by split <;> rfl
        have emap1 : ∀ z : Nat × Addr × Sq05.Sum, (if z.1 = x / w then (z.1, z.2.1, Sq05.join z.2.2 sm) else z).1 = z.1 := fun z => by split <;> rfl
        refine q _ M (L1.map fun z => if z.1 = x / w then (z.1, z.2.1, Sq05.join z.2.2 sm) else z) ⟨⟨dx1, ?_⟩, ?_, fun z hz => ?_, ?_, l1.ma, l1.md, fun z hz => ?_, l1.wp, l1.wl⟩ ?_ (kp1.trans (Keeps.own (M := M) (l1.ms y hmem)) fun c m => .inl m) (fun c hc => .inl hc) fun c hc => ?_
        · rw [upd_ne hay]; exact ha1
        · rw [upd_ne hdy, l1.dct]
          unfold kvsOf
          rw [List.map_map]
          congr 2
          apply List.map_congr_left
          intro z _
          show _ = ((Sum.inl ((if z.1 = x / w then (z.1, z.2.1, Sq05.join z.2.2 sm) else z).1 : Int) : Key), V.ref (if z.1 = x / w then (z.1, z.2.1, Sq05.join z.2.2 sm) else z).2.1)
          rw [emap, emap1]
        · obtain ⟨z', hz', rfl⟩ := List.mem_map.mp hz
          by_cases h : z'.1 = x / w
          · have e := huniq z' hz' h
            subst e
            rw [if_pos h]
            exact ⟨dz, upd_same⟩
          · rw [if_neg h]
            obtain ⟨du, eu⟩ := l1.sums z' hz'
            refine ⟨du, ?_⟩
            rw [upd_ne fun e => h (by rw [hinj z' hz' e]; exact hyi)]
            exact eu
        · rw [List.map_map]
          have : (L1.map ((fun z : Nat × Addr × Sq05.Sum => z.2.1) ∘ fun z => if z.1 = x / w then (z.1, z.2.1, Sq05.join z.2.2 sm) else z)) = L1.map (·.2.1) := List.map_congr_left fun z _ => emap z
          rw [this]
          exact l1.nd
        · obtain ⟨z', hz', rfl⟩ := List.mem_map.mp hz
          rw [emap]
          exact l1.ms z' hz'
        · rw [← e2]
          unfold putCell
          rw [hany, if_pos rfl]
          unfold cellsOf
          rw [List.map_map, List.map_map]
          apply List.map_congr_left
          intro z _
          show ((if z.1 = x / w then (z.1, z.2.1, Sq05.join z.2.2 sm) else z).1, (if z.1 = x / w then (z.1, z.2.1, Sq05.join z.2.2 sm) else z).2.2) = if z.1 = x / w then (z.1, Sq05.join z.2.2 sm) else (z.1, z.2.2)
          split <;> rfl
        · have h1 : c ≠ y.2.1 := fun z => by rw [z, upd_same] at hc; cases hc
          rw [upd_ne h1] at hc
          exact hM1 c hc
end
end TC
namespace TC
open PySem L2
theorem lc_keys {d : Addr} {o : Obj} {kvs : List (Key × V)} {g : TG} {tt : TT} {te : TE} {vs : List Nat} {σ : L2.St} {H1 : Hp} {D : Addr} {Qd : Hp → Prop} (Pv : Nat → Hp → Prop) (h0 : Pv 0 (upd H1 D (.lst []))) (hl : ∀ i H, i ≤ kvs.length → Pv i H → H d = some (.frz o (.dK kvs)))
    (hs : ∀ i k v H, kvs[i]? = some (k, v) → Pv i H → g (kV k) (wipe σ vs) H fun σ2 H2 => wipe σ2 vs = wipe σ vs ∧ tt σ2 H2 fun b H3 =>
      if b = true then te σ2 H3 fun y H4 => ∃ acc, H4 D = some (.lst acc) ∧ acc.length < sizeLine ∧ Pv (i + 1) (upd H4 D (.lst (acc ++ [y]))) else Pv (i + 1) H3) (hd : ∀ H, Pv kvs.length H → Qd H) :
    ∃ W : Nat → Nat → Hp → Prop, (∃ m, W 0 m (upd H1 D (.lst []))) ∧ ∀ i m H, W i m H →
      ((Itk d o kvs).stop i H ∧ Qd H) ∨ ((Itk d o kvs).go i H ∧ ∃ Nx : Hp → Prop, (∀ H', Nx H' → ∃ m', m' < m ∧ W (i + 1) m' H') ∧ ∀ x H', (Itk d o kvs).yld i H x H' → g x (wipe σ vs) H' fun σ2 H2 => wipe σ2 vs = wipe σ vs ∧ tt σ2 H2 fun b H3 =>
        if b = true then te σ2 H3 fun y H4 => ∃ acc, H4 D = some (.lst acc) ∧ acc.length < sizeLine ∧ Nx (upd H4 D (.lst (acc ++ [y]))) else Nx H3) := by
  refine ⟨fun i m H => m = kvs.length - i ∧ i ≤ kvs.length ∧ Pv i H, ⟨kvs.length, by simp, Nat.zero_le _, h0⟩, ?_⟩
  rintro i m H ⟨rfl, hi, p⟩
  have q := hl i H hi p
  by_cases hlt : i < kvs.length
  · refine .inr ⟨⟨q, hlt⟩, Pv (i + 1), fun H' p' => ⟨kvs.length - (i + 1), by omega, rfl, hlt, p'⟩, fun x H' y => ?_⟩
    obtain ⟨e, k, v, hk, rfl⟩ := y
    subst e
    exact hs i k v _ hk p
  · have e : i = kvs.length := by omega
    subst e
    exact .inl ⟨⟨q, Nat.le_refl _⟩, hd H p⟩
theorem fm_take {α β : Type} {p : α → Bool} {f : α → β} {xs : List α} {i : Nat} {x : α} (h : xs[i]? = some x) : ((xs.take (i + 1)).filter p).map f = ((xs.take i).filter p).map f ++ (if p x = true then [f x] else []) := by
  obtain ⟨hlt, e⟩ := List.getElem?_eq_some_iff.mp h
  rw [List.take_succ_eq_append_getElem hlt, List.filter_append, List.map_append, e, List.filter_cons]
  split <;> rfl
theorem fm_len {α β : Type} {p : α → Bool} {f : α → β} {xs : List α} {i : Nat} : (((xs.take i).filter p).map f).length ≤ i := by
  rw [List.length_map]
  exact Nat.le_trans (List.length_filter_le _ _) (by rw [List.length_take]; omega)
abbrev Ext : Hp → Hp → Prop := Keeps fun _ => False
theorem Keeps.same {H H' : Hp} (k : Ext H H') {c : Addr} {o : HO} (h : H c = some o) : H' c = some o := k.kp c o h fun f => f
theorem Ext.trans {H H1 H2 : Hp} (a : Ext H H1) (b : Ext H1 H2) : Ext H H2 := Keeps.trans a b fun _ f => f.elim
theorem Ext.mono {H H1 : Hp} {M : Addr → Prop} (a : Ext H H1) : Keeps M H H1 := Keeps.mono a fun _ f => f.elim
theorem upd_back {H : Hp} {d : Addr} {u v : HO} (h : H d = some u) : upd (upd H d v) d u = H := by
  rw [upd_upd]
  funext c
  by_cases hc : c = d
  · rw [hc, upd_same, h]
  · rw [upd_ne hc]
theorem upd_comm {H : Hp} {a b : Addr} {u v : HO} (h : a ≠ b) : upd (upd H a u) b v = upd (upd H b v) a u := by
  funext c
  by_cases h1 : c = a
  · subst h1
    rw [upd_ne h, upd_same, upd_same]
  · by_cases h2 : c = b
    · subst h2
      rw [upd_same, upd_ne h1, upd_same]
    · rw [upd_ne h2, upd_ne h1, upd_ne h1, upd_ne h2]
def inR (n m : Nat) (x : Nat × Addr × Sq05.Sum) : Bool := decide (n ≤ x.1) && decide (x.1 < n + m)
section
variable {P : Program} {w : World} {K : PySem.W.Frag} {mg : Str → Option Value} {base : Heap} {t : Adr}
def sp_lNum (t : Adr) : Sp := fun vs H Q _ => ∃ (a d dx : Addr) (w k o n m : Nat) (L : ACells), vs = [.ref a, .int n, .int m] ∧ H a = some (.ins t.cL dx (levF w k o d)) ∧ H d = some (.dK (kvsOf L)) ∧ L.length ≤ 5000 ∧
  ∀ (p : Addr) (H' : Hp), H' p = some (.lst (((L.filter fun x => decide (n ≤ x.1)).take m).map fun x => V.int (x.1 : Int))) → H p = none → Ext H H' → Q (.ref p) H'
theorem sc_lNum : FnScope ["self", "number", "most", "n"] ["self", "number", "most"] (defScope st_lNum) := ⟨rfl, rfl, rfl, by decide +kernel, rfl, by decide +kernel, by decide +kernel⟩
theorem ok_lNum (T : Txt K mg t) : FnOk P w K mg base CX0 1 t.f_lNum t.d_lNum ["self", "number", "most"] (sp_lNum t) := by
  refine T.F_lNum.ok sc_lNum (fun vs H Q E h => ?_) (fun cdv A outer s H vs Q E hr h => ?_)
  · obtain ⟨a, d, dx, w, k, o, n, m, L, rfl, _⟩ := h
    rfl
  · obtain ⟨a, d, dx, w, k, o, n, m, L, rfl, ha, hd, hlen, q⟩ := h
    refine ⟨_, pss_one (ps_ret (pe_slice sl_list (pe_lock (pe_lc (own := [("n", 3)]) rfl sc_lNum.nd (pi_keys (pe_fld (pv 0) rfl)) (blkOk_by (by kernel_rfl)) (fun _ _ _ _ _ => pg_name (i := 3) sc_lNum.nd rfl (Or.inl rfl))
      (fun _ _ _ _ _ => pts_one (pt_cmpR op_ge (pv 3) (pv 1) (nomark _))) (fun _ _ _ _ _ => pv 3))) po_none (po_some (pv 2)))), ?_⟩
    have had : a ≠ d := ne_of ha hd (by intro e; cases e)
    refine ⟨d, _, hd, trivial, fun od => ?_⟩
    refine ⟨_, rfl, a, t.cL, dx, _, _, rfl, (by rw [upd_ne had]; exact ha), T.clL, T.nL_summaries, rfl, d, od, rfl, .inl ⟨_, upd_same, fun D hD => ?_⟩⟩
    have hDd : D ≠ d := fun e => by rw [e, upd_same] at hD; cases hD
    have hD0 : H D = none := by rw [upd_ne hDd] at hD; exact hD
    have hkl : (kvsOf L).length = L.length := by unfold kvsOf; rw [List.length_map]
    refine lc_keys (fun i H' => H' = upd (upd H d (.frz od (.dK (kvsOf L)))) D (.lst (((L.take i).filter fun x => decide (n ≤ x.1)).map fun x => V.int (x.1 : Int)))) rfl (fun i H' _ e => by rw [e, upd_ne hDd.symm]; exact upd_same) (fun i k v H' hk e => ?_) fun H' e => ?_
    · subst e
      obtain ⟨x, hx, rfl, rfl⟩ : ∃ x, L[i]? = some x ∧ k = Sum.inl (x.1 : Int) ∧ v = V.ref x.2.1 := by
        unfold kvsOf at hk
        rw [List.getElem?_map] at hk
        cases e : L[i]? with
        | none => rw [e] at hk; cases hk
        | some x =>
          rw [e] at hk
          cases hk
          exact ⟨x, rfl, rfl, rfl⟩
      have hil : i < L.length := (List.getElem?_eq_some_iff.mp hx).1
      refine ⟨rfl, _, rfl, _, rfl, _, _, rfl, rfl, _, rfl, ite2 (fun hc => ?_) fun hc => ?_⟩
      · have hc' : (n : Int) ≤ (x.1 : Int) := of_decide_eq_true hc
        refine ⟨_, rfl, _, upd_same, ?_, ?_⟩
        · exact Nat.lt_of_le_of_lt fm_len (Nat.lt_of_lt_of_le hil (Nat.le_trans hlen (by decide)))
        · rw [upd_upd, fm_take hx, if_pos (decide_eq_true (by omega))]
          rfl
      · have hc' : ¬ ((n : Int) ≤ (x.1 : Int)) := fun e => hc (decide_eq_true e)
        rw [fm_take hx, if_neg (by simp; omega), List.append_nil]
    · subst e
      rw [hkl, List.take_length]
      refine ⟨by rw [upd_ne hDd.symm]; exact upd_same, ?_⟩
      rw [upd_comm (Ne.symm hDd).symm, upd_back hd]
      refine ⟨_, rfl, _, rfl, D, _, rfl, .inl (.inl upd_same), fun p hp => ?_⟩
      have hpD : p ≠ D := fun e => by rw [e, upd_same] at hp; cases hp
      have hp0 : H p = none := by rw [upd_ne hpD] at hp; exact hp
      refine q p _ ?_ hp0 (Ext.trans (Keeps.new hD0) (Keeps.new hp))
      rw [upd_same]
      congr 2
      unfold cutV
      have e0 : HT.sIx (((L.filter fun x => decide (n ≤ x.1)).map fun x => V.int (x.1 : Int))).length 0 none = 0 := rfl
      rw [e0, HT.sIx_nat, List.drop_zero, Nat.sub_zero, List.map_take]
      rw [List.length_map]
      rw [← List.take_take, List.take_of_length_le (l := ((L.filter fun x => decide (n ≤ x.1)).map fun x => V.int (x.1 : Int))) (by rw [List.length_map]; exact Nat.le_refl _)]
end
end TC
namespace TC
open PySem L2
theorem pe_fldK (K : PySem.W.Frag) {X : Cx} {e : Expr} {ta : TE} {f : Str} {pos : Pos} (hK : X.K = K) (he : PE X e ta) (hb : attributeBase e f X.env (eval e X.env) = eval e X.env := by rfl) : PE X (.Attribute e f pos) (tFld K ta f) := by
  subst hK
  exact pe_fld he hb
theorem filt_within (n m : Nat) (L : ACells) : cellsOf (L.filter (inR n m)) = within n m (cellsOf L) := by
  unfold within
  rw [cells_filter]
  rfl
theorem find_in {L : ACells} (h : Rising (cellsOf L)) {x : Nat × Addr × Sq05.Sum} (hx : x ∈ L) : L.find? (fun y => y.1 == x.1) = some x := by
  induction L with
  | nil => simp at hx
  | cons y r ih =>
    rw [List.find?_cons]
    rcases List.mem_cons.mp hx with rfl | hx
    · simp
    · have := rising_keys h x hx
      rw [show (y.1 == x.1) = false by simp; omega]
      exact ih (by have := rising_drop h 1; exact this) hx
section
variable {P : Program} {w : World} {K : PySem.W.Frag} {mg : Str → Option Value} {base : Heap} {t : Adr}
def sp_lFrom (t : Adr) : Sp := fun vs H Q _ => ∃ (a d dx : Addr) (w k o n m : Nat) (L : ACells), vs = [.ref a, .int n, .int m] ∧ H a = some (.ins t.cL dx (levF w k o d)) ∧ H d = some (.dK (kvsOf L)) ∧ L.length ≤ 5000 ∧ Rising (cellsOf L) ∧ n + m ≤ 2 ^ 62 ∧
  ∀ (p : Addr) (H' : Hp), H' p = some (.lst ((L.filter (inR n m)).map fun x => V.ref x.2.1)) → H p = none → Ext H H' → Q (.ref p) H'
theorem sc_lFrom : FnScope ["self", "number", "many", "numbers", "n"] ["self", "number", "many"] (defScope st_lFrom) := ⟨rfl, rfl, rfl, by decide +kernel, rfl, by decide +kernel, by decide +kernel⟩
theorem ok_lFrom (T : Txt K mg t) : FnOk P w K mg base CX0 1 t.f_lFrom t.d_lFrom ["self", "number", "many"] (sp_lFrom t) := by
  refine T.F_lFrom.ok sc_lFrom (fun vs H Q E h => ?_) (fun cdv A outer s H vs Q E hr h => ?_)
  · obtain ⟨a, d, dx, w, k, o, n, m, L, rfl, _⟩ := h
    rfl
  · obtain ⟨a, d, dx, w, k, o, n, m, L, rfl, ha, hd, hlen, hR, hnm, q⟩ := h
    have hu := hu_of hr
    have had : a ≠ d := ne_of ha hd (by intro e; cases e)
    have hkl : (kvsOf L).length = L.length := by unfold kvsOf; rw [List.length_map]
    have hS5 : (5000 : Nat) ≤ sizeLine := by decide
    refine ⟨_, pss_cons (ps_if (pt_cmpR op_lt (pv 2) (pe_callB call_lenD rfl T.b_len PySem.boot_len (pa_cons (pe_fld (pv 0) rfl) pa_nil)) (nomark _))
      (pss_one (ps_setLc (i := 3) (own := [("n", 4)]) rfl sc_lFrom.nd rfl rfl (sw_true rfl rfl rfl rfl) (pi_rangeW rfl T.b_range (pa_cons (pv 1) (pa_cons (pe_op op_add (pv 1) (pv 2)) pa_nil))) (blkOk_by (by kernel_rfl)) (fun _ _ _ _ _ => pg_name (i := 4) sc_lFrom.nd rfl (Or.inl rfl))
        (fun _ _ _ _ _ => pts_one (pt_cmp (pc_din hu (pv 4) (pe_fldK K rfl (pv 0))))) (fun _ _ _ _ _ => pv 4)))
      (pss_one (ps_lock (ps_setLc (i := 3) (own := [("n", 4)]) rfl sc_lFrom.nd rfl rfl (sw_true rfl rfl rfl rfl) (pi_keys (pe_fld (pv 0) rfl)) (blkOk_by (by kernel_rfl)) (fun _ _ _ _ _ => pg_name (i := 4) sc_lFrom.nd rfl (Or.inl rfl))
        (fun _ _ _ _ _ => pts_one (pt_chain op_le op_lt (pv 1) (pv 4) (pe_op op_add (pv 1) (pv 2)))) (fun _ _ _ _ _ => pv 4)))))
      (pss_one (ps_ret (pe_lc (own := [("n", 4)]) rfl sc_lFrom.nd (pi_list (pv 3)) (blkOk_by (by kernel_rfl)) (fun _ _ _ _ _ => pg_name (i := 4) sc_lFrom.nd rfl (Or.inl rfl)) (fun _ _ _ _ _ => pts_nil)
        (fun _ _ _ _ _ => pe_dget hu (pe_fldK K rfl (pv 0)) (pv 4) (fun _ _ => rfl))))), ?_⟩
    have key : ∀ D, H D = none → tRet (tLc (iList K (tVar 3)) (gName 4) tYes (tDGet (tFld K (tVar 0) "summaries") (tVar 4)) [4]) { nx := fun _ H' => Q .non H', rt := Q }
        [some (.ref a), some (.int n), some (.int m), some (.ref D), none] (upd H D (.lst ((L.filter (inR n m)).map fun x => V.int (x.1 : Int)))) := fun D hD => by
      have haD : a ≠ D := ne_of_none ha hD
      have hdD : d ≠ D := ne_of_none hd hD
      refine ⟨_, rfl, D, rfl, ⟨_, .inl (.inl upd_same)⟩, fun R hRn => ?_⟩
      have hRD : R ≠ D := fun e => by rw [e, upd_same] at hRn; cases hRn
      have hR0 : H R = none := by rw [upd_ne hRD] at hRn; exact hRn
      have haR : a ≠ R := ne_of_none ha hR0
      have hdR : d ≠ R := ne_of_none hd hR0
      have hfl : (L.filter (inR n m)).length ≤ 5000 := Nat.le_trans (List.length_filter_le _ _) hlen
      refine lc_list (K := K) (a := D) (xs := (L.filter (inR n m)).map fun x => V.int (x.1 : Int))
        (fun i H' => H' = upd (upd H D (.lst ((L.filter (inR n m)).map fun x => V.int (x.1 : Int)))) R (.lst (((L.filter (inR n m)).take i).map fun x => V.ref x.2.1)))
        rfl (fun i H' _ e => by rw [e]; exact .inl (.inl (by rw [upd_ne hRD.symm]; exact upd_same))) (fun i y H' hi e => ?_) fun H' e => ?_
      · subst e
        rw [List.getElem?_map] at hi
        obtain ⟨x, hx, rfl⟩ : ∃ x, (L.filter (inR n m))[i]? = some x ∧ y = V.int (x.1 : Int) := by
          cases e : (L.filter (inR n m))[i]? with
          | none => rw [e] at hi; cases hi
          | some x => rw [e] at hi; exact ⟨x, rfl, (Option.some.inj hi).symm⟩
        have hil := (List.getElem?_eq_some_iff.mp hx).1
        have hxL : x ∈ L := (List.mem_filter.mp (List.mem_of_getElem? hx)).1
        refine ⟨rfl, ?_⟩
        refine ⟨_, rfl, a, t.cL, dx, _, _, rfl, (by rw [upd_ne haR, upd_ne haD]; exact ha), T.clL, T.nL_summaries, rfl, _, rfl, d, V.ref x.2.1, rfl, ?_, _, upd_same, ?_, ?_⟩
        · have g := DGet.k (k := Sum.inl (x.1 : Int)) (show (upd (upd H D (.lst ((L.filter (inR n m)).map fun x => V.int (x.1 : Int)))) R (.lst (((L.filter (inR n m)).take i).map fun x => V.ref x.2.1))) d = some (.dK (kvsOf L)) by rw [upd_ne hdR, upd_ne hdD]; exact hd)
          rw [val_kvs, find_in hR hxL] at g
          exact g
        · rw [List.length_map, List.length_take]
          exact Nat.lt_of_lt_of_le (Nat.lt_of_le_of_lt (Nat.min_le_left _ _) hil) (Nat.le_trans hfl hS5)
        · rw [upd_upd, List.take_succ_eq_append_getElem hil, List.map_append, (List.getElem?_eq_some_iff.mp hx).2]
          rfl
      · subst e
        rw [List.length_map, List.take_length]
        refine q R _ upd_same hR0 (Ext.trans (Keeps.new hD) (Keeps.new hRn))
    refine ⟨_, rfl, _, rfl, a, t.cL, dx, _, _, rfl, ha, T.clL, T.nL_summaries, rfl, d, _, rfl, hd, _, _, rfl, rfl, _, rfl, ite2 (fun hc => ?_) fun hc => ?_⟩
    · -- by the stretch
      have hc' : (m : Int) < ((kvsOf L).length : Int) := of_decide_eq_true hc
      rw [hkl] at hc'
      refine ⟨_, rfl, _, rfl, _, rfl, _, _, rfl, rfl, (n : Int), (n : Int) + (m : Int), rfl, ⟨by omega, by omega, by omega, by omega⟩, fun D hD => ?_⟩
      have haD : a ≠ D := ne_of_none ha hD
      have hdD : d ≠ D := ne_of_none hd hD
      have hmm : ((n : Int) + (m : Int) - (n : Int)).toNat = m := by omega
      rw [hmm]
      refine lc_range (fun i H' => H' = upd H D (.lst ((((List.range i).map (fun c => n + c)).filter fun j => (cellsOf L).any fun x => x.1 == j).map fun j : Nat => V.int (j : Int)))) rfl (fun i H' hi e => ?_) fun H' e => ?_
      · subst e
        refine ⟨rfl, _, rfl, _, rfl, a, t.cL, dx, _, _, rfl, (by rw [upd_ne haD]; exact ha), T.clL, T.nL_summaries, rfl, d, _, rfl, DGet.k (k := Sum.inl ((n : Int) + (i : Int))) (by rw [upd_ne hdD]; exact hd), _, rfl, ?_⟩
        have e1 : (n : Int) + (i : Int) = ((n + i : Nat) : Int) := by omega
        rw [e1, val_kvs, Option.isSome_map, ← cells_any]
        have e2 : ((List.range (i + 1)).map (fun c => n + c)).filter (fun j => (cellsOf L).any fun x => x.1 == j) = ((List.range i).map (fun c => n + c)).filter (fun j => (cellsOf L).any fun x => x.1 == j) ++ (if ((cellsOf L).any fun x => x.1 == n + i) = true then [n + i] else []) := by
          rw [List.range_succ, List.map_append, List.filter_append]
          congr 1
          show List.filter _ [n + i] = _
          rw [List.filter_cons]
          split <;> rfl
        refine ite2 (fun h => ?_) fun h => ?_
        · refine ⟨_, rfl, _, upd_same, ?_, ?_⟩
          · rw [List.length_map]
            refine Nat.lt_of_le_of_lt (List.length_filter_le _ _) ?_
            rw [List.length_map, List.length_range]
            exact Nat.lt_of_lt_of_le (by omega) hS5
          · rw [upd_upd, e2, if_pos h, List.map_append]
            rfl
        · rw [e2, if_neg h, List.append_nil]
      · subst e
        rw [nums_run hR, ← filt_within]
        have e3 : ((cellsOf (L.filter (inR n m))).map (·.1)).map (fun j : Nat => V.int (j : Int)) = (L.filter (inR n m)).map fun x => V.int (x.1 : Int) := by
          unfold cellsOf
          rw [List.map_map, List.map_map]
          rfl
        rw [e3]
        exact key D hD
    · -- by the cells
      refine ⟨d, _, hd, trivial, fun od => ?_⟩
      refine ⟨_, rfl, a, t.cL, dx, _, _, rfl, (by rw [upd_ne had]; exact ha), T.clL, T.nL_summaries, rfl, d, od, rfl, .inl ⟨_, upd_same, fun D hD => ?_⟩⟩
      have hDd : D ≠ d := fun e => by rw [e, upd_same] at hD; cases hD
      have hD0 : H D = none := by rw [upd_ne hDd] at hD; exact hD
      refine lc_keys (fun i H' => H' = upd (upd H d (.frz od (.dK (kvsOf L)))) D (.lst (((L.take i).filter (inR n m)).map fun x => V.int (x.1 : Int)))) rfl (fun i H' _ e => by rw [e, upd_ne hDd.symm]; exact upd_same) (fun i k v H' hk e => ?_) fun H' e => ?_
      · subst e
        obtain ⟨x, hx, rfl, rfl⟩ : ∃ x, L[i]? = some x ∧ k = Sum.inl (x.1 : Int) ∧ v = V.ref x.2.1 := by
          unfold kvsOf at hk
          rw [List.getElem?_map] at hk
          cases e : L[i]? with
          | none => rw [e] at hk; cases hk
          | some x =>
            rw [e] at hk
            cases hk
            exact ⟨x, rfl, rfl, rfl⟩
        have hil : i < L.length := (List.getElem?_eq_some_iff.mp hx).1
        refine ⟨rfl, _, rfl, _, rfl, _, _, rfl, rfl, _, rfl, ite2 (fun hc1 => ?_) fun hc1 => ?_⟩
        · have h1 : (n : Int) ≤ (x.1 : Int) := of_decide_eq_true hc1
          refine ⟨_, rfl, _, rfl, _, _, rfl, rfl, _, _, rfl, rfl, _, rfl, ite2 (fun hc2 => ?_) fun hc2 => ?_⟩
          · have h2 : (x.1 : Int) < (n : Int) + (m : Int) := of_decide_eq_true hc2
            refine ⟨_, rfl, _, upd_same, ?_, ?_⟩
            · exact Nat.lt_of_le_of_lt fm_len (Nat.lt_of_lt_of_le hil (Nat.le_trans hlen (by decide)))
            · rw [upd_upd, fm_take hx, if_pos (by unfold inR; simp; omega)]
              rfl
          · have h2 : ¬ ((x.1 : Int) < (n : Int) + (m : Int)) := fun e => hc2 (decide_eq_true e)
            rw [fm_take hx, if_neg (by unfold inR; simp; omega), List.append_nil]
        · have h1 : ¬ ((n : Int) ≤ (x.1 : Int)) := fun e => hc1 (decide_eq_true e)
          refine ⟨_, rfl, iteF ?_⟩
          rw [fm_take hx, if_neg (by unfold inR; simp; omega), List.append_nil]
      · subst e
        rw [hkl, List.take_length]
        refine ⟨by rw [upd_ne hDd.symm]; exact upd_same, ?_⟩
        rw [upd_comm (Ne.symm hDd).symm, upd_back hd]
        exact key D hD0
end
end TC
namespace TC
open PySem L2
structure LvD where
  a : Addr
  d : Addr
  w : Nat
  k : Nat
  o : Nat
  L : ACells
structure LvR (t : Adr) (H : Hp) (v : LvD) : Prop where
  ob : ∃ dx, H v.a = some (.ins t.cL dx (levF v.w v.k v.o v.d))
  dct : H v.d = some (.dK (kvsOf v.L))
  wp : 0 < v.w
  wl : v.w < 2 ^ 60
theorem LvR.ext {t : Adr} {H H' : Hp} {v : LvD} (h : LvR t H v) (e : Ext H H') : LvR t H' v := ⟨let ⟨dx, q⟩ := h.ob; ⟨dx, e.same q⟩, e.same h.dct, h.wp, h.wl⟩
def runF (lv : Addr) (n m : Int) : List (Str × V) := [("level", .ref lv), ("number", .int n), ("many", .int m)]
section
variable {P : Program} {w : World} {K : PySem.W.Frag} {mg : Str → Option Value} {base : Heap} {t : Adr}
def sp_rIni (t : Adr) : Sp := fun vs H Q _ => ∃ (p dx lv : Addr) (n m : Int), vs = [.ref p, .ref lv, .int n, .int m] ∧ H p = some (.ins t.cR dx []) ∧ Q .non (upd H p (.ins t.cR dx (runF lv n m)))
theorem sc_rIni : FnScope ["self", "level", "number", "many"] ["self", "level", "number", "many"] (defScope st_rIni) := ⟨rfl, rfl, rfl, by decide +kernel, rfl, by decide +kernel, by decide +kernel⟩
theorem ok_rIni (T : Txt K mg t) : FnOk P w K mg base CX0 1 t.f_rIni t.d_rIni ["self", "level", "number", "many"] (sp_rIni t) := by
  refine T.F_rIni.ok sc_rIni (fun vs H Q E h => ?_) (fun cdv A outer s H vs Q E hr h => ?_)
  · obtain ⟨p, dx, lv, n, m, rfl, _⟩ := h
    rfl
  · obtain ⟨p, dx, lv, n, m, rfl, hp, q⟩ := h
    refine ⟨_, pss_cons (ps_fld (pv 0) (pv 1) rfl) (pss_cons (ps_fld (pv 0) (pv 2) rfl) (pss_one (ps_fld (pv 0) (pv 3) rfl))), ?_⟩
    refine ⟨_, rfl, _, rfl, p, t.cR, dx, [], rfl, hp, T.clR, T.nR_level, (by show 0 < 1000; decide), ?_⟩
    refine ⟨_, rfl, _, rfl, p, t.cR, dx, _, rfl, upd_same, T.clR, T.nR_number, (by show 1 < 1000; decide), ?_⟩
    refine ⟨_, rfl, _, rfl, p, t.cR, dx, _, rfl, upd_same, T.clR, T.nR_many, (by show 2 < 1000; decide), ?_⟩
    simp only [upd_upd]
    exact q
def sp_rBeg (t : Adr) : Sp := fun vs H Q _ => ∃ (a dx dy lv d : Addr) (n m w k o : Nat), vs = [.ref a] ∧ H a = some (.ins t.cR dx (runF lv n m)) ∧ H lv = some (.ins t.cL dy (levF w k o d)) ∧ w < 2 ^ 60 ∧ Q (.int ((n * w : Nat) : Int)) H
theorem sc_rBeg : FnScope ["self"] ["self"] (defScope st_rBeg) := ⟨rfl, rfl, rfl, by decide +kernel, rfl, by decide +kernel, by decide +kernel⟩
theorem ok_rBeg (T : Txt K mg t) : FnOk P w K mg base CX0 1 t.f_rBeg t.d_rBeg ["self"] (sp_rBeg t) := by
  refine T.F_rBeg.ok sc_rBeg (fun vs H Q E h => ?_) (fun cdv A outer s H vs Q E hr h => ?_)
  · obtain ⟨a, dx, dy, lv, d, n, m, w, k, o, rfl, _⟩ := h
    rfl
  · obtain ⟨a, dx, dy, lv, d, n, m, w, k, o, rfl, ha, hl, hw, q⟩ := h
    refine ⟨_, pss_one (ps_ret (pe_op op_mul (pe_fld (pv 0) rfl) (pe_fld (pe_fld (pv 0) rfl) rfl))), ?_⟩
    refine ⟨_, rfl, a, t.cR, dx, _, _, rfl, ha, T.clR, T.nR_number, rfl, _, rfl, a, t.cR, dx, _, _, rfl, ha, T.clR, T.nR_level, rfl, lv, t.cL, dy, _, _, rfl, hl, T.clL, T.nL_width, rfl, _, _, rfl, rfl, .inr ⟨by omega, by omega⟩, ?_⟩
    rw [Int.natCast_mul] at q
    exact q
def sp_rEnd (t : Adr) : Sp := fun vs H Q _ => ∃ (a dx dy lv d : Addr) (n m w k o : Nat), vs = [.ref a] ∧ H a = some (.ins t.cR dx (runF lv n m)) ∧ H lv = some (.ins t.cL dy (levF w k o d)) ∧ w < 2 ^ 60 ∧ Q (.int (((n + m) * w : Nat) : Int)) H
theorem sc_rEnd : FnScope ["self"] ["self"] (defScope st_rEnd) := ⟨rfl, rfl, rfl, by decide +kernel, rfl, by decide +kernel, by decide +kernel⟩
theorem ok_rEnd (T : Txt K mg t) : FnOk P w K mg base CX0 1 t.f_rEnd t.d_rEnd ["self"] (sp_rEnd t) := by
  refine T.F_rEnd.ok sc_rEnd (fun vs H Q E h => ?_) (fun cdv A outer s H vs Q E hr h => ?_)
  · obtain ⟨a, dx, dy, lv, d, n, m, w, k, o, rfl, _⟩ := h
    rfl
  · obtain ⟨a, dx, dy, lv, d, n, m, w, k, o, rfl, ha, hl, hw, q⟩ := h
    refine ⟨_, pss_one (ps_ret (pe_op op_mul (pe_op op_add (pe_fld (pv 0) rfl) (pe_fld (pv 0) rfl)) (pe_fld (pe_fld (pv 0) rfl) rfl))), ?_⟩
    refine ⟨_, rfl, a, t.cR, dx, _, _, rfl, ha, T.clR, T.nR_number, rfl, _, rfl, a, t.cR, dx, _, _, rfl, ha, T.clR, T.nR_many, rfl, _, _, rfl, rfl, _, rfl, a, t.cR, dx, _, _, rfl, ha, T.clR, T.nR_level, rfl, lv, t.cL, dy, _, _, rfl, hl, T.clL, T.nL_width, rfl, _, _, rfl, rfl, .inr ⟨by omega, by omega⟩, ?_⟩
    rw [Int.natCast_mul, Int.natCast_add] at q
    exact q
def sp_rSto (t : Adr) : Sp := fun vs H Q _ => ∃ (a dx : Addr) (n m : Nat) (v : LvD), vs = [.ref a] ∧ H a = some (.ins t.cR dx (runF v.a n m)) ∧ LvR t H v ∧ v.L.length ≤ 5000 ∧ Rising (cellsOf v.L) ∧ n + m ≤ 2 ^ 62 ∧
  ∀ (p : Addr) (H' : Hp), H' p = some (.lst ((v.L.filter (inR n m)).map fun x => V.ref x.2.1)) → H p = none → Ext H H' → Q (.ref p) H'
theorem sc_rSto : FnScope ["self"] ["self"] (defScope st_rSto) := ⟨rfl, rfl, rfl, by decide +kernel, rfl, by decide +kernel, by decide +kernel⟩
theorem ok_rSto (T : Txt K mg t) : FnOk P w K mg base CX0 2 t.f_rSto t.d_rSto ["self"] (sp_rSto t) := by
  refine T.F_rSto.ok sc_rSto (fun vs H Q E h => ?_) (fun cdv A outer s H vs Q E hr h => ?_)
  · obtain ⟨a, dx, n, m, v, rfl, _⟩ := h
    rfl
  · obtain ⟨a, dx, n, m, v, rfl, ha, hv, hlen, hR, hnm, q⟩ := h
    refine ⟨_, pss_one (ps_ret (pe_meth (pe_fld (pv 0) rfl) T.clL T.m_lFrom (ok_lFrom T) hr T.b_lFrom .nil pass0 (pa_cons (pe_fld (pv 0) rfl) (pa_cons (pe_fld (pv 0) rfl) pa_nil)))), ?_⟩
    obtain ⟨dy, hl⟩ := hv.ob
    exact ⟨_, rfl, a, t.cR, dx, _, _, rfl, ha, T.clR, T.nR_level, rfl, v.a, dy, _, rfl, hl, rfl, _, rfl, a, t.cR, dx, _, _, rfl, ha, T.clR, T.nR_number, rfl, _, rfl, a, t.cR, dx, _, _, rfl, ha, T.clR, T.nR_many, rfl,
      v.a, v.d, dy, v.w, v.k, v.o, n, m, v.L, rfl, hl, hv.dct, hlen, hR, hnm, q⟩

def keepV (x : Nat) (v : LvD) : Bool := decide (v.o ≤ x / v.w)
def sp_fNar (t : Adr) : Sp := fun vs H Q _ => ∃ (ls : Addr) (x : Nat) (lvs : List LvD) (v : LvD), vs = [.ref ls, .int x] ∧ H ls = some (.lst (lvs.map fun v => V.ref v.a)) ∧ lvs.length ≤ 100 ∧ (∀ v ∈ lvs, LvR t H v) ∧ lvs.find? (keepV x) = some v ∧
  ∀ (p dx : Addr) (H' : Hp), H' p = some (.ins t.cR dx (runF v.a (x / v.w : Nat) 1)) → H p = none → Ext H H' → Q (.ref p) H'
theorem sc_fNar : FnScope ["levels", "at", "keeping", "level"] ["levels", "at"] (defScope st_fNar) := ⟨rfl, rfl, rfl, by decide +kernel, rfl, by decide +kernel, by decide +kernel⟩
theorem ok_fNar (T : Txt K mg t) : FnOk P w K mg base CX0 3 t.f_fNar t.d_fNar ["levels", "at"] (sp_fNar t) := by
  refine T.F_fNar.ok sc_fNar (fun vs H Q E h => ?_) (fun cdv A outer s H vs Q E hr h => ?_)
  · obtain ⟨ls, x, lvs, v, rfl, _⟩ := h
    rfl
  · obtain ⟨ls, x, lvs, v, rfl, hls, hlen, hR, hf, q⟩ := h
    have hr1 : Room 1 _ := hr.mono (by decide)
    refine ⟨_, pss_cons (ps_setLc (i := 2) (own := [("level", 3)]) rfl sc_fNar.nd rfl rfl (sw_true rfl rfl rfl rfl) (pi_list (pv 0)) (blkOk_by (by kernel_rfl)) (fun _ _ _ _ _ => pg_name (i := 3) sc_fNar.nd rfl (Or.inl rfl))
        (fun _ _ _ _ _ => pts_one (pt_val (pe_meth (pv 3) T.clL T.m_lKeep (ok_lKeep T) hr1 T.b_lKeep .nil pass0 (pa_cons (pv 1) pa_nil)))) (fun _ _ _ _ _ => pv 3))
      (pss_one (ps_ret (pe_make T.mkR (ok_rIni T) hr rfl T.mgR T.b_rIni .nil pass0 (pa_cons (pe_ix ix_list (pv 2) pe_int (fun _ _ => rfl)) (pa_cons (pe_op op_fdivW (pv 1) (pe_fld (pe_ix ix_list (pv 2) pe_int (fun _ _ => rfl)) rfl)) (pa_cons pe_int pa_nil)))))), ?_⟩
    refine ⟨_, rfl, ls, rfl, ⟨_, .inl (.inl hls)⟩, fun D hD => ?_⟩
    have hlD : ls ≠ D := ne_of_none hls hD
    refine lc_list (K := K) (a := ls) (xs := lvs.map fun v => V.ref v.a) (fun i H' => H' = upd H D (.lst (((lvs.take i).filter (keepV x)).map fun v => V.ref v.a))) rfl (fun i H' _ e => by rw [e]; exact .inl (.inl (by rw [upd_ne hlD]; exact hls))) (fun i y H' hi e => ?_) fun H' e => ?_
    · subst e
      rw [List.getElem?_map] at hi
      obtain ⟨u, hu, rfl⟩ : ∃ u, lvs[i]? = some u ∧ y = V.ref u.a := by
        cases e : lvs[i]? with
        | none => rw [e] at hi; cases hi
        | some u => rw [e] at hi; exact ⟨u, rfl, (Option.some.inj hi).symm⟩
      have hil := (List.getElem?_eq_some_iff.mp hu).1
      have ru := hR u (List.mem_of_getElem? hu)
      obtain ⟨dy, hl⟩ := ru.ob
      have hl' : (upd H D (.lst (((lvs.take i).filter (keepV x)).map fun v => V.ref v.a))) u.a = some (.ins t.cL dy (levF u.w u.k u.o u.d)) := by rw [upd_ne (ne_of_none hl hD)]; exact hl
      refine ⟨rfl, _, rfl, u.a, dy, _, rfl, hl', rfl, _, rfl, u.a, dy, u.d, u.w, u.k, u.o, x, rfl, hl', ru.wp, ru.wl, _, rfl, ite2 (fun hc => ?_) fun hc => ?_⟩
      · refine ⟨_, rfl, _, upd_same, ?_, ?_⟩
        · exact Nat.lt_of_le_of_lt fm_len (Nat.lt_of_lt_of_le hil (Nat.le_trans hlen (by decide)))
        · rw [upd_upd, fm_take hu, if_pos (show keepV x u = true from hc)]
      · rw [fm_take hu, if_neg (show ¬ keepV x u = true from hc), List.append_nil]
    · subst e
      rw [List.length_map, List.take_length]
      have h0 : ((lvs.filter (keepV x)).map fun v => V.ref v.a)[0]? = some (V.ref v.a) := by
        rw [List.getElem?_map, ← List.head?_eq_getElem?, List.head?_filter, hf]
        rfl
      have rv := hR v (List.mem_of_find?_eq_some hf)
      obtain ⟨dy, hl⟩ := rv.ob
      have hl' : (upd H D (.lst ((lvs.filter (keepV x)).map fun v => V.ref v.a))) v.a = some (.ins t.cL dy (levF v.w v.k v.o v.d)) := by rw [upd_ne (ne_of_none hl hD)]; exact hl
      have hwp := rv.wp
      have hwl := rv.wl
      refine ⟨_, rfl, D, _, _, _, rfl, rfl, .inl (.inl upd_same), atI_nat (j := 0) h0, _, rfl, _, rfl, D, _, _, _, rfl, rfl, .inl (.inl upd_same), atI_nat (j := 0) h0, v.a, t.cL, dy, _, _, rfl, hl', T.clL, T.nL_width, rfl, _, _, rfl, rfl, ⟨by omega, by omega⟩, ?_⟩
      intro p dx np ndx nex
      refine ⟨p, dx, v.a, _, _, rfl, upd_same, rfl, ?_⟩
      rw [upd_upd]
      have npD : p ≠ D := fun e => by rw [e, upd_same] at np; cases np
      have ndD : dx ≠ D := fun e => by rw [e, upd_same] at ndx; cases ndx
      refine q p dx _ ?_ (by rw [upd_ne npD] at np; exact np) (Ext.trans (Keeps.new hD) (Ext.trans (Keeps.new ndx) (Keeps.new (by rw [upd_ne nex.symm]; exact np))))
      rw [upd_same, Int.natCast_ediv]
end
end TC
namespace TC
open PySem L2
theorem for_rev {K : PySem.W.Frag} {a : Addr} {xs : List V} {g : TG} {tb : TS} {D : Ends} {σ : L2.St} {H : Hp} (Pv : Nat → L2.St → Hp → Prop) (h0 : Pv 0 σ H) (hl : ∀ i σ H, i ≤ xs.length → Pv i σ H → SqL K H a xs)
    (hs : ∀ i x σ H, xs.reverse[i]? = some x → Pv i σ H → g x σ H fun σ2 H2 => tb { D with nx := Pv (i + 1), ct := Pv (i + 1), bk := D.nx } σ2 H2) (hd : ∀ σ H, Pv xs.length σ H → D.nx σ H) :
    ∃ W : Nat → Nat → L2.St → Hp → Prop, (∃ m, W 0 m σ H) ∧ ∀ i m σ H, W i m σ H →
      ((Itv K a xs.length).stop i H ∧ D.nx σ H) ∨ ((Itv K a xs.length).go i H ∧ ∃ N : L2.St → Hp → Prop, (∀ σ' H', N σ' H' → ∃ m', m' < m ∧ W (i + 1) m' σ' H') ∧ ∀ x H', (Itv K a xs.length).yld i H x H' → g x σ H' fun σ2 H2 => tb { D with nx := N, ct := N, bk := D.nx } σ2 H2) := by
  refine ⟨fun i m σ H => m = xs.length - i ∧ i ≤ xs.length ∧ Pv i σ H, ⟨xs.length, by simp, Nat.zero_le _, h0⟩, ?_⟩
  rintro i m σ H ⟨rfl, hi, p⟩
  have q := hl i σ H hi p
  by_cases hlt : i < xs.length
  · have hlt' : xs.length - 1 - i < xs.length := by omega
    refine .inr ⟨⟨hlt, xs, xs[xs.length - 1 - i], q, List.getElem?_eq_getElem hlt'⟩, Pv (i + 1), fun σ' H' p' => ⟨xs.length - (i + 1), by omega, rfl, hlt, p'⟩, fun x H' y => ?_⟩
    obtain ⟨e, y⟩ := y
    subst e
    exact hs i x σ _ (by rw [List.getElem?_reverse hlt]; exact y xs q) p
  · have e : i = xs.length := by omega
    subst e
    exact .inl ⟨Nat.le_refl _, hd σ H p⟩
def widestV (x : Nat) : List LvD → Nat → Option (LvD × Nat)
  | [], _ => none
  | v :: r, reach => if (keepV x v && (x % v.w == 0 && decide (x + v.w ≤ reach))) = true then some (v, (reach - x) / v.w) else widestV x r (min reach ((x / v.w + 1) * v.w))
section
variable {P : Program} {w : World} {K : PySem.W.Frag} {mg : Str → Option Value} {base : Heap} {t : Adr}
def sp_fWid (t : Adr) : Sp := fun vs H Q _ => ∃ (ls : Addr) (x y : Nat) (lvs : List LvD), vs = [.ref ls, .int x, .int y] ∧ H ls = some (.lst (lvs.map fun v => V.ref v.a)) ∧ (∀ v ∈ lvs, LvR t H v) ∧
  (widestV x lvs.reverse y = none → Q .non H) ∧ ∀ v m, widestV x lvs.reverse y = some (v, m) → ∀ (p dx : Addr) (H' : Hp), H' p = some (.ins t.cR dx (runF v.a (x / v.w : Nat) m)) → H p = none → Ext H H' → Q (.ref p) H'
theorem sc_fWid : FnScope ["levels", "at", "y", "reach", "level"] ["levels", "at", "y"] (defScope st_fWid) := ⟨rfl, rfl, rfl, by decide +kernel, rfl, by decide +kernel, by decide +kernel⟩
theorem ok_fWid (T : Txt K mg t) : FnOk P w K mg base CX0 3 t.f_fWid t.d_fWid ["levels", "at", "y"] (sp_fWid t) := by
  refine T.F_fWid.ok sc_fWid (fun vs H Q E h => ?_) (fun cdv A outer s H vs Q E hr h => ?_)
  · obtain ⟨ls, x, y, lvs, rfl, _⟩ := h
    rfl
  · obtain ⟨ls, x, y, lvs, rfl, hls, hR, q1, q2⟩ := h
    have hr1 : Room 1 _ := hr.mono (by decide)
    refine ⟨_, pss_cons (ps_set (i := 3) sc_fWid.nd rfl (Or.inl rfl) (pv 2))
      (pss_cons (ps_for PassesOwn.never rfl (pi_reversed rfl T.b_reversed (pa_cons (pv 0) pa_nil)) (pg_name (i := 4) sc_fWid.nd rfl (Or.inl rfl))
        (pss_cons (ps_if (PW.pt (pw_and (pt_val (pe_meth (pv 4) T.clL T.m_lKeep (ok_lKeep T) hr1 T.b_lKeep .nil pass0 (pa_cons (pv 1) pa_nil))) (pw_and (pt_cmpR op_eq (pe_op op_mod (pv 1) (pe_fld (pv 4) rfl)) pe_int (nomark _)) (pw_and1 (pt_cmpR op_le (pe_op op_add (pv 1) (pe_fld (pv 4) rfl)) (pv 3) (nomark _))))))
            (pss_one (ps_ret (pe_make T.mkR (ok_rIni T) hr rfl T.mgR T.b_rIni .nil pass0 (pa_cons (pv 4) (pa_cons (pe_op op_fdivW (pv 1) (pe_fld (pv 4) rfl)) (pa_cons (pe_op op_fdivW (pe_op op_sub (pv 3) (pv 1)) (pe_fld (pv 4) rfl)) pa_nil)))))) pss_nil)
          (pss_one (ps_set (i := 3) sc_fWid.nd rfl (Or.inl rfl) (pe_callB (call_min2 rfl) rfl T.b_min PyProof.Rows.boot_min (pa_cons (pv 3) (pa_cons (pe_meth (pv 4) T.clL T.m_lEnd (ok_lEnd T) hr1 T.b_lEnd .nil pass0 (pa_cons (pv 1) pa_nil)) pa_nil)))))))
      (pss_one (ps_ret pe_non))), ?_⟩
    refine ⟨_, rfl, _, rfl, ls, _, rfl, .inl (.inl hls), for_rev (K := K) (a := ls) (xs := lvs.map fun v => V.ref v.a)
      (fun i σ H' => (∃ (reach : Nat) (v : Option V), σ = [some (.ref ls), some (.int x), some (.int y), some (.int reach), v] ∧ widestV x (lvs.reverse.drop i) reach = widestV x lvs.reverse y) ∧ H' = H)
      ⟨⟨y, none, rfl, rfl⟩, rfl⟩ (fun i σ H' _ ⟨_, e⟩ => by rw [e]; exact .inl (.inl hls)) ?_ ?_⟩
    · rintro i z σ H' hi ⟨⟨reach, v0, rfl, hw⟩, rfl⟩
      rw [← List.map_reverse, List.getElem?_map] at hi
      obtain ⟨u, hu, rfl⟩ : ∃ u, lvs.reverse[i]? = some u ∧ z = V.ref u.a := by
        cases e : lvs.reverse[i]? with
        | none => rw [e] at hi; cases hi
        | some u => rw [e] at hi; exact ⟨u, rfl, (Option.some.inj hi).symm⟩
      have hil := (List.getElem?_eq_some_iff.mp hu).1
      have ed : lvs.reverse.drop i = u :: lvs.reverse.drop (i + 1) := by
        rw [List.drop_eq_getElem_cons hil]
        congr 1
        exact (List.getElem?_eq_some_iff.mp hu).2
      have ru := hR u (List.mem_reverse.mp (List.mem_of_getElem? hu))
      obtain ⟨dy, hl⟩ := ru.ob
      have hwp := ru.wp
      have hwl := ru.wl
      rw [ed] at hw
      replace hw : (if (keepV x u && (x % u.w == 0 && decide (x + u.w ≤ reach))) = true then some (u, (reach - x) / u.w) else widestV x (lvs.reverse.drop (i + 1)) (min reach ((x / u.w + 1) * u.w))) = widestV x lvs.reverse y := hw
      have fin : ¬ (keepV x u && (x % u.w == 0 && decide (x + u.w ≤ reach))) = true →
          ∃ (r' : Nat) (v : Option V), [some (V.ref ls), some (V.int x), some (V.int y), some (V.int (if (((x / u.w + 1) * u.w : Nat) : Int) < (reach : Int) then (((x / u.w + 1) * u.w : Nat) : Int) else (reach : Int))), some (V.ref u.a)] = [some (.ref ls), some (.int x), some (.int y), some (.int r'), v] ∧ widestV x (lvs.reverse.drop (i + 1)) r' = widestV x lvs.reverse y := fun hn => by
        rw [if_neg hn] at hw
        refine ⟨min reach ((x / u.w + 1) * u.w), some (V.ref u.a), ?_, hw⟩
        have e : (if (((x / u.w + 1) * u.w : Nat) : Int) < (reach : Int) then (((x / u.w + 1) * u.w : Nat) : Int) else (reach : Int)) = ((min reach ((x / u.w + 1) * u.w) : Nat) : Int) := by
          generalize (x / u.w + 1) * u.w = e
          split <;> omega
        rw [e]
      refine ⟨_, rfl, u.a, dy, _, rfl, hl, rfl, _, rfl, u.a, dy, u.d, u.w, u.k, u.o, x, rfl, hl, hwp, hwl, _, rfl, ite2 (fun hA => ?_) fun hA => ?_⟩
      · refine ⟨_, rfl, _, rfl, u.a, t.cL, dy, _, _, rfl, hl, T.clL, T.nL_width, rfl, _, _, rfl, rfl, (by show (0 : Int) < (u.w : Int); omega), rfl, _, rfl, ite2 (fun hB => ?_) fun hB => ?_⟩
        · have eB := dec_z.mp (of_decide_eq_true hB)
          have eB' : x % u.w = 0 := by
            rw [← Int.natCast_emod] at eB
            omega
          refine ⟨_, rfl, _, rfl, u.a, t.cL, dy, _, _, rfl, hl, T.clL, T.nL_width, rfl, _, _, rfl, rfl, _, rfl, _, _, rfl, rfl, _, rfl, ite2 (fun hC => ?_) fun hC => ?_⟩
          · have eC : (x : Int) + (u.w : Int) ≤ (reach : Int) := of_decide_eq_true hC
            have hyes : (keepV x u && (x % u.w == 0 && decide (x + u.w ≤ reach))) = true := by
              simp only [Bool.and_eq_true, beq_iff_eq, decide_eq_true_eq]
              exact ⟨hA, eB', by omega⟩
            rw [if_pos hyes] at hw
            refine ⟨_, rfl, _, rfl, _, rfl, u.a, t.cL, dy, _, _, rfl, hl, T.clL, T.nL_width, rfl, _, _, rfl, rfl, ⟨by omega, by omega⟩, _, rfl, _, rfl, _, _, rfl, rfl, _, rfl, u.a, t.cL, dy, _, _, rfl, hl, T.clL, T.nL_width, rfl, _, _, rfl, rfl, ⟨by omega, by omega⟩, ?_⟩
            intro p dx np ndx nex
            refine ⟨p, dx, u.a, _, _, rfl, upd_same, rfl, ?_⟩
            rw [upd_upd]
            refine q2 u _ hw.symm p dx _ ?_ np (Ext.trans (Keeps.new ndx) (Keeps.new (by rw [upd_ne nex.symm]; exact np)))
            have e1 : ((x / u.w : Nat) : Int) = (x : Int) / (u.w : Int) := Int.natCast_ediv _ _
            have e2 : (((reach - x) / u.w : Nat) : Int) = ((reach : Int) - (x : Int)) / (u.w : Int) := by
              rw [Int.natCast_ediv]
              congr 1
              omega
            rw [upd_same, e1, e2]
          · have hno : ¬ (keepV x u && (x % u.w == 0 && decide (x + u.w ≤ reach))) = true := fun h => by
              simp only [Bool.and_eq_true, beq_iff_eq, decide_eq_true_eq] at h
              exact hC (decide_eq_true (by omega))
            exact ⟨_, rfl, _, rfl, u.a, dy, _, rfl, hl, rfl, _, rfl, u.a, dy, u.d, u.w, u.k, u.o, x, rfl, hl, hwp, hwl, _, _, rfl, fin hno, rfl⟩
        · have hno : ¬ (keepV x u && (x % u.w == 0 && decide (x + u.w ≤ reach))) = true := fun h => by
            simp only [Bool.and_eq_true, beq_iff_eq, decide_eq_true_eq] at h
            refine hB (decide_eq_true (dec_z.mpr ?_))
            rw [← Int.natCast_emod, h.2.1]
            rfl
          exact iteF ⟨_, rfl, _, rfl, u.a, dy, _, rfl, hl, rfl, _, rfl, u.a, dy, u.d, u.w, u.k, u.o, x, rfl, hl, hwp, hwl, _, _, rfl, fin hno, rfl⟩
      · have hno : ¬ (keepV x u && (x % u.w == 0 && decide (x + u.w ≤ reach))) = true := fun h => by
          simp only [Bool.and_eq_true] at h
          exact hA h.1
        exact iteF ⟨_, rfl, _, rfl, u.a, dy, _, rfl, hl, rfl, _, rfl, u.a, dy, u.d, u.w, u.k, u.o, x, rfl, hl, hwp, hwl, _, _, rfl, fin hno, rfl⟩
    · rintro σ H' ⟨⟨reach, v0, rfl, hw⟩, rfl⟩
      rw [List.length_map] at hw
      rw [← List.length_reverse, List.drop_length] at hw
      exact q1 hw.symm
end
end TC
namespace TC
open PySem L2
theorem find_congr {α : Type} {p q : α → Bool} : ∀ {l : List α}, (∀ x ∈ l, p x = q x) → l.find? p = l.find? q
  | [], _ => rfl
  | a :: r, h => by
    rw [List.find?_cons, List.find?_cons, h a (by simp), find_congr (l := r) fun x hx => h x (by simp [hx])]
theorem run_gt {x w m : Nat} (h : x = x / w * w) (hm : 1 ≤ m) (hw : 0 < w) : x < (x / w + m) * w := by
  have h1 : x / w * w + 1 * w ≤ (x / w + m) * w := by
    rw [← Nat.add_mul]
    exact Nat.mul_le_mul_right _ (by omega)
  omega
theorem widestV_map {s : Sq05.Set} {tm x : Nat} {lv : Nat → LvD} : ∀ (ls : List Nat) (r : Nat), (∀ l ∈ ls, (lv l).w = s.wide l ∧ (lv l).o = s.oldest l tm) → widestV x (ls.map lv) r = (widest s tm x ls r).map fun p => (lv p.1, p.2)
  | [], _, _ => rfl
  | l :: ls, r, h => by
    obtain ⟨hw, ho⟩ := h l (by simp)
    have ek : keepV x (lv l) = s.keeps tm x l := by
      unfold keepV Sq05.Set.keeps
      rw [hw, ho]
    rw [List.map_cons]
    show (if (keepV x (lv l) && (x % (lv l).w == 0 && decide (x + (lv l).w ≤ r))) = true then some (lv l, (r - x) / (lv l).w) else widestV x (ls.map lv) (min r ((x / (lv l).w + 1) * (lv l).w))) = Option.map _ (if (s.keeps tm x l && (x % s.wide l == 0 && decide (x + s.wide l ≤ r))) = true then some (l, (r - x) / s.wide l) else widest s tm x ls (min r ((x / s.wide l + 1) * s.wide l)))
    rw [ek, hw]
    split
    · rfl
    · exact widestV_map ls _ fun k hk => h k (by simp [hk])
theorem narrowV_map {s : Sq05.Set} {tm x : Nat} {lv : Nat → LvD} (h : ∀ l, l < 4 → (lv l).w = s.wide l ∧ (lv l).o = s.oldest l tm) : ([0, 1, 2, 3].map lv).find? (keepV x) = ([0, 1, 2, 3].find? fun l => s.keeps tm x l).map lv := by
  rw [List.find?_map]
  congr 1
  apply find_congr
  intro l hl
  have : l < 4 := by simp at hl; omega
  obtain ⟨hw, ho⟩ := h l this
  show keepV x (lv l) = s.keeps tm x l
  unfold keepV Sq05.Set.keeps
  rw [hw, ho]
theorem cover_len {s : Sq05.Set} {tm b : Nat} : ∀ (f x : Nat), (s.cover tm b f x).length ≤ f
  | 0, _ => by simp [Sq05.Set.cover]
  | f + 1, x => by
    rw [Sq05.Set.cover]
    split
    · simp
    · split
      · simp
      · rw [List.length_cons]
        exact Nat.succ_le_succ (cover_len f _)
structure RunD where
  a : Addr
  l : Nat
  n : Nat
  m : Nat
structure RunR (t : Adr) (H : Hp) (lv : Nat → LvD) (r : RunD) : Prop where
  ob : ∃ dx, H r.a = some (.ins t.cR dx (runF (lv r.l).a r.n r.m))
  lt : r.l < 4
  m1 : 1 ≤ r.m
  top : r.n + r.m ≤ 2 ^ 62
theorem RunR.ext {t : Adr} {H H' : Hp} {lv : Nat → LvD} {r : RunD} (h : RunR t H lv r) (e : Ext H H') : RunR t H' lv r := ⟨let ⟨dx, q⟩ := h.ob; ⟨dx, e.same q⟩, h.lt, h.m1, h.top⟩
def cellsR (rs : List RunD) : List (Nat × Nat) := rs.flatMap fun r => run r.l r.n r.m
theorem cellsR_snoc (rs : List RunD) (r : RunD) : cellsR (rs ++ [r]) = cellsR rs ++ run r.l r.n r.m := by
  unfold cellsR
  rw [List.flatMap_append]
  simp
theorem runs_few {t : Adr} {H : Hp} {lv : Nat → LvD} : ∀ {rs : List RunD}, (∀ r ∈ rs, RunR t H lv r) → rs.length ≤ (cellsR rs).length
  | [], _ => by simp
  | r :: rs, h => by
    have ih := runs_few (rs := rs) fun q hq => h q (by simp [hq])
    have h1 := (h r (by simp)).m1
    have e : cellsR (r :: rs) = run r.l r.n r.m ++ cellsR rs := by unfold cellsR; rw [List.flatMap_cons]
    rw [e, List.length_append, run_length, List.length_cons]
    omega
structure LvsR (t : Adr) (H : Hp) (ls : Addr) (lv : Nat → LvD) (s : Sq05.Set) (tm : Nat) : Prop where
  lst : H ls = some (.lst ([0, 1, 2, 3].map fun l => V.ref (lv l).a))
  lvs : ∀ l, l < 4 → LvR t H (lv l)
  eqs : ∀ l, l < 4 → (lv l).w = s.wide l ∧ (lv l).o = s.oldest l tm
theorem LvsR.ext {t : Adr} {H H' : Hp} {ls : Addr} {lv : Nat → LvD} {s : Sq05.Set} {tm : Nat} (h : LvsR t H ls lv s tm) (e : Ext H H') : LvsR t H' ls lv s tm := ⟨e.same h.lst, fun l hl => (h.lvs l hl).ext e, h.eqs⟩
def atOf (y : Nat) (σ : L2.St) : Nat := match (σ[4]? : Option (Option V)) with
  | some (some (V.int a)) => ((y : Int) - a).toNat
  | _ => 0
section
variable {P : Program} {w : World} {K : PySem.W.Frag} {mg : Str → Option Value} {base : Heap} {t : Adr}
def sp_fCov (t : Adr) : Sp := fun vs H Q _ => ∃ (ls : Addr) (x y : Nat) (lv : Nat → LvD) (s : Sq05.Set) (tm : Nat), vs = [.ref ls, .int x, .int y] ∧ LvsR t H ls lv s tm ∧ SetOk s ∧ y ≤ (tm / s.wide 0 + 1) * s.wide 0 ∧ y ≤ 2 ^ 62 ∧ s.oldest 3 tm * s.wide 3 ≤ x ∧ Phi s tm x ≤ Sq05.ENOUGH ∧
  ∀ (p : Addr) (H' : Hp) (rs : List RunD), H' p = some (.lst (rs.map fun r => V.ref r.a)) → (∀ r ∈ rs, RunR t H' lv r) → s.cover tm y Sq05.ENOUGH x = cellsR rs → H p = none → Ext H H' → Q (.ref p) H'
theorem sc_fCov : FnScope ["levels", "x", "y", "runs", "at", "run"] ["levels", "x", "y"] (defScope st_fCov) := ⟨rfl, rfl, rfl, by decide +kernel, rfl, by decide +kernel, by decide +kernel⟩
theorem ok_fCov (T : Txt K mg t) : FnOk P w K mg base CX0 4 t.f_fCov t.d_fCov ["levels", "x", "y"] (sp_fCov t) := by
  refine T.F_fCov.ok sc_fCov (fun vs H Q E h => ?_) (fun cdv A outer s H vs Q E hr h => ?_)
  · obtain ⟨ls, x, y, lv, s, tm, rfl, _⟩ := h
    rfl
  · obtain ⟨ls, x, y, lv, s, tm, rfl, hL, ok, hy, hy2, hx, hP, q⟩ := h
    have hr1 : Room 1 _ := hr.mono (by decide)
    refine ⟨_, pss_cons (ps_set (i := 3) sc_fCov.nd rfl (Or.inl rfl) (pe_lst pa_nil)) (pss_cons (ps_set (i := 4) sc_fCov.nd rfl (Or.inl rfl) (pv 1))
      (pss_cons (ps_while PassesOwn.never (pt_cmpR op_lt (pv 4) (pv 2) (nomark _))
        (pss_cons (ps_set (i := 5) sc_fCov.nd rfl (Or.inl rfl) (pe_call (ok_fWid T) hr rfl T.g_fWid T.F_fWid.kp T.b_fWid .nil pass0 (pa_cons (pv 0) (pa_cons (pv 4) (pa_cons (pv 2) pa_nil)))))
        (pss_cons (ps_if (pt_cmp (pc_isN (pv 5))) (pss_one (ps_set (i := 5) sc_fCov.nd rfl (Or.inl rfl) (pe_call (ok_fNar T) hr rfl T.g_fNar T.F_fNar.kp T.b_fNar .nil pass0 (pa_cons (pv 0) (pa_cons (pv 4) pa_nil))))) pss_nil)
        (pss_cons (ps_expr (pe_bm PySem.F.plainAttrs_list PySem.F.slot_list_append PySem.F.type_list_append mt_append (pv 3) (pa_cons (pv 5) pa_nil)))
          (pss_one (ps_set (i := 4) sc_fCov.nd rfl (Or.inl rfl) (pe_meth0 (pv 5) T.clR T.m_rEnd (ok_rEnd T) hr1 T.b_rEnd .nil pass0)))))))
      (pss_one (ps_ret (pv 3))))), ?_⟩
    refine ⟨(by show 0 ≤ sizeLine; decide), fun p hp => ?_⟩
    refine ⟨_, rfl, while_by (fun σ H' => ∃ (at_ f : Nat) (rs : List RunD) (rv : Option V), σ = [some (.ref ls), some (.int x), some (.int y), some (.ref p), some (.int at_), rv] ∧ H' p = some (.lst (rs.map fun r => V.ref r.a)) ∧ (∀ r ∈ rs, RunR t H' lv r) ∧ Keeps (fun c => c = p) H H' ∧
        s.cover tm y Sq05.ENOUGH x = cellsR rs ++ s.cover tm y f at_ ∧ Phi s tm at_ ≤ f ∧ s.oldest 3 tm * s.wide 3 ≤ at_) (fun σ _ => atOf y σ)
      ⟨x, Sq05.ENOUGH, [], none, rfl, upd_same, fun r hr => by simp at hr, (Keeps.new hp : Keeps (fun c => c = p) H _), rfl, hP, hx⟩ ?_ ?_⟩
    · rintro σ H1 ⟨at_, f, rs, rv, rfl, hp1, hrs, kp1, hcov, hPhi, hlo⟩
      have e1 : Ext H H1 := ⟨fun c o e _ => kp1.kp c o e fun z => (by subst z; rw [hp] at e; cases e), kp1.dom⟩
      have L1 := hL.ext e1
      have eqs := L1.eqs
      refine ⟨_, rfl, _, rfl, _, _, rfl, rfl, _, rfl, ite2 (fun hc => ?_) fun hc => ?_⟩
      · have hlt : at_ < y := by
          have := of_decide_eq_true hc
          omega
        have hfew := runs_few hrs
        have hfull := cover_len (s := s) (tm := tm) (b := y) Sq05.ENOUGH x
        rw [hcov, List.length_append] at hfull
        have hsz : rs.length < sizeLine := Nat.lt_of_le_of_lt (show rs.length ≤ 100000 from by unfold Sq05.ENOUGH at hfull; omega) (by decide)
        have e4 : ([0, 1, 2, 3].map lv).reverse = [3, 2, 1, 0].map lv := rfl
        have hLl : H1 ls = some (.lst (([0, 1, 2, 3].map lv).map fun v => V.ref v.a)) := by rw [L1.lst]; rfl
        have hall : ∀ v ∈ [0, 1, 2, 3].map lv, LvR t H1 v := fun v hv => by
          obtain ⟨l, hl, rfl⟩ := List.mem_map.mp hv
          exact L1.lvs l (by simp at hl; omega)
        have hwm := widestV_map (s := s) (tm := tm) (x := at_) (lv := lv) [3, 2, 1, 0] y fun l hl => eqs l (by simp at hl; omega)
        refine ⟨_, rfl, _, rfl, _, rfl, ls, at_, y, [0, 1, 2, 3].map lv, rfl, hLl, hall, fun hn => ?_, fun v m hv ra dx H2 hra nra e2 => ?_⟩
        · -- none fits: the narrowest
          rw [e4, hwm] at hn
          have hn' : widest s tm at_ [3, 2, 1, 0] y = none := by
            cases q : widest s tm at_ [3, 2, 1, 0] y with
            | none => rfl
            | some p => rw [q] at hn; cases hn
          obtain ⟨l, hl⟩ := narrow_some (keeps_three ok hlo)
          obtain ⟨l4, lk, _, f', hf', hcn⟩ := cover_narrow ok hlt hy hn' hl hPhi
          have ew := (eqs l l4).1
          refine ⟨_, rfl, _, rfl, iteT ?_⟩
          refine ⟨_, rfl, _, rfl, ls, at_, [0, 1, 2, 3].map lv, lv l, rfl, hLl, (by show 4 ≤ 100; decide), hall, (by rw [narrowV_map eqs, hl]; rfl), fun ra dx H2 hra nra e2 => ?_⟩
          have hnum : at_ / (lv l).w + 1 ≤ 2 ^ 62 := by
            have := Nat.div_le_self at_ (lv l).w
            omega
          have rl := (L1.lvs l l4).ext e2
          obtain ⟨dl, hdl⟩ := rl.ob
          have hwl := rl.wl
          have hp2 := e2.same hp1
          have hpra : p ≠ ra := ne_of_none hp1 nra
          have hplv : (lv l).a ≠ p := ne_of hdl hp2 (by intro e; cases e)
          refine ⟨_, rfl, .inl ⟨rfl, _, SqL.of hp2⟩, _, rfl, p, _, _, rfl, rfl, hp2, (by rw [List.length_map]; exact hsz), ?_⟩
          refine ⟨_, rfl, ra, dx, _, rfl, (by rw [upd_ne hpra.symm]; exact hra), rfl, ra, dx, dl, (lv l).a, (lv l).d, at_ / (lv l).w, 1, (lv l).w, (lv l).k, (lv l).o, rfl, (by rw [upd_ne hpra.symm]; exact hra), (by rw [upd_ne hplv]; exact hdl), hwl, ?_⟩
          have kp2 : Keeps (fun c => c = p) H1 (upd H2 p (.lst (rs.map (fun r => V.ref r.a) ++ [V.ref ra]))) := Keeps.trans (Ext.mono e2) (Keeps.own (M := fun c => c = p) rfl) fun c hc => .inl hc
          refine ⟨⟨(at_ / (lv l).w + 1) * (lv l).w, f', rs ++ [⟨ra, l, at_ / (lv l).w, 1⟩], _, rfl, ?_, fun r hr => ?_, kp1.trans kp2 fun c hc => .inl hc, ?_, ?_, ?_⟩, ?_⟩
          · rw [upd_same, List.map_append]
            rfl
          · rcases List.mem_append.mp hr with hr | hr
            · obtain ⟨dr, hdr⟩ := ((hrs r hr).ext e2).ob
              exact ⟨⟨dr, by rw [upd_ne (ne_of hdr hp2 (by intro e; cases e))]; exact hdr⟩, (hrs r hr).lt, (hrs r hr).m1, (hrs r hr).top⟩
            · rw [List.mem_singleton.mp hr]
              exact ⟨⟨dx, by rw [upd_ne hpra.symm]; exact hra⟩, l4, Nat.le_refl _, hnum⟩
          · rw [cellsR_snoc, List.append_assoc, hcov]
            congr 1
            rw [ew]
            exact hcn
          · rw [ew]
            exact hf'
          · have := end_gt (x := at_) (ok.pos l l4)
            rw [ew]
            omega
          · have := end_gt (x := at_) (ok.pos l l4)
            show ((y : Int) - (((at_ / (lv l).w + 1) * (lv l).w : Nat) : Int)).toNat < ((y : Int) - (at_ : Int)).toNat
            rw [ew]
            omega
        · rw [e4, hwm] at hv
          obtain ⟨l, hl, rfl⟩ : ∃ l, widest s tm at_ [3, 2, 1, 0] y = some (l, m) ∧ v = lv l := by
            cases q : widest s tm at_ [3, 2, 1, 0] y with
            | none => rw [q] at hv; cases hv
            | some p =>
              rw [q] at hv
              obtain ⟨l, m'⟩ := p
              cases hv
              exact ⟨l, rfl, rfl⟩
          obtain ⟨l4, lk, hm1, hex, htop, _, f', hf', hcn⟩ := cover_wide ok hlt hy hl hPhi
          have ew := (eqs l l4).1
          refine ⟨_, rfl, _, rfl, iteF ?_⟩
          have hnum : at_ / (lv l).w + m ≤ 2 ^ 62 := by
            rw [ew]
            have h1 := Nat.le_mul_of_pos_right (at_ / s.wide l + m) (ok.pos l l4)
            omega
          have rl := (L1.lvs l l4).ext e2
          obtain ⟨dl, hdl⟩ := rl.ob
          have hwl := rl.wl
          have hp2 := e2.same hp1
          have hpra : p ≠ ra := ne_of_none hp1 nra
          have hplv : (lv l).a ≠ p := ne_of hdl hp2 (by intro e; cases e)
          refine ⟨_, rfl, .inl ⟨rfl, _, SqL.of hp2⟩, _, rfl, p, _, _, rfl, rfl, hp2, (by rw [List.length_map]; exact hsz), ?_⟩
          refine ⟨_, rfl, ra, dx, _, rfl, (by rw [upd_ne hpra.symm]; exact hra), rfl, ra, dx, dl, (lv l).a, (lv l).d, at_ / (lv l).w, m, (lv l).w, (lv l).k, (lv l).o, rfl, (by rw [upd_ne hpra.symm]; exact hra), (by rw [upd_ne hplv]; exact hdl), hwl, ?_⟩
          have kp2 : Keeps (fun c => c = p) H1 (upd H2 p (.lst (rs.map (fun r => V.ref r.a) ++ [V.ref ra]))) := Keeps.trans (Ext.mono e2) (Keeps.own (M := fun c => c = p) rfl) fun c hc => .inl hc
          refine ⟨⟨(at_ / (lv l).w + m) * (lv l).w, f', rs ++ [⟨ra, l, at_ / (lv l).w, m⟩], _, rfl, ?_, fun r hr => ?_, kp1.trans kp2 fun c hc => .inl hc, ?_, ?_, ?_⟩, ?_⟩
          · rw [upd_same, List.map_append]
            rfl
          · rcases List.mem_append.mp hr with hr | hr
            · obtain ⟨dr, hdr⟩ := ((hrs r hr).ext e2).ob
              exact ⟨⟨dr, by rw [upd_ne (ne_of hdr hp2 (by intro e; cases e))]; exact hdr⟩, (hrs r hr).lt, (hrs r hr).m1, (hrs r hr).top⟩
            · rw [List.mem_singleton.mp hr]
              exact ⟨⟨dx, by rw [upd_ne hpra.symm]; exact hra⟩, l4, hm1, hnum⟩
          · rw [cellsR_snoc, List.append_assoc, hcov]
            congr 1
            rw [ew]
            exact hcn
          · rw [ew]
            exact hf'
          · have := run_gt hex hm1 (ok.pos l l4)
            rw [ew]
            omega
          · have := run_gt hex hm1 (ok.pos l l4)
            show ((y : Int) - (((at_ / (lv l).w + m) * (lv l).w : Nat) : Int)).toNat < ((y : Int) - (at_ : Int)).toNat
            rw [ew]
            omega
      · have hge : y ≤ at_ := by
          have : ¬ ((at_ : Int) < (y : Int)) := fun e => hc (decide_eq_true e)
          omega
        rw [cover_end hge, List.append_nil] at hcov
        exact ⟨_, rfl, q p H1 rs hp1 hrs hcov hp e1⟩
    · rintro σ H1 Q1 Q2 hQ ⟨a, ha, b, hb, i, j, hi, hj, c, hc, hq⟩
      exact ⟨a, ha, b, hb, i, j, hi, hj, c, hc, hQ _ _ hq⟩
end
end TC
namespace TC
open PySem L2
def chF (last : Int) (ls : Addr) : List (Str × V) := [("last", .int last), ("levels", .ref ls)]
structure ChAt (t : Adr) (H : Hp) (M : Addr → Prop) (a ls : Addr) (last : Nat) (lv : Nat → LvD) : Prop where
  ob : ∃ dx, H a = some (.ins t.cC dx (chF last ls))
  lst : H ls = some (.lst ([0, 1, 2, 3].map fun l => V.ref (lv l).a))
  ms : ∃ Ms : Nat → Addr → Prop, (∀ l, l < 4 → LevAt t H (Ms l) (lv l).a (lv l).d (lv l).w (lv l).k (lv l).o (lv l).L) ∧ (∀ i j c, i < 4 → j < 4 → i ≠ j → Ms i c → ¬ Ms j c) ∧ (∀ l c, l < 4 → Ms l c → M c) ∧ ∀ l, l < 4 → ¬ Ms l a ∧ ¬ Ms l ls
  ma : M a
  ml : M ls
theorem ChAt.frame {t : Adr} {H H' : Hp} {M N : Addr → Prop} {a ls : Addr} {last : Nat} {lv : Nat → LvD} (c : ChAt t H M a ls last lv) (kp : Keeps N H H') (h : ∀ c, M c → ¬ N c) : ChAt t H' M a ls last lv := by
  obtain ⟨Ms, h1, h2, h3, h4⟩ := c.ms
  exact ⟨let ⟨dx, e⟩ := c.ob; ⟨dx, kp.kp _ _ e (h _ c.ma)⟩, kp.kp _ _ c.lst (h _ c.ml), ⟨Ms, fun l hl => (h1 l hl).frame kp fun b hb => h b (h3 l b hl hb), h2, h3, h4⟩, c.ma, c.ml⟩
theorem LevAt.lvR {t : Adr} {H : Hp} {M : Addr → Prop} {v : LvD} (l : LevAt t H M v.a v.d v.w v.k v.o v.L) : LvR t H v := ⟨l.ob, l.dct, l.wp, l.wl⟩
theorem pe_ixT (K : PySem.W.Frag) {X : Cx} {a b : Expr} {ta tb : TE} {pos : Pos} (hK : X.K = K) (ha : PE X a ta) (hb : PE X b tb) (hs : PlainIx b := by intro _ _; rfl) : PE X (.Subscript a b pos) (tOp (rIxT K) ta tb) := by
  subst hK
  exact pe_ix ix_tup ha hb hs
theorem lc_zip {tp : Bool} {K : PySem.W.Frag} {a b : Addr} {xs ys : List V} {g : TG} {tt : TT} {te : TE} {vs : List Nat} {σ : L2.St} {H1 : Hp} {D : Addr} {Qd : Hp → Prop} (hxy : xs.length = ys.length) (Pv : Nat → Hp → Prop) (h0 : Pv 0 (upd H1 D (.lst [])))
    (hl : ∀ i H, i ≤ xs.length → Pv i H → SqL K H a xs ∧ SqX tp K H b ys)
    (hs : ∀ i x y T H, xs[i]? = some x → ys[i]? = some y → H T = none → Pv i H → g (.ref T) (wipe σ vs) (upd H T (.tup [x, y])) fun σ2 H2 => wipe σ2 vs = wipe σ vs ∧ tt σ2 H2 fun b H3 =>
      if b = true then te σ2 H3 fun y H4 => ∃ acc, H4 D = some (.lst acc) ∧ acc.length < sizeLine ∧ Pv (i + 1) (upd H4 D (.lst (acc ++ [y]))) else Pv (i + 1) H3) (hd : ∀ H, Pv xs.length H → Qd H) :
    ∃ W : Nat → Nat → Hp → Prop, (∃ m, W 0 m (upd H1 D (.lst []))) ∧ ∀ i m H, W i m H →
      ((Itz2 tp K a b).stop i H ∧ Qd H) ∨ ((Itz2 tp K a b).go i H ∧ ∃ Nx : Hp → Prop, (∀ H', Nx H' → ∃ m', m' < m ∧ W (i + 1) m' H') ∧ ∀ x H', (Itz2 tp K a b).yld i H x H' → g x (wipe σ vs) H' fun σ2 H2 => wipe σ2 vs = wipe σ vs ∧ tt σ2 H2 fun b H3 =>
        if b = true then te σ2 H3 fun y H4 => ∃ acc, H4 D = some (.lst acc) ∧ acc.length < sizeLine ∧ Nx (upd H4 D (.lst (acc ++ [y]))) else Nx H3) := by
  refine ⟨fun i m H => m = xs.length - i ∧ i ≤ xs.length ∧ Pv i H, ⟨xs.length, by simp, Nat.zero_le _, h0⟩, ?_⟩
  rintro i m H ⟨rfl, hi, p⟩
  obtain ⟨q1, q2⟩ := hl i H hi p
  by_cases hlt : i < xs.length
  · refine .inr ⟨⟨xs, ys, xs[i], ys[i], q1, q2, by simp [hlt], by simp⟩, Pv (i + 1), fun H' p' => ⟨xs.length - (i + 1), by omega, rfl, hlt, p'⟩, fun v H' y => ?_⟩
    obtain ⟨T, x, y, rfl, hT, rfl, hx, hy⟩ := y
    exact hs i x y T H (hx xs q1) (hy ys q2) hT p
  · have e : i = xs.length := by omega
    subst e
    exact .inl ⟨⟨xs, q1, Nat.le_refl _⟩, hd H p⟩
theorem sqX_ext {tp : Bool} {K : PySem.W.Frag} {H H' : Hp} {b : Addr} {ys : List V} (h : SqX tp K H b ys) (e : ∀ c o, H c = some o → c = b → H' c = some o) : SqX tp K H' b ys := by
  cases tp
  · rcases (show SqL K H b ys from h) with (h | ⟨o, h⟩) | h
    · exact (show SqL K H' b ys from .inl (.inl (e _ _ h rfl)))
    · exact (show SqL K H' b ys from .inl (.inr ⟨o, e _ _ h rfl⟩))
    · exact (show SqL K H' b ys from .inr h)
  · rcases (show SqT K H b ys from h) with (h | ⟨o, h⟩) | h
    · exact (show SqT K H' b ys from .inl (.inl (e _ _ h rfl)))
    · exact (show SqT K H' b ys from .inl (.inr ⟨o, e _ _ h rfl⟩))
    · exact (show SqT K H' b ys from .inr h)
theorem sqL_ext {K : PySem.W.Frag} {H H' : Hp} {b : Addr} {ys : List V} (h : SqL K H b ys) (e : ∀ c o, H c = some o → c = b → H' c = some o) : SqL K H' b ys := sqX_ext (tp := false) h e
def KeptAt (tp : Bool) (K : PySem.W.Frag) (H : Hp) (b : Addr) (ks : List V) : Prop := (tp = true ∧ ∀ H', SqT K H' b ks) ∨ (tp = false ∧ H b = some (.lst ks))
theorem KeptAt.sq {tp : Bool} {K : PySem.W.Frag} {H : Hp} {b : Addr} {ks : List V} (h : KeptAt tp K H b ks) : SqX tp K H b ks := by
  rcases h with ⟨rfl, h⟩ | ⟨rfl, h⟩
  · exact h H
  · exact (show SqL K H b ks from .inl (.inl h))
theorem KeptAt.step {tp : Bool} {K : PySem.W.Frag} {H H' : Hp} {b : Addr} {ks : List V} (h : KeptAt tp K H b ks) (e : ∀ xs, H b = some (.lst xs) → H' b = some (.lst xs)) : KeptAt tp K H' b ks := by
  rcases h with ⟨rfl, h⟩ | ⟨rfl, h⟩
  · exact .inl ⟨rfl, h⟩
  · exact .inr ⟨rfl, e _ h⟩
section
variable {P : Program} {w : World} {K : PySem.W.Frag} {mg : Str → Option Value} {base : Heap} {t : Adr}
def lvSet (lv : Nat → LvD) (i : Nat) (v : LvD) : Nat → LvD := fun l => if l = i then v else lv l
theorem lvSet_same {lv : Nat → LvD} {i : Nat} {v : LvD} : lvSet lv i v i = v := if_pos rfl
theorem lvSet_ne {lv : Nat → LvD} {i l : Nat} {v : LvD} (h : l ≠ i) : lvSet lv i v l = lv l := if_neg h
def fourV (f : Nat → Nat) : List V := [0, 1, 2, 3].map fun l => V.int (f l : Int)
theorem fourV_at {f : Nat → Nat} {i : Nat} {x : V} (h : (fourV f)[i]? = some x) : i < 4 ∧ x = V.int (f i : Int) := by
  match i, h with
  | 0, h => exact ⟨by omega, (Option.some.inj h).symm⟩
  | 1, h => exact ⟨by omega, (Option.some.inj h).symm⟩
  | 2, h => exact ⟨by omega, (Option.some.inj h).symm⟩
  | 3, h => exact ⟨by omega, (Option.some.inj h).symm⟩
  | i + 4, h => simp [fourV] at h
def sp_cIni (K : PySem.W.Frag) (t : Adr) : Sp := fun vs H Q _ => ∃ (p dx wl kl : Addr) (tp : Bool) (wf kf : Nat → Nat), vs = [.ref p, .ref wl, .ref kl] ∧ H p = some (.ins t.cC dx []) ∧ H wl = some (.lst (fourV wf)) ∧ KeptAt tp K H kl (fourV kf) ∧ (∀ l, l < 4 → 0 < wf l ∧ wf l < 2 ^ 60) ∧
  ∀ (H' : Hp) (M : Addr → Prop) (ls : Addr) (lv : Nat → LvD), ChAt t H' M p ls 0 lv → (∀ l, l < 4 → (lv l).w = wf l ∧ (lv l).k = kf l ∧ (lv l).o = 0 ∧ (lv l).L = []) → Keeps (fun c => c = p) H H' → (∀ c, M c → c = p ∨ H c = none) → (∀ c, H' c = none → ¬ M c) → Q .non H'
theorem sc_cIni : FnScope ["self", "widths", "kept", "pair"] ["self", "widths", "kept"] (defScope st_cIni) := ⟨rfl, rfl, rfl, by decide +kernel, rfl, by decide +kernel, by decide +kernel⟩
theorem ok_cIni (T : Txt K mg t) : FnOk P w K mg base CX0 3 t.f_cIni t.d_cIni ["self", "widths", "kept"] (sp_cIni K t) := by
  refine T.F_cIni.ok sc_cIni (fun vs H Q E h => ?_) (fun cdv A outer s H vs Q E hr h => ?_)
  · obtain ⟨p, dx, wl, kl, tp, wf, kf, rfl, _⟩ := h
    rfl
  · obtain ⟨p, dx, wl, kl, tp, wf, kf, rfl, hp, hwl, hkl, hwf, q⟩ := h
    refine ⟨_, pss_cons (ps_fld (pv 0) pe_int rfl) (pss_one (ps_fld (pv 0) (pe_lc (own := [("pair", 3)]) rfl sc_cIni.nd (pi_zip2 tp rfl T.b_zip (pa_cons (pv 1) (pa_cons (pv 2) pa_nil))) (blkOk_by (by kernel_rfl)) (fun _ _ _ _ _ => pg_name (i := 3) sc_cIni.nd rfl (Or.inl rfl)) (fun _ _ _ _ _ => pts_nil)
      (fun _ _ _ _ _ => pe_make T.mkL (ok_lIni T) hr rfl T.mgL T.b_lIni .nil pass0 (pa_cons (pe_ixT K rfl (pv 3) pe_int) (pa_cons (pe_ixT K rfl (pv 3) pe_int) pa_nil)))) rfl)), ?_⟩
    refine ⟨_, rfl, p, t.cC, dx, [], rfl, hp, T.clC, T.nC_last, (by show 0 < 1000; decide), ?_⟩
    have hpw : wl ≠ p := (ne_of hp hwl (by intro e; cases e)).symm
    generalize eH1 : upd H p (.ins t.cC dx (putF "last" (V.int 0) [])) = H1
    have hp1 : H1 p = some (.ins t.cC dx (putF "last" (V.int 0) [])) := by rw [← eH1]; exact upd_same
    have k1 : Keeps (fun c => c = p) H H1 := by rw [← eH1]; exact Keeps.own (M := fun c => c = p) rfl
    have hwl1 : H1 wl = some (.lst (fourV wf)) := k1.kp _ _ hwl hpw
    have hkl1 : KeptAt tp K H1 kl (fourV kf) := hkl.step fun xs e => k1.kp _ _ e (ne_of hp e (by intro e; cases e)).symm
    refine ⟨_, rfl, _, rfl, wl, kl, _, _, rfl, .inl (.inl hwl1), hkl1.sq, fun D hD => ?_⟩
    have hpD : p ≠ D := ne_of_none hp1 hD
    refine lc_zip (K := K) (xs := fourV wf) (ys := fourV kf) rfl (fun i H' => ∃ lv : Nat → LvD, H' D = some (.lst ((List.range i).map fun l => V.ref (lv l).a)) ∧
        (∀ l, l < i → LevAt t H' (fun c => c = (lv l).a ∨ c = (lv l).d) (lv l).a (lv l).d (lv l).w (lv l).k (lv l).o (lv l).L) ∧ (∀ l, l < i → (lv l).w = wf l ∧ (lv l).k = kf l ∧ (lv l).o = 0 ∧ (lv l).L = []) ∧
        (∀ a b c, a < i → b < i → a ≠ b → (c = (lv a).a ∨ c = (lv a).d) → ¬ (c = (lv b).a ∨ c = (lv b).d)) ∧ (∀ l, l < i → H1 (lv l).a = none ∧ H1 (lv l).d = none) ∧ (∀ l, l < i → (lv l).a ≠ D ∧ (lv l).d ≠ D) ∧ Ext H1 H')
      ⟨fun _ => ⟨0, 0, 0, 0, 0, []⟩, upd_same, fun l hl => by omega, fun l hl => by omega, fun a b c ha => by omega, fun l hl => by omega, fun l hl => by omega, Keeps.new hD⟩
      (fun i H' _ ⟨lv, _, _, _, _, _, _, e⟩ => ⟨.inl (.inl (e.same hwl1)), (hkl1.step fun xs h => e.same h).sq⟩) (fun i xv yv Tp H' hx hy hT hpv => ?_) fun H' hpv => ?_
    · obtain ⟨lv, hDl, hlev, heq, hdis, hfr, hnD, ex⟩ := hpv
      obtain ⟨hi4, rfl⟩ := fourV_at hx
      obtain ⟨_, rfl⟩ := fourV_at hy
      have hTt : ∀ H2 : Hp, Ext (upd H' Tp (.tup [V.int (wf i : Int), V.int (kf i : Int)])) H2 → SqT K H2 Tp [V.int (wf i : Int), V.int (kf i : Int)] := fun H2 e => .inl (.inl (e.same upd_same))
      have hTD : Tp ≠ D := (ne_of_none hDl hT).symm
      refine ⟨rfl, ?_⟩
      refine ⟨_, rfl, Tp, _, _, _, rfl, rfl, hTt _ Keeps.refl, atI_nat (j := 0) rfl, _, rfl, Tp, _, _, _, rfl, rfl, hTt _ Keeps.refl, atI_nat (j := 1) rfl, ?_⟩
      intro x dl nx ndl nex
      generalize eH2 : upd H' Tp (.tup [V.int (wf i : Int), V.int (kf i : Int)]) = H2 at nx ndl ⊢
      have e2 : Ext H' H2 := by rw [← eH2]; exact Keeps.new hT
      refine ⟨x, dl, wf i, kf i, rfl, upd_same, fun d H4 hd hdx h4x h4d h4 => ⟨rfl, ?_⟩⟩
      have hddl : d ≠ dl := fun e => by
        rw [e, upd_ne nex, upd_same] at hd
        cases hd
      have hd2 : H2 d = none := by rw [upd_ne hdx, upd_ne hddl] at hd; exact hd
      have e4 : Ext H2 H4 := ⟨fun c o e _ => by
        rw [h4 c (ne_of_none e nx) (ne_of_none e hd2), upd_ne (ne_of_none e nx), upd_ne (ne_of_none e ndl)]
        exact e, fun c e => by
        by_cases c1 : c = x
        · rw [c1]; exact nx
        · by_cases c2 : c = d
          · rw [c2]; exact hd2
          · rw [h4 c c1 c2, upd_ne c1] at e
            by_cases c3 : c = dl
            · rw [c3]; exact ndl
            · rw [upd_ne c3] at e
              exact e⟩
      have e24 := Ext.trans e2 e4
      have hD4 : H4 D = some (.lst ((List.range i).map fun l => V.ref (lv l).a)) := e24.same hDl
      have hxD : x ≠ D := (ne_of_none (e2.same hDl) nx).symm
      have hdD : d ≠ D := (ne_of_none (e2.same hDl) hd2).symm
      refine ⟨_, hD4, ?_, lvSet lv i ⟨x, d, wf i, kf i, 0, []⟩, ?_, fun l hl => ?_, fun l hl => ?_, fun a b c ha hb hab => ?_, fun l hl => ?_, fun l hl => ?_, ?_⟩
      · rw [List.length_map, List.length_range]
        exact Nat.lt_of_lt_of_le hi4 (by decide)
      · rw [upd_same, List.range_succ, List.map_append]
        congr 3
        · apply List.map_congr_left
          intro l hl
          have : l < i := List.mem_range.mp hl
          rw [lvSet_ne (by omega)]
        · rw [List.map_cons, lvSet_same]
          rfl
      · by_cases hli : l = i
        · subst hli
          rw [lvSet_same]
          refine ⟨⟨dl, by rw [upd_ne hxD]; exact h4x⟩, by rw [upd_ne hdD]; exact h4d, fun x hx => by simp at hx, by simp, .inl rfl, .inr rfl, fun x hx => by simp at hx, (hwf l hi4).1, (hwf l hi4).2⟩
        · rw [lvSet_ne hli]
          refine (hlev l (by omega)).frame (N := fun c => c = D) (Keeps.trans (Ext.mono e24) (Keeps.own (M := fun c => c = D) rfl) fun c hc => .inl hc) fun c hc hcD => ?_
          obtain ⟨n1, n2⟩ := hnD l (by omega)
          rcases hc with hc | hc
          · exact n1 (hc.symm.trans hcD)
          · exact n2 (hc.symm.trans hcD)
      · by_cases hli : l = i
        · subst hli
          rw [lvSet_same]
          exact ⟨rfl, rfl, rfl, rfl⟩
        · rw [lvSet_ne hli]
          exact heq l (by omega)
      · have old : ∀ l, l < i → ∀ c, (c = (lv l).a ∨ c = (lv l).d) → c ≠ x ∧ c ≠ d := fun l hl c hc => by
          have L := hlev l hl
          obtain ⟨dz, ez⟩ := L.ob
          rcases hc with rfl | rfl
          · exact ⟨ne_of_none (e2.same ez) nx, ne_of_none (e2.same ez) hd2⟩
          · exact ⟨ne_of_none (e2.same L.dct) nx, ne_of_none (e2.same L.dct) hd2⟩
        by_cases hai : a = i
        · subst hai
          rw [lvSet_same, lvSet_ne (show b ≠ a by omega)]
          intro h1 h2
          obtain ⟨n1, n2⟩ := old b (by omega) c h2
          rcases h1 with h1 | h1
          · exact n1 h1
          · exact n2 h1
        · by_cases hbi : b = i
          · subst hbi
            rw [lvSet_ne hai, lvSet_same]
            intro h1 h2
            obtain ⟨n1, n2⟩ := old a (by omega) c h1
            rcases h2 with h2 | h2
            · exact n1 h2
            · exact n2 h2
          · rw [lvSet_ne hai, lvSet_ne hbi]
            exact hdis a b c (by omega) (by omega) hab
      · by_cases hli : l = i
        · subst hli
          rw [lvSet_same]
          exact ⟨ex.dom _ (e2.dom _ nx), ex.dom _ (e2.dom _ hd2)⟩
        · rw [lvSet_ne hli]
          exact hfr l (by omega)
      · by_cases hli : l = i
        · subst hli
          rw [lvSet_same]
          exact ⟨hxD, hdD⟩
        · rw [lvSet_ne hli]
          exact hnD l (by omega)
      · refine ⟨fun c o e _ => ?_, fun c e => ?_⟩
        · rw [upd_ne (ne_of_none e hD)]
          exact e24.same (ex.same e)
        · by_cases hcD : c = D
          · rw [hcD]; exact hD
          · rw [upd_ne hcD] at e
            exact ex.dom _ (e24.dom _ e)
    · obtain ⟨lv, hDl, hlev, heq, hdis, hfr, hnD, ex⟩ := hpv
      have hlen : (fourV wf).length = 4 := rfl
      rw [hlen] at hDl hlev heq hdis hfr hnD
      refine ⟨_, rfl, p, t.cC, dx, _, rfl, ex.same hp1, T.clC, T.nC_levels, (by show 1 < 1000; decide), ?_⟩
      have nota : ∀ l, l < 4 → ∀ c, (c = (lv l).a ∨ c = (lv l).d) → c ≠ p := fun l hl c hc => by
        obtain ⟨n1, n2⟩ := hfr l hl
        rcases hc with rfl | rfl
        · exact (ne_of_none hp1 n1).symm
        · exact (ne_of_none hp1 n2).symm
      have kF : Keeps (fun c => c = p) H (upd H' p (.ins t.cC dx (putF "levels" (V.ref D) (putF "last" (V.int 0) [])))) :=
        (k1.trans (Ext.mono (M := fun c => c = p) ex) fun c hc => .inl hc).trans (Keeps.own (M := fun c => c = p) rfl) fun c hc => .inl hc
      refine q _ (fun c => c = p ∨ c = D ∨ ∃ l, l < 4 ∧ (c = (lv l).a ∨ c = (lv l).d)) D lv ⟨⟨dx, upd_same⟩, ?_, ⟨fun l c => c = (lv l).a ∨ c = (lv l).d, fun l hl => ?_, hdis, fun l c hl hc => .inr (.inr ⟨l, hl, hc⟩), fun l hl => ⟨fun hc => ?_, fun hc => ?_⟩⟩, .inl rfl, .inr (.inl rfl)⟩ heq kF (fun c hc => ?_) fun c hc hm => ?_
      · rw [upd_ne hpD.symm]
        exact hDl
      · exact (hlev l hl).frame (N := fun c => c = p) (Keeps.own (M := fun c => c = p) rfl) fun c hc => nota l hl c hc
      · exact nota l hl p hc rfl
      · obtain ⟨n1, n2⟩ := hnD l hl
        rcases hc with hc | hc
        · exact n1 hc.symm
        · exact n2 hc.symm
      · rcases hc with hc | hc | ⟨l, hl, hc⟩
        · exact .inl hc
        · rw [hc]; exact .inr (k1.dom _ hD)
        · obtain ⟨n1, n2⟩ := hfr l hl
          rcases hc with rfl | rfl
          · exact .inr (k1.dom _ n1)
          · exact .inr (k1.dom _ n2)
      · rcases hm with rfl | rfl | ⟨l, hl, hm⟩
        · rw [upd_same] at hc; cases hc
        · rw [upd_ne hpD.symm, hDl] at hc; cases hc
        · rw [upd_ne (nota l hl c hm)] at hc
          have L := hlev l hl
          obtain ⟨dz, ez⟩ := L.ob
          rcases hm with rfl | rfl
          · rw [ez] at hc; cases hc
          · rw [L.dct] at hc; cases hc
end
end TC
namespace TC
open PySem L2
structure AddOk (v : LvD) (b tm : Nat) : Prop where
  lev : LevOk v.o (tm / v.w) b (cellsOf v.L)
  old : v.o ≤ tm / v.w + 1 - v.k
  k1 : 1 ≤ v.k
  k2 : v.k ≤ 4096
structure Added (v v' : LvD) (m : _root_.St.Measurement) : Prop where
  a : v'.a = v.a
  w : v'.w = v.w
  k : v'.k = v.k
  o : v'.o = m.time / v.w + 1 - v.k
  cells : cellsOf v'.L = putCell (m.time / v.w) (Sq05.of m) ((cellsOf v.L).filter fun c => decide (m.time / v.w + 1 - v.k ≤ c.1))
theorem four_at {f : Nat → Addr} {i : Nat} {x : V} (h : ([0, 1, 2, 3].map fun l => V.ref (f l))[i]? = some x) : i < 4 ∧ x = V.ref (f i) := by
  match i, h with
  | 0, h => exact ⟨by omega, (Option.some.inj h).symm⟩
  | 1, h => exact ⟨by omega, (Option.some.inj h).symm⟩
  | 2, h => exact ⟨by omega, (Option.some.inj h).symm⟩
  | 3, h => exact ⟨by omega, (Option.some.inj h).symm⟩
  | i + 4, h => simp at h
section
variable {P : Program} {w : World} {K : PySem.W.Frag} {mg : Str → Option Value} {base : Heap} {t : Adr}
def sp_cAdd (t : Adr) : Sp := fun vs H Q _ => ∃ (a ls : Addr) (last b : Nat) (lv : Nat → LvD) (m : _root_.St.Measurement) (M : Addr → Prop), vs = [.ref a, .int m.time, .int (valOf m), .int m.quality] ∧ ChAt t H M a ls last lv ∧ (∀ v, m.value = some v → v ≠ _root_.St.NONE) ∧
  (∀ l, l < 4 → AddOk (lv l) b m.time) ∧ (∀ c, H c = none → ¬ M c) ∧
  ∀ (H' : Hp) (M' : Addr → Prop) (lv' : Nat → LvD), ChAt t H' M' a ls m.time lv' → (∀ l, l < 4 → Added (lv l) (lv' l) m) → Keeps M H H' → (∀ c, M' c → M c ∨ H c = none) → (∀ c, H' c = none → ¬ M' c) → Q .non H'
theorem sc_cAdd : FnScope ["self", "time", "value", "marks", "one", "level"] ["self", "time", "value", "marks"] (defScope st_cAdd) := ⟨rfl, rfl, rfl, by decide +kernel, rfl, by decide +kernel, by decide +kernel⟩
theorem ok_cAdd (T : Txt K mg t) : FnOk P w K mg base CX0 5 t.f_cAdd t.d_cAdd ["self", "time", "value", "marks"] (sp_cAdd t) := by
  refine T.F_cAdd.ok sc_cAdd (fun vs H Q E h => ?_) (fun cdv A outer s H vs Q E hr h => ?_)
  · obtain ⟨a, ls, last, b, lv, m, M, rfl, _⟩ := h
    rfl
  · obtain ⟨a, ls, last, b, lv, m, M, rfl, C, hv, hadd, hM, q⟩ := h
    have hr3 : Room 3 _ := hr.mono (by decide)
    refine ⟨_, pss_cons (ps_set (i := 4) sc_cAdd.nd rfl (Or.inl rfl) (pe_call (ok_fOne T) hr3 rfl T.g_fOne T.F_fOne.kp T.b_fOne .nil pass0 (pa_cons (pv 1) (pa_cons (pv 2) (pa_cons (pv 3) pa_nil)))))
      (pss_cons (ps_for PassesOwn.never rfl (pi_list (pe_fld (pv 0) rfl)) (pg_name (i := 5) sc_cAdd.nd rfl (Or.inl rfl)) (pss_one (ps_expr (pe_meth (pv 5) T.clL T.m_lAdd (ok_lAdd T) hr T.b_lAdd .nil pass0 (pa_cons (pv 1) (pa_cons (pv 4) pa_nil))))))
      (pss_one (ps_fld (pv 0) (pv 1) rfl))), ?_⟩
    refine ⟨_, rfl, _, rfl, _, rfl, m, rfl, hv, fun x dn nx ndn nne => ?_⟩
    obtain ⟨dx, ha⟩ := C.ob
    obtain ⟨Ms, hlev, hdis, hsub, hnot⟩ := C.ms
    generalize eH1 : upd (upd H dn (.own x)) x (.ins t.cS dn (sumV (Sq05.of m))) = H1
    have e1 : Ext H H1 := by
      rw [← eH1]
      exact Ext.trans (Keeps.new ndn) (Keeps.new (by rw [upd_ne nne.symm]; exact nx))
    have hx1 : H1 x = some (.ins t.cS dn (sumV (Sq05.of m))) := by rw [← eH1]; exact upd_same
    have xM : ∀ c, M c → c ≠ x := fun c hc e => hM c (e ▸ nx) hc
    have ha1 := e1.same ha
    have hl1 := e1.same C.lst
    refine ⟨_, rfl, a, t.cC, dx, _, _, rfl, ha1, T.clC, T.nC_levels, rfl, ls, rfl, ⟨_, .inl (.inl hl1)⟩, for_list (K := K) (a := ls) (xs := [0, 1, 2, 3].map fun l => V.ref (lv l).a)
      (fun i σ H' => ∃ (lv' : Nat → LvD) (Ms' : Nat → Addr → Prop) (v5 : Option V), σ = [some (.ref a), some (.int m.time), some (.int (valOf m)), some (.int m.quality), some (.ref x), v5] ∧
        (∀ l, l < 4 → LevAt t H' (Ms' l) (lv' l).a (lv' l).d (lv' l).w (lv' l).k (lv' l).o (lv' l).L) ∧ (∀ i j c, i < 4 → j < 4 → i ≠ j → Ms' i c → ¬ Ms' j c) ∧ (∀ l c, l < 4 → Ms' l c → Ms l c ∨ H1 c = none) ∧
        (∀ l, l < i → l < 4 → Added (lv l) (lv' l) m) ∧ (∀ l, i ≤ l → l < 4 → lv' l = lv l) ∧ (∀ l c, l < 4 → H' c = none → ¬ Ms' l c) ∧ Keeps (fun c => ∃ l, l < 4 ∧ Ms l c) H1 H')
      ⟨lv, Ms, none, rfl, fun l hl => (hlev l hl).frame (N := fun _ => False) e1 fun _ _ h => h, hdis, fun l c _ h => .inl h, fun l hl => by omega, fun l _ _ => rfl, fun l c hl hc hm => hM c (e1.dom c hc) (hsub l c hl hm), Keeps.refl⟩ ?_ ?_ ?_⟩
    · rintro i σ H' _ ⟨lv', Ms', v5, _, _, _, _, _, _, _, kp⟩
      exact .inl (.inl (kp.kp _ _ hl1 fun ⟨l, hl, h⟩ => (hnot l hl).2 h))
    · rintro i z σ H' hi ⟨lv', Ms', v5, rfl, hlev', hdis', hsub', hdone, htodo, hdom', kp⟩
      obtain ⟨hi4, rfl⟩ := four_at (f := fun l => (lv l).a) hi
      have hxM : ∀ l, l < 4 → ¬ Ms' l x := fun l hl h => by
        rcases hsub' l x hl h with h | h
        · exact xM x (hsub l x hl h) rfl
        · rw [hx1] at h; cases h
      have hx' : H' x = some (.ins t.cS dn (sumV (Sq05.of m))) := kp.kp _ _ hx1 fun ⟨l, hl, h⟩ => xM x (hsub l x hl h) rfl
      have hli := hlev' i hi4
      have elv : lv' i = lv i := htodo i (Nat.le_refl _) hi4
      rw [elv] at hli
      have ad := hadd i hi4
      obtain ⟨dy, hob⟩ := hli.ob
      refine ⟨_, rfl, (lv i).a, dy, _, rfl, hob, rfl, _, rfl, _, rfl, (lv i).a, (lv i).d, x, dn, (lv i).w, (lv i).k, (lv i).o, m.time, b, Sq05.of m, (lv i).L, Ms' i, rfl, hli, hx', hxM i hi4, good_of m, ad.lev, ad.old, ad.k1, ad.k2, fun c hc => hdom' i c hi4 hc, fun H2 M2 L2 l2 hc2 kp2 sub2 dom2 => ?_⟩
      refine ⟨lvSet lv' i ⟨(lv i).a, (lv i).d, (lv i).w, (lv i).k, m.time / (lv i).w + 1 - (lv i).k, L2⟩, fun l => if l = i then M2 else Ms' l, _, rfl, fun l hl => ?_, fun p r c hp hr hpr => ?_, fun l c hl hc => ?_, fun l hl hl4 => ?_, fun l hl hl4 => ?_, fun l c hl hc => ?_, ?_⟩
      · by_cases e : l = i
        · subst e
          simp only [if_pos rfl]
          rw [lvSet_same]
          exact l2
        · simp only [if_neg e]
          rw [lvSet_ne e]
          exact (hlev' l hl).frame kp2 fun c hc => hdis' l i c hl hi4 e hc
      · have new : ∀ l c, l < 4 → l ≠ i → M2 c → ¬ Ms' l c := fun l c hl hne h2 hm => by
          rcases sub2 c h2 with h | h
          · exact hdis' i l c hi4 hl (Ne.symm hne) h hm
          · exact hdom' l c hl h hm
        by_cases e : p = i
        · subst e
          simp only [if_pos rfl, if_neg (Ne.symm hpr)]
          exact new r c hr (Ne.symm hpr)
        · by_cases e' : r = i
          · subst e'
            simp only [if_pos rfl, if_neg e]
            exact fun h h2 => new p c hp e h2 h
          · simp only [if_neg e, if_neg e']
            exact hdis' p r c hp hr hpr
      · by_cases e : l = i
        · subst e
          simp only [if_pos rfl] at hc
          rcases sub2 c hc with h | h
          · exact hsub' l c hl h
          · exact .inr (kp.dom c h)
        · simp only [if_neg e] at hc
          exact hsub' l c hl hc
      · by_cases e : l = i
        · subst e
          rw [lvSet_same]
          exact ⟨rfl, rfl, rfl, rfl, hc2⟩
        · rw [lvSet_ne e]
          exact hdone l (by omega) hl4
      · rw [lvSet_ne (by omega)]
        exact htodo l (by omega) hl4
      · by_cases e : l = i
        · subst e
          simp only [if_pos rfl]
          exact dom2 c hc
        · simp only [if_neg e]
          exact hdom' l c hl (kp2.dom c hc)
      · exact kp.trans kp2 fun c hc => by
          rcases hsub' i c hi4 hc with h | h
          · exact .inl ⟨i, hi4, h⟩
          · exact .inr h
    · rintro σ H' ⟨lv', Ms', v5, rfl, hlev', hdis', hsub', hdone, htodo, hdom', kp⟩
      have ha' : H' a = some (.ins t.cC dx (chF last ls)) := kp.kp _ _ ha1 fun ⟨l, hl, h⟩ => (hnot l hl).1 h
      have hl' : H' ls = some (.lst ([0, 1, 2, 3].map fun l => V.ref (lv l).a)) := kp.kp _ _ hl1 fun ⟨l, hl, h⟩ => (hnot l hl).2 h
      refine ⟨_, rfl, _, rfl, a, t.cC, dx, _, rfl, ha', T.clC, T.nC_last, (by show 2 < 1000; decide), ?_⟩
      have done4 : ∀ l, l < 4 → Added (lv l) (lv' l) m := fun l hl => hdone l hl hl
      have hal : a ≠ ls := ne_of ha C.lst (by intro e; cases e)
      have nota : ∀ l, l < 4 → ¬ Ms' l a := fun l hl h => by
        rcases hsub' l a hl h with h | h
        · exact (hnot l hl).1 h
        · rw [ha1] at h; cases h
      have notl : ∀ l, l < 4 → ¬ Ms' l ls := fun l hl h => by
        rcases hsub' l ls hl h with h | h
        · exact (hnot l hl).2 h
        · rw [hl1] at h; cases h
      refine q _ (fun c => c = a ∨ c = ls ∨ ∃ l, l < 4 ∧ Ms' l c) lv' ⟨⟨dx, upd_same⟩, ?_, ⟨Ms', fun l hl => ?_, hdis', fun l c hl h => .inr (.inr ⟨l, hl, h⟩), fun l hl => ⟨nota l hl, notl l hl⟩⟩, .inl rfl, .inr (.inl rfl)⟩ done4 ?_ (fun c hc => ?_) fun c hc hm => ?_
      · rw [upd_ne hal.symm, hl']
        congr 2
        show [V.ref (lv 0).a, V.ref (lv 1).a, V.ref (lv 2).a, V.ref (lv 3).a] = [V.ref (lv' 0).a, V.ref (lv' 1).a, V.ref (lv' 2).a, V.ref (lv' 3).a]
        rw [(done4 0 (by omega)).a, (done4 1 (by omega)).a, (done4 2 (by omega)).a, (done4 3 (by omega)).a]
      · exact (hlev' l hl).frame (N := fun c => c = a) (Keeps.own (M := fun c => c = a) rfl) fun c hc e => nota l hl (e ▸ hc)
      · exact ((Ext.mono (M := M) e1).trans kp fun c ⟨l, hl, h⟩ => .inl (hsub l c hl h)).trans (Keeps.own (M := M) C.ma) fun c hc => .inl hc
      · rcases hc with rfl | rfl | ⟨l, hl, h⟩
        · exact .inl C.ma
        · exact .inl C.ml
        · rcases hsub' l c hl h with h | h
          · exact .inl (hsub l c hl h)
          · exact .inr (e1.dom c h)
      · rcases hm with rfl | rfl | ⟨l, hl, h⟩
        · rw [upd_same] at hc; cases hc
        · rw [upd_ne hal.symm, hl'] at hc; cases hc
        · rw [upd_ne (show c ≠ a from fun e => nota l hl (e ▸ h))] at hc
          exact hdom' l c hl hc h
end
end TC
namespace TC
open PySem L2
section
variable {P : Program} {w : World} {K : PySem.W.Frag} {mg : Str → Option Value} {base : Heap} {t : Adr}
def sp_cRuns (t : Adr) : Sp := fun vs H Q _ => ∃ (a ls dx : Addr) (last aa bb : Nat) (lv : Nat → LvD) (s : Sq05.Set), vs = [.ref a, .int aa, .int bb] ∧ H a = some (.ins t.cC dx (chF last ls)) ∧ LvsR t H ls lv s last ∧ SetOk s ∧ (∀ x, Phi s last x ≤ Sq05.ENOUGH) ∧ bb ≤ 2 ^ 62 ∧
  ∀ (p : Addr) (H' : Hp) (rs : List RunD), H' p = some (.lst (rs.map fun r => V.ref r.a)) → (∀ r ∈ rs, RunR t H' lv r) → s.cover last (min bb ((last / s.wide 0 + 1) * s.wide 0)) Sq05.ENOUGH (max aa (s.oldest 3 last * s.wide 3)) = cellsR rs → H p = none → Ext H H' → Q (.ref p) H'
theorem sc_cRuns : FnScope ["self", "a", "b", "x", "y"] ["self", "a", "b"] (defScope st_cRuns) := ⟨rfl, rfl, rfl, by decide +kernel, rfl, by decide +kernel, by decide +kernel⟩
theorem ok_cRuns (T : Txt K mg t) : FnOk P w K mg base CX0 5 t.f_cRuns t.d_cRuns ["self", "a", "b"] (sp_cRuns t) := by
  refine T.F_cRuns.ok sc_cRuns (fun vs H Q E h => ?_) (fun cdv A outer s H vs Q E hr h => ?_)
  · obtain ⟨a, ls, dx, last, aa, bb, lv, s, rfl, _⟩ := h
    rfl
  · obtain ⟨a, ls, dx, last, aa, bb, lv, s, rfl, ha, hL, ok, hP, hb, q⟩ := h
    have hr1 : Room 1 _ := hr.mono (by decide)
    refine ⟨_, pss_cons (ps_set (i := 3) sc_cRuns.nd rfl (Or.inl rfl) (pe_callB (call_max2 rfl) rfl T.b_max PyProof.Rows.boot_max (pa_cons (pv 1) (pa_cons (pe_meth0 (pe_ix ix_list (pe_fld (pv 0) rfl) pe_int (fun _ _ => rfl)) T.clL T.m_lBeg (ok_lBeg T) hr1 T.b_lBeg .nil pass0) pa_nil))))
      (pss_cons (ps_set (i := 4) sc_cRuns.nd rfl (Or.inl rfl) (pe_callB (call_min2 rfl) rfl T.b_min PyProof.Rows.boot_min (pa_cons (pv 2) (pa_cons (pe_meth (pe_ix ix_list (pe_fld (pv 0) rfl) pe_int (fun _ _ => rfl)) T.clL T.m_lEnd (ok_lEnd T) hr1 T.b_lEnd .nil pass0 (pa_cons (pe_fld (pv 0) rfl) pa_nil)) pa_nil))))
      (pss_one (ps_ret (pe_call (ok_fCov T) hr rfl T.g_fCov T.F_fCov.kp T.b_fCov .nil pass0 (pa_cons (pe_fld (pv 0) rfl) (pa_cons (pv 3) (pa_cons (pv 4) pa_nil))))))), ?_⟩
    have l3 := hL.lvs 3 (by omega)
    have l0 := hL.lvs 0 (by omega)
    obtain ⟨d3, h3⟩ := l3.ob
    obtain ⟨d0, h0⟩ := l0.ob
    refine ⟨_, rfl, _, rfl, a, t.cC, dx, _, _, rfl, ha, T.clC, T.nC_levels, rfl, ls, _, _, _, rfl, rfl, .inl (.inl hL.lst), atI_nat (j := 3) rfl, (lv 3).a, d3, _, rfl, h3, rfl, (lv 3).a, d3, (lv 3).d, (lv 3).w, (lv 3).k, (lv 3).o, rfl, h3, l3.wl, _, _, rfl, ?_⟩
    refine ⟨_, rfl, _, rfl, a, t.cC, dx, _, _, rfl, ha, T.clC, T.nC_levels, rfl, ls, _, _, _, rfl, rfl, .inl (.inl hL.lst), atI_nat (j := 0) rfl, (lv 0).a, d0, _, rfl, h0, rfl, _, rfl, a, t.cC, dx, _, _, rfl, ha, T.clC, T.nC_last, rfl, (lv 0).a, d0, (lv 0).d, (lv 0).w, (lv 0).k, (lv 0).o, last, rfl, h0, l0.wp, l0.wl, _, _, rfl, ?_⟩
    have e3 := hL.eqs 3 (by omega)
    have e0 := hL.eqs 0 (by omega)
    have ex : (if (((lv 3).o * (lv 3).w : Nat) : Int) > (aa : Int) then (((lv 3).o * (lv 3).w : Nat) : Int) else (aa : Int)) = ((max aa (s.oldest 3 last * s.wide 3) : Nat) : Int) := by
      rw [e3.1, e3.2]
      generalize s.oldest 3 last * s.wide 3 = z
      split <;> omega
    have ey : (if (((last / (lv 0).w + 1) * (lv 0).w : Nat) : Int) < (bb : Int) then (((last / (lv 0).w + 1) * (lv 0).w : Nat) : Int) else (bb : Int)) = ((min bb ((last / s.wide 0 + 1) * s.wide 0) : Nat) : Int) := by
      rw [e0.1]
      generalize (last / s.wide 0 + 1) * s.wide 0 = z
      split <;> omega
    refine ⟨_, rfl, a, t.cC, dx, _, _, rfl, ha, T.clC, T.nC_levels, rfl, _, rfl, _, rfl, ls, max aa (s.oldest 3 last * s.wide 3), min bb ((last / s.wide 0 + 1) * s.wide 0), lv, s, last, ?_, hL, ok, Nat.min_le_right _ _, Nat.le_trans (Nat.min_le_left _ _) hb, Nat.le_max_right _ _, hP _, q⟩
    rw [← ex, ← ey]
    rfl
def tellV (lv : Nat → LvD) (l : Nat) : List Int := [(((lv l).o * (lv l).w : Nat) : Int), ((lv l).L.length : Int)]
def sp_cTold (t : Adr) : Sp := fun vs H Q _ => ∃ (a ls dx : Addr) (last : Nat) (lv : Nat → LvD), vs = [.ref a] ∧ H a = some (.ins t.cC dx (chF last ls)) ∧ H ls = some (.lst ([0, 1, 2, 3].map fun l => V.ref (lv l).a)) ∧ (∀ l, l < 4 → LvR t H (lv l)) ∧
  ∀ (p : Addr) (H' : Hp), H' p = some (.lst (([0, 1, 2, 3].flatMap (tellV lv)).map V.int)) → H p = none → Ext H H' → Q (.ref p) H'
theorem sc_cTold : FnScope ["self", "numbers", "level"] ["self"] (defScope st_cTold) := ⟨rfl, rfl, rfl, by decide +kernel, rfl, by decide +kernel, by decide +kernel⟩
theorem ok_cTold (T : Txt K mg t) : FnOk P w K mg base CX0 2 t.f_cTold t.d_cTold ["self"] (sp_cTold t) := by
  refine T.F_cTold.ok sc_cTold (fun vs H Q E h => ?_) (fun cdv A outer s H vs Q E hr h => ?_)
  · obtain ⟨a, ls, dx, last, lv, rfl, _⟩ := h
    rfl
  · obtain ⟨a, ls, dx, last, lv, rfl, ha, hls, hR, q⟩ := h
    refine ⟨_, pss_cons (ps_set (i := 1) sc_cTold.nd rfl (Or.inl rfl) (pe_lst pa_nil))
      (pss_cons (ps_for PassesOwn.never rfl (pi_list (pe_fld (pv 0) rfl)) (pg_name (i := 2) sc_cTold.nd rfl (Or.inl rfl))
        (pss_cons (ps_expr (pe_bm PySem.F.plainAttrs_list PySem.F.slot_list_append PySem.F.type_list_append mt_append (pv 1) (pa_cons (pe_meth0 (pv 2) T.clL T.m_lBeg (ok_lBeg T) hr T.b_lBeg .nil pass0) pa_nil)))
          (pss_one (ps_expr (pe_bm PySem.F.plainAttrs_list PySem.F.slot_list_append PySem.F.type_list_append mt_append (pv 1) (pa_cons (pe_callB call_lenD rfl T.b_len PySem.boot_len (pa_cons (pe_fld (pv 2) rfl) pa_nil)) pa_nil))))))
      (pss_one (ps_ret (pv 1)))), ?_⟩
    refine ⟨(by show 0 ≤ sizeLine; decide), fun p hp => ?_⟩
    have hap : a ≠ p := ne_of_none ha hp
    have hlp : ls ≠ p := ne_of_none hls hp
    refine ⟨_, rfl, a, t.cC, dx, _, _, rfl, (by rw [upd_ne hap]; exact ha), T.clC, T.nC_levels, rfl, ls, rfl, ⟨_, .inl (.inl (by rw [upd_ne hlp]; exact hls))⟩, for_list (K := K) (a := ls) (xs := [0, 1, 2, 3].map fun l => V.ref (lv l).a)
      (fun i σ H' => (∃ v, σ = [some (.ref a), some (.ref p), v]) ∧ H' = upd H p (.lst (((List.range i).flatMap (tellV lv)).map V.int)))
      ⟨⟨none, rfl⟩, rfl⟩ (fun i σ H' _ ⟨_, e⟩ => by rw [e]; exact .inl (.inl (by rw [upd_ne hlp]; exact hls))) ?_ ?_⟩
    · rintro i z σ H' hi ⟨⟨v, rfl⟩, rfl⟩
      obtain ⟨hi4, rfl⟩ := four_at (f := fun l => (lv l).a) hi
      have li := hR i hi4
      obtain ⟨dy, hob⟩ := li.ob
      have hne : (lv i).a ≠ p := ne_of_none hob hp
      have hnd : (lv i).d ≠ p := ne_of_none li.dct hp
      have hlen : (((List.range i).flatMap (tellV lv)).map V.int).length = 2 * i := by
        have : i = 0 ∨ i = 1 ∨ i = 2 ∨ i = 3 := by omega
        rcases this with rfl | rfl | rfl | rfl <;> rfl
      have hs1 : 2 * i + 1 < sizeLine := Nat.lt_of_lt_of_le (show 2 * i + 1 < 10 by omega) (by decide)
      refine ⟨_, rfl, .inl ⟨rfl, _, SqL.of upd_same⟩, _, rfl, (lv i).a, dy, _, rfl, (by rw [upd_ne hne]; exact hob), rfl, (lv i).a, dy, (lv i).d, (lv i).w, (lv i).k, (lv i).o, rfl, (by rw [upd_ne hne]; exact hob), li.wl, p, _, _, rfl, rfl, upd_same, (by rw [hlen]; omega), ?_⟩
      rw [upd_upd]
      refine ⟨_, rfl, .inl ⟨rfl, _, SqL.of upd_same⟩, _, rfl, (lv i).a, t.cL, dy, _, _, rfl, (by rw [upd_ne hne]; exact hob), T.clL, T.nL_summaries, rfl, (lv i).d, _, rfl, (by rw [upd_ne hnd]; exact li.dct), p, _, _, rfl, rfl, upd_same, (by rw [List.length_append, hlen]; exact hs1), ?_⟩
      rw [upd_upd]
      refine ⟨⟨_, rfl⟩, ?_⟩
      congr 2
      rw [List.range_succ, List.flatMap_append, List.map_append, List.append_assoc]
      congr 1
      have hkl : (kvsOf (lv i).L).length = (lv i).L.length := by unfold kvsOf; rw [List.length_map]
      rw [hkl]
      rfl
    · rintro σ H' ⟨⟨v, rfl⟩, rfl⟩
      exact ⟨_, rfl, q p _ upd_same hp (Keeps.new hp)⟩
end
end TC
namespace TC
open PySem L2
def cellV (x : Nat × Sq05.Sum) : List Int := (x.1 : Int) :: Sq05.told x.2
theorem cellV_len (x : Nat × Sq05.Sum) : (cellV x).length = 13 := by
  unfold cellV
  rw [List.length_cons, told_len]
theorem flat13 : ∀ l : List (Nat × Sq05.Sum), (l.flatMap cellV).length = 13 * l.length
  | [] => rfl
  | x :: r => by
    rw [List.flatMap_cons, List.length_append, cellV_len, flat13 r, List.length_cons]
    omega
section
variable {P : Program} {w : World} {K : PySem.W.Frag} {mg : Str → Option Value} {base : Heap} {t : Adr}
def outC (L : ACells) : List Int := (L.length : Int) :: (cellsOf L).flatMap cellV
def sp_fTc (t : Adr) : Sp := fun vs H Q _ => ∃ (n m b : Nat) (v : LvD), vs = [.ref v.a, .int n, .int m] ∧ LvR t H v ∧ (∀ x ∈ v.L, ∃ dx, H x.2.1 = some (.ins t.cS dx (sumV x.2.2))) ∧ Rising (cellsOf v.L) ∧ v.L.length ≤ 5000 ∧ (∀ x ∈ v.L, Good x.2.2 ∧ x.2.2.many < 2 ^ 62) ∧
  ∀ (p : Addr) (H' : Hp), H' p = some (.lst ((outC ((v.L.filter fun x => decide (n ≤ x.1)).take m)).map V.int)) → H p = none → Ext H H' → Q (.ref p) H'
theorem sc_fTc : FnScope ["level", "number", "most", "numbers", "answer", "cell"] ["level", "number", "most"] (defScope st_fTc) := ⟨rfl, rfl, rfl, by decide +kernel, rfl, by decide +kernel, by decide +kernel⟩
theorem ok_fTc (T : Txt K mg t) : FnOk P w K mg base CX0 4 t.f_fTc t.d_fTc ["level", "number", "most"] (sp_fTc t) := by
  refine T.F_fTc.ok sc_fTc (fun vs H Q E h => ?_) (fun cdv A outer s H vs Q E hr h => ?_)
  · obtain ⟨n, m, b, v, rfl, _⟩ := h
    rfl
  · obtain ⟨n, m, b, v, rfl, hv, hsum, hR, hlen, hgood, q⟩ := h
    have hu := hu_of hr
    have hr1 : Room 1 _ := hr.mono (by decide)
    refine ⟨_, pss_cons (ps_set (i := 3) sc_fTc.nd rfl (Or.inl rfl) (pe_meth (pv 0) T.clL T.m_lNum (ok_lNum T) hr1 T.b_lNum .nil pass0 (pa_cons (pv 1) (pa_cons (pv 2) pa_nil))))
      (pss_cons (ps_set (i := 4) sc_fTc.nd rfl (Or.inl rfl) (pe_lst (pa_cons (pe_callB call_len_seq rfl T.b_len PySem.boot_len (pa_cons (pv 3) pa_nil)) pa_nil)))
      (pss_cons (ps_for PassesOwn.never rfl (pi_list (pv 3)) (pg_name (i := 5) sc_fTc.nd rfl (Or.inl rfl))
        (pss_cons (ps_expr (pe_bm PySem.F.plainAttrs_list PySem.F.slot_list_append PySem.F.type_list_append mt_append (pv 4) (pa_cons (pv 5) pa_nil)))
          (pss_one (ps_expr (pe_bm PySem.F.plainAttrs_list PySem.F.slot_list_extend PySem.F.type_list_extend mt_extend (pv 4) (pa_cons (pe_meth0 (pe_dget hu (pe_fld (pv 0) rfl) (pv 5) (fun _ _ => rfl)) T.clS T.m_sTold (ok_sTold T) hr T.b_sTold .nil pass0) pa_nil))))))
      (pss_one (ps_ret (pv 4))))), ?_⟩
    obtain ⟨dy, hob⟩ := hv.ob
    refine ⟨_, rfl, v.a, dy, _, rfl, hob, rfl, _, rfl, _, rfl, v.a, v.d, dy, v.w, v.k, v.o, n, m, v.L, rfl, hob, hv.dct, hlen, fun pn H1 hpn npn e1 => ?_⟩
    generalize eL : (v.L.filter fun x => decide (n ≤ x.1)).take m = L1 at hpn q
    have hsub : ∀ x ∈ L1, x ∈ v.L := fun x hx => by
      rw [← eL] at hx
      exact (List.mem_filter.mp (List.mem_of_mem_take hx)).1
    have hL1 : L1.length ≤ 5000 := by
      rw [← eL, List.length_take]
      exact Nat.le_trans (Nat.min_le_right _ _) (Nat.le_trans (List.length_filter_le _ _) hlen)
    refine ⟨_, rfl, pn, _, rfl, .inl (.inl (.inl hpn)), (by show 1 ≤ sizeLine; decide), fun pa npa => ?_⟩
    have hne : pn ≠ pa := ne_of_none hpn npa
    have eOut0 : [V.int ((L1.map fun x => V.int (x.1 : Int)).length : Int)] = (((L1.length : Int) :: ((cellsOf (L1.take 0)).flatMap cellV)).map V.int) := by
      rw [List.length_map]
      rfl
    refine ⟨_, rfl, pn, rfl, ⟨_, .inl (.inl (by rw [upd_ne hne]; exact hpn))⟩, for_list (K := K) (a := pn) (xs := L1.map fun x => V.int (x.1 : Int))
      (fun i σ H' => (∃ v5, σ = [some (.ref v.a), some (.int n), some (.int m), some (.ref pn), some (.ref pa), v5]) ∧ H' pa = some (.lst ((((L1.length : Int) :: ((cellsOf (L1.take i)).flatMap cellV)).map V.int))) ∧ Keeps (fun c => c = pa) H1 H')
      ⟨⟨none, rfl⟩, by rw [upd_same]; exact congrArg (fun z => some (HO.lst z)) eOut0, (Keeps.new npa : Keeps (fun c => c = pa) H1 _)⟩ (fun i σ H' _ ⟨_, _, kp⟩ => .inl (.inl (kp.kp _ _ hpn hne))) ?_ ?_⟩
    · rintro i z σ H' hi ⟨⟨v5, rfl⟩, hpa, kp⟩
      rw [List.getElem?_map] at hi
      obtain ⟨x, hx, rfl⟩ : ∃ x, L1[i]? = some x ∧ z = V.int (x.1 : Int) := by
        cases e : L1[i]? with
        | none => rw [e] at hi; cases hi
        | some x => rw [e] at hi; exact ⟨x, rfl, (Option.some.inj hi).symm⟩
      have hil := (List.getElem?_eq_some_iff.mp hx).1
      have hxv := hsub x (List.mem_of_getElem? hx)
      obtain ⟨ds, hs⟩ := hsum x hxv
      obtain ⟨gx, mx⟩ := hgood x hxv
      have old : ∀ {c : Addr} {o : HO}, H c = some o → H' c = some o ∧ c ≠ pa := fun {c o} e => ⟨kp.kp _ _ (e1.same e) (ne_of_none (e1.same e) npa), ne_of_none (e1.same e) npa⟩
      have hlz : (((L1.length : Int) :: ((cellsOf (L1.take i)).flatMap cellV)).map V.int).length ≤ 1 + 13 * 5000 := by
        rw [List.length_map, List.length_cons, flat13]
        unfold cellsOf
        rw [List.length_map, List.length_take]
        omega
      have hbig : 1 + 13 * 5000 + 100 ≤ sizeLine := by decide
      refine ⟨_, rfl, .inl ⟨rfl, _, SqL.of hpa⟩, _, rfl, pa, _, _, rfl, rfl, hpa, (by omega), ?_⟩
      refine ⟨_, rfl, .inl ⟨rfl, _, SqL.of upd_same⟩, _, rfl, v.a, t.cL, dy, _, _, rfl, (by rw [upd_ne (old hob).2]; exact (old hob).1), T.clL, T.nL_summaries, rfl, _, rfl, v.d, V.ref x.2.1, rfl, ?_, x.2.1, ds, _, rfl, (by rw [upd_ne (old hs).2]; exact (old hs).1), rfl, x.2.1, ds, x.2.2, rfl, (by rw [upd_ne (old hs).2]; exact (old hs).1), gx, mx, fun pt npt => ?_⟩
      · have g := DGet.k (k := Sum.inl (x.1 : Int)) (show (upd H' pa (.lst ((((L1.length : Int) :: ((cellsOf (L1.take i)).flatMap cellV)).map V.int) ++ [V.int (x.1 : Int)]))) v.d = some (.dK (kvsOf v.L)) by rw [upd_ne (old hv.dct).2]; exact (old hv.dct).1)
        rw [val_kvs, find_in hR hxv] at g
        exact g
      · have hpp : pa ≠ pt := fun e => by rw [← e, upd_same] at npt; cases npt
        refine ⟨pa, pt, _, _, rfl, rfl, (by rw [upd_ne hpp]; exact upd_same), upd_same, ?_, ?_⟩
        · have h12 : ((Sq05.told x.2.2).map V.int).length = 12 := by rw [List.length_map, told_len]
          rw [List.length_append, h12, List.length_singleton]
          omega
        · refine ⟨⟨_, rfl⟩, ?_, ?_⟩
          · rw [upd_same, List.take_succ_eq_append_getElem hil, (List.getElem?_eq_some_iff.mp hx).2]
            unfold cellsOf
            rw [List.map_append, List.flatMap_append, List.append_assoc, ← List.cons_append, List.map_append]
            congr 3
            show [V.int (x.1 : Int)] ++ (Sq05.told x.2.2).map V.int = List.map V.int (List.flatMap cellV [(x.1, x.2.2)])
            rw [List.flatMap_cons, List.flatMap_nil, List.append_nil]
            rfl
          · have k1 : Keeps (fun c => c = pa) H' (upd H' pa (.lst ((((L1.length : Int) :: ((cellsOf (L1.take i)).flatMap cellV)).map V.int) ++ [V.int (x.1 : Int)]))) := Keeps.own (M := fun c => c = pa) rfl
            exact ((kp.trans k1 fun c hc => .inl hc).trans (Keeps.new (M := fun c => c = pa) npt) fun c hc => .inl hc).trans (Keeps.own (M := fun c => c = pa) rfl) fun c hc => .inl hc
    · rintro σ H' ⟨⟨v5, rfl⟩, hpa, kp⟩
      rw [List.length_map, List.take_length] at hpa
      refine ⟨_, rfl, q pa H' hpa (e1.dom _ npa) ?_⟩
      exact ⟨fun c o e _ => kp.kp _ _ (e1.same e) (ne_of_none (e1.same e) npa), fun c e => e1.dom c (kp.dom c e)⟩
end
end TC
namespace TC
open PySem L2
def accIn (L : ACells) (s : Sq05.Sum) : Sq05.Sum := L.foldl (fun a x => Sq05.join a x.2.2) s
def accRun (lv : Nat → LvD) (s : Sq05.Sum) (r : RunD) : Sq05.Sum := accIn ((lv r.l).L.filter (inR r.n r.m)) s
def accAll (lv : Nat → LvD) (rs : List RunD) : Sq05.Sum := rs.foldl (accRun lv) Sq05.empty
theorem accIn_ok {b c : Nat} : ∀ {L : ACells} {s : Sq05.Sum}, (∀ x ∈ L, Good x.2.2 ∧ x.2.2.many ≤ b) → Good s → s.many ≤ c → Good (accIn L s) ∧ (accIn L s).many ≤ c + L.length * b
  | [], s, _, g, h => ⟨g, by simpa [accIn] using h⟩
  | x :: L, s, hL, g, h => by
    obtain ⟨gx, mx⟩ := hL x (by simp)
    have h1 : (Sq05.join s x.2.2).many ≤ c + b := by
      show s.many + x.2.2.many ≤ c + b
      omega
    obtain ⟨g2, m2⟩ := accIn_ok (b := b) (L := L) (s := Sq05.join s x.2.2) (fun y hy => hL y (by simp [hy])) (good_join g gx) h1
    refine ⟨g2, ?_⟩
    show (accIn L (Sq05.join s x.2.2)).many ≤ c + (L.length + 1) * b
    rw [Nat.add_mul, Nat.one_mul]
    omega
theorem accIn_snoc {L : ACells} {s : Sq05.Sum} {j : Nat} {x : Nat × Addr × Sq05.Sum} (h : L[j]? = some x) : accIn (L.take (j + 1)) s = Sq05.join (accIn (L.take j) s) x.2.2 := by
  obtain ⟨hlt, e⟩ := List.getElem?_eq_some_iff.mp h
  unfold accIn
  rw [List.take_succ_eq_append_getElem hlt, List.foldl_append, e]
  rfl
theorem accAll_snoc {lv : Nat → LvD} {rs : List RunD} {i : Nat} {r : RunD} (h : rs[i]? = some r) : accAll lv (rs.take (i + 1)) = accRun lv (accAll lv (rs.take i)) r := by
  obtain ⟨hlt, e⟩ := List.getElem?_eq_some_iff.mp h
  unfold accAll
  rw [List.take_succ_eq_append_getElem hlt, List.foldl_append, e]
  rfl
structure LvS (t : Adr) (H : Hp) (b : Nat) (v : LvD) : Prop where
  r : LvR t H v
  sums : ∀ x ∈ v.L, ∃ dx, H x.2.1 = some (.ins t.cS dx (sumV x.2.2))
  rise : Rising (cellsOf v.L)
  len : v.L.length ≤ 5000
  good : ∀ x ∈ v.L, Good x.2.2 ∧ x.2.2.many ≤ b
theorem accAll_ok {t : Adr} {H : Hp} {b : Nat} {lv : Nat → LvD} (hl : ∀ l, l < 4 → LvS t H b (lv l)) : ∀ (rs : List RunD) (s : Sq05.Sum) (c : Nat), (∀ r ∈ rs, r.l < 4) → Good s → s.many ≤ c → Good (rs.foldl (accRun lv) s) ∧ (rs.foldl (accRun lv) s).many ≤ c + rs.length * (5000 * b)
  | [], s, c, _, g, h => ⟨g, by simpa using h⟩
  | r :: rs, s, c, hr, g, h => by
    have L := hl r.l (hr r (by simp))
    obtain ⟨g1, m1⟩ := accIn_ok (b := b) (c := c) (L := (lv r.l).L.filter (inR r.n r.m)) (s := s) (fun x hx => L.good x (List.mem_filter.mp hx).1) g h
    have hlen : ((lv r.l).L.filter (inR r.n r.m)).length * b ≤ 5000 * b := Nat.mul_le_mul_right _ (Nat.le_trans (List.length_filter_le _ _) L.len)
    obtain ⟨g2, m2⟩ := accAll_ok hl rs (accRun lv s r) (c + 5000 * b) (fun q hq => hr q (by simp [hq])) g1 (Nat.le_trans m1 (by omega))
    refine ⟨g2, ?_⟩
    rw [List.foldl_cons, List.length_cons, Nat.add_mul, Nat.one_mul]
    omega
section
variable {P : Program} {w : World} {K : PySem.W.Frag} {mg : Str → Option Value} {base : Heap} {t : Adr}
def outR (lv : Nat → LvD) (rs : List RunD) (r0 rl : RunD) : List Int := [((r0.n * (lv r0.l).w : Nat) : Int), (((rl.n + rl.m) * (lv rl.l).w : Nat) : Int), (rs.map fun r => (r.m : Int)).sum] ++ Sq05.told (accAll lv rs)
def sp_fTr (t : Adr) : Sp := fun vs H Q _ => ∃ (pr : Addr) (b : Nat) (rs : List RunD) (lv : Nat → LvD) (r0 rl : RunD), vs = [.ref pr] ∧ H pr = some (.lst (rs.map fun r => V.ref r.a)) ∧ (∀ r ∈ rs, RunR t H lv r) ∧ (∀ l, l < 4 → LvS t H b (lv l)) ∧ b ≤ 2 ^ 20 ∧ rs.length ≤ 100000 ∧ rs[0]? = some r0 ∧ rs.getLast? = some rl ∧
  ∀ (p : Addr) (H' : Hp), H' p = some (.lst ((outR lv rs r0 rl).map V.int)) → H p = none → Ext H H' → Q (.ref p) H'
theorem sc_fTr : FnScope ["runs", "together", "run", "summary", "cells"] ["runs"] (defScope st_fTr) := ⟨rfl, rfl, rfl, by decide +kernel, rfl, by decide +kernel, by decide +kernel⟩
theorem ok_fTr (T : Txt K mg t) : FnOk P w K mg base CX0 4 t.f_fTr t.d_fTr ["runs"] (sp_fTr t) := by
  refine T.F_fTr.ok sc_fTr (fun vs H Q E h => ?_) (fun cdv A outer s H vs Q E hr h => ?_)
  · obtain ⟨pr, b, rs, lv, r0, rl, rfl, _⟩ := h
    rfl
  · obtain ⟨pr, b, rs, lv, r0, rl, rfl, hpr, hrs, hlv, hb, hn, h0, hl, q⟩ := h
    have hr1 : Room 1 _ := hr.mono (by decide)
    have hr2 : Room 2 _ := hr.mono (by decide)
    refine ⟨_, pss_cons (ps_set (i := 1) sc_fTr.nd rfl (Or.inl rfl) (pe_make0 T.mkS (ok_sIni T) hr2 rfl T.mgS T.b_sIni .nil pass0))
      (pss_cons (ps_for PassesOwn.never rfl (pi_list (pv 0)) (pg_name (i := 2) sc_fTr.nd rfl (Or.inl rfl))
        (pss_one (ps_for PassesOwn.never rfl (pi_list (pe_meth0 (pv 2) T.clR T.m_rSto (ok_rSto T) hr2 T.b_rSto .nil pass0)) (pg_name (i := 3) sc_fTr.nd rfl (Or.inl rfl))
          (pss_one (ps_expr (pe_meth (pv 1) T.clS T.m_sTi (ok_sTi T) hr T.b_sTi .nil pass0 (pa_cons (pv 3) pa_nil)))))))
      (pss_cons (ps_set (i := 4) sc_fTr.nd rfl (Or.inl rfl) (pe_callB (cr_sum rfl) rfl T.b_sum PyProof.Rows.boot_sum (pa_cons (pe_lc (own := [("run", 2)]) rfl sc_fTr.nd (pi_list (pv 0)) (blkOk_by (by kernel_rfl)) (fun _ _ _ _ _ => pg_name (i := 2) sc_fTr.nd rfl (Or.inl rfl)) (fun _ _ _ _ _ => pts_nil) (fun _ _ _ _ _ => pe_fldK K rfl (pv 2))) pa_nil)))
      (pss_one (ps_ret (pe_op op_cat (pe_lst (pa_cons (pe_meth0 (pe_ix ix_list (pv 0) pe_int (fun _ _ => rfl)) T.clR T.m_rBeg (ok_rBeg T) hr1 T.b_rBeg .nil pass0) (pa_cons (pe_meth0 (pe_ix ix_list (pv 0) (pe_un un_neg pe_int) (fun _ _ => rfl)) T.clR T.m_rEnd (ok_rEnd T) hr1 T.b_rEnd .nil pass0) (pa_cons (pv 4) pa_nil))))
        (pe_meth0 (pv 1) T.clS T.m_sTold (ok_sTold T) hr T.b_sTold .nil pass0)))))), ?_⟩
    intro x dn nx ndn nne
    refine ⟨x, dn, rfl, upd_same, ⟨rfl, ?_⟩⟩
    rw [upd_upd]
    generalize eH1 : upd (upd H dn (.own x)) x (.ins t.cS dn (sumV Sq05.empty)) = H1
    have e1 : Ext H H1 := by
      rw [← eH1]
      exact Ext.trans (Keeps.new ndn) (Keeps.new (by rw [upd_ne nne.symm]; exact nx))
    have hx1 : H1 x = some (.ins t.cS dn (sumV Sq05.empty)) := by rw [← eH1]; exact upd_same
    have hpr1 := e1.same hpr
    have hne : pr ≠ x := ne_of_none hpr nx
    refine ⟨_, rfl, pr, rfl, ⟨_, .inl (.inl hpr1)⟩, for_list (K := K) (a := pr) (xs := rs.map fun r => V.ref r.a)
      (fun i σ H' => (∃ v2 v3, σ = [some (.ref pr), some (.ref x), v2, v3, none]) ∧ H' x = some (.ins t.cS dn (sumV (accAll lv (rs.take i)))) ∧ Keeps (fun c => c = x) H1 H')
      ⟨⟨none, none, rfl⟩, hx1, Keeps.refl⟩ (fun i σ H' _ ⟨_, _, kp⟩ => .inl (.inl (kp.kp _ _ hpr1 hne))) ?_ ?_⟩
    · rintro i z σ H' hi ⟨⟨v2, v3, rfl⟩, hx', kp⟩
      rw [List.getElem?_map] at hi
      obtain ⟨r, hri, rfl⟩ : ∃ r, rs[i]? = some r ∧ z = V.ref r.a := by
        cases e : rs[i]? with
        | none => rw [e] at hi; cases hi
        | some r => rw [e] at hi; exact ⟨r, rfl, (Option.some.inj hi).symm⟩
      have R := hrs r (List.mem_of_getElem? hri)
      have L := hlv r.l R.lt
      have old : ∀ {c : Addr} {o : HO}, H c = some o → H' c = some o := fun {c o} e => kp.kp _ _ (e1.same e) (ne_of_none e nx)
      obtain ⟨dr, hdr⟩ := R.ob
      obtain ⟨dl, hdl⟩ := L.r.ob
      have hLR : LvR t H' (lv r.l) := ⟨⟨dl, old hdl⟩, old L.r.dct, L.r.wp, L.r.wl⟩
      refine ⟨_, rfl, r.a, dr, _, rfl, old hdr, rfl, r.a, dr, r.n, r.m, lv r.l, rfl, old hdr, hLR, L.len, L.rise, R.top, fun pl H2 hpl npl e2 => ?_⟩
      have hxpl : pl ≠ x := (ne_of_none hx' npl).symm
      obtain ⟨gi, mi⟩ := accAll_ok hlv (rs.take i) Sq05.empty 0 (fun q hq => (hrs q (List.mem_of_mem_take hq)).lt) good_empty (Nat.le_refl _)
      refine ⟨pl, rfl, ⟨_, .inl (.inl hpl)⟩, for_list (K := K) (a := pl) (xs := ((lv r.l).L.filter (inR r.n r.m)).map fun y => V.ref y.2.1)
        (fun j σ H3 => (∃ v3, σ = [some (.ref pr), some (.ref x), some (.ref r.a), v3, none]) ∧ H3 x = some (.ins t.cS dn (sumV (accIn (((lv r.l).L.filter (inR r.n r.m)).take j) (accAll lv (rs.take i))))) ∧ Keeps (fun c => c = x) H2 H3)
        ⟨⟨v3, rfl⟩, e2.same hx', Keeps.refl⟩ (fun j σ H3 _ ⟨_, _, kp3⟩ => .inl (.inl (kp3.kp _ _ hpl hxpl))) ?_ ?_⟩
      · rintro j z σ H3 hj ⟨⟨v3, rfl⟩, hx3, kp3⟩
        rw [List.getElem?_map] at hj
        obtain ⟨y, hy, rfl⟩ : ∃ y, ((lv r.l).L.filter (inR r.n r.m))[j]? = some y ∧ z = V.ref y.2.1 := by
          cases e : ((lv r.l).L.filter (inR r.n r.m))[j]? with
          | none => rw [e] at hj; cases hj
          | some y => rw [e] at hj; exact ⟨y, rfl, (Option.some.inj hj).symm⟩
        have hyL := (List.mem_filter.mp (List.mem_of_getElem? hy)).1
        obtain ⟨dy, hdy⟩ := L.sums y hyL
        have hxy : x ≠ y.2.1 := (ne_of_none hdy nx).symm
        have hy3 : H3 y.2.1 = some (.ins t.cS dy (sumV y.2.2)) := kp3.kp _ _ (e2.same (old hdy)) hxy.symm
        obtain ⟨gj, _⟩ := accIn_ok (b := b) (L := ((lv r.l).L.filter (inR r.n r.m)).take j) (s := accAll lv (rs.take i)) (fun y hy => L.good y (List.mem_filter.mp (List.mem_of_mem_take hy)).1) gi (Nat.le_refl _)
        refine ⟨_, rfl, x, dn, _, rfl, hx3, rfl, _, rfl, x, y.2.1, dn, dy, _, y.2.2, rfl, hx3, hy3, hxy, gj, (L.good y hyL).1, ?_⟩
        refine ⟨⟨_, rfl⟩, ?_, kp3.trans (Keeps.own (M := fun c => c = x) rfl) fun c hc => .inl hc⟩
        rw [upd_same, accIn_snoc hy]
      · rintro σ H3 ⟨⟨v3, rfl⟩, hx3, kp3⟩
        rw [List.length_map, List.take_length] at hx3
        refine ⟨⟨_, _, rfl⟩, ?_, (kp.trans (Ext.mono (M := fun c => c = x) e2) fun c hc => .inl hc).trans kp3 fun c hc => .inl hc⟩
        rw [hx3, accAll_snoc hri]
        rfl
    · rintro σ H' ⟨⟨v2, v3, rfl⟩, hx', kp⟩
      rw [List.length_map, List.take_length] at hx'
      have old : ∀ {c : Addr} {o : HO}, H c = some o → H' c = some o := fun {c o} e => kp.kp _ _ (e1.same e) (ne_of_none e nx)
      have eH' : Ext H H' := ⟨fun c o e _ => old e, fun c e => e1.dom c (kp.dom c e)⟩
      obtain ⟨gA, mA⟩ := accAll_ok hlv rs Sq05.empty 0 (fun q hq => (hrs q hq).lt) good_empty (Nat.le_refl _)
      have mA' : (accAll lv rs).many < 2 ^ 62 := by
        have h1 : rs.length * (5000 * b) ≤ 100000 * (5000 * 2 ^ 20) := Nat.mul_le_mul hn (Nat.mul_le_mul_left _ hb)
        have h2 : (accAll lv rs).many ≤ 0 + rs.length * (5000 * b) := mA
        omega
      refine ⟨_, rfl, pr, rfl, ⟨_, .inl (.inl (old hpr))⟩, fun D hD => ?_⟩
      have hprD : pr ≠ D := ne_of_none (old hpr) hD
      refine lc_list (K := K) (a := pr) (xs := rs.map fun r => V.ref r.a) (fun i H2 => H2 = upd H' D (.lst ((rs.take i).map fun r => V.int (r.m : Int)))) rfl (fun i H2 _ e => by rw [e]; exact .inl (.inl (by rw [upd_ne hprD]; exact old hpr))) (fun i z H2 hi e => ?_) fun H2 e => ?_
      · subst e
        rw [List.getElem?_map] at hi
        obtain ⟨r, hri, rfl⟩ : ∃ r, rs[i]? = some r ∧ z = V.ref r.a := by
          cases e : rs[i]? with
          | none => rw [e] at hi; cases hi
          | some r => rw [e] at hi; exact ⟨r, rfl, (Option.some.inj hi).symm⟩
        have hil := (List.getElem?_eq_some_iff.mp hri).1
        obtain ⟨dr, hdr⟩ := (hrs r (List.mem_of_getElem? hri)).ob
        refine ⟨rfl, _, rfl, r.a, t.cR, dr, _, _, rfl, (by rw [upd_ne (ne_of_none (old hdr) hD)]; exact old hdr), T.clR, T.nR_many, rfl, _, upd_same, ?_, ?_⟩
        · rw [List.length_map, List.length_take]
          exact Nat.lt_of_le_of_lt (Nat.min_le_left _ _) (Nat.lt_of_lt_of_le hil (Nat.le_trans hn (by decide)))
        · rw [upd_upd, List.take_succ_eq_append_getElem hil, List.map_append, (List.getElem?_eq_some_iff.mp hri).2]
          rfl
      · subst e
        rw [List.length_map, List.take_length]
        have ems : (rs.map fun r => V.int (r.m : Int)) = (rs.map fun r => (r.m : Int)).map V.int := by rw [List.map_map]; rfl
        rw [ems]
        refine ⟨D, _, rfl, .inl (.inl upd_same), ?_⟩
        have o2 : ∀ {c : Addr} {o : HO}, H' c = some o → (upd H' D (.lst ((rs.map fun r => (r.m : Int)).map V.int))) c = some o := fun {c o} e => by rw [upd_ne (ne_of_none e hD)]; exact e
        generalize eH2 : upd H' D (.lst ((rs.map fun r => (r.m : Int)).map V.int)) = H2 at o2
        have e2 : Ext H' H2 := by rw [← eH2]; exact Keeps.new hD
        have m0 : r0 ∈ rs := List.mem_of_getElem? h0
        have ml : rl ∈ rs := List.mem_of_getLast? hl
        have R0 := hrs r0 m0
        have Rl := hrs rl ml
        obtain ⟨dr0, hr0⟩ := R0.ob
        obtain ⟨drl, hrl⟩ := Rl.ob
        have L0 := hlv r0.l R0.lt
        have Ll := hlv rl.l Rl.lt
        obtain ⟨dl0, hl0⟩ := L0.r.ob
        obtain ⟨dll, hll⟩ := Ll.r.ob
        have i0 : (rs.map fun r => V.ref r.a)[0]? = some (V.ref r0.a) := by rw [List.getElem?_map, h0]; rfl
        have il : atI (rs.map fun r => V.ref r.a) (-1) = some (V.ref rl.a) := by
          obtain ⟨rs', e⟩ : ∃ rs', rs = rs' ++ [rl] := by
            obtain ⟨ys, e⟩ := List.getLast?_eq_some_iff.mp hl
            exact ⟨ys, e⟩
          rw [e, List.map_append]
          exact atI_last _ _
        refine ⟨_, rfl, pr, _, _, _, rfl, rfl, .inl (.inl (o2 (old hpr))), atI_nat (j := 0) i0, r0.a, dr0, _, rfl, o2 (old hr0), rfl, r0.a, dr0, dl0, (lv r0.l).a, (lv r0.l).d, r0.n, r0.m, (lv r0.l).w, (lv r0.l).k, (lv r0.l).o, rfl, o2 (old hr0), o2 (old hl0), L0.r.wl, ?_⟩
        refine ⟨_, rfl, _, rfl, pr, _, _, _, rfl, rfl, .inl (.inl (o2 (old hpr))), il, rl.a, drl, _, rfl, o2 (old hrl), rfl, rl.a, drl, dll, (lv rl.l).a, (lv rl.l).d, rl.n, rl.m, (lv rl.l).w, (lv rl.l).k, (lv rl.l).o, rfl, o2 (old hrl), o2 (old hll), Ll.r.wl, ?_⟩
        refine ⟨_, rfl, (by show 3 ≤ sizeLine; decide), fun p3 np3 => ?_⟩
        have hx3 : x ≠ p3 := ne_of_none (o2 hx') np3
        refine ⟨_, rfl, x, dn, _, rfl, (by rw [upd_ne hx3]; exact o2 hx'), rfl, x, dn, accAll lv rs, rfl, (by rw [upd_ne hx3]; exact o2 hx'), gA, mA', fun p4 np4 => ?_⟩
        have h34 : p3 ≠ p4 := fun e => by rw [← e, upd_same] at np4; cases np4
        refine ⟨p3, p4, _, _, rfl, rfl, (by rw [upd_ne h34]; exact upd_same), upd_same, ?_, fun p5 np5 => ?_⟩
        · have h12 : ((Sq05.told (accAll lv rs)).map V.int).length = 12 := by rw [List.length_map, told_len]
          rw [h12]
          show 3 + 12 ≤ sizeLine
          decide
        · have x3 : Ext H2 (upd H2 p3 (.lst [V.int ((r0.n * (lv r0.l).w : Nat) : Int), V.int (((rl.n + rl.m) * (lv rl.l).w : Nat) : Int), V.int (rs.map fun r => (r.m : Int)).sum])) := Keeps.new np3
          refine q p5 _ ?_ ?_ (Ext.trans eH' (Ext.trans e2 (Ext.trans x3 (Ext.trans (Keeps.new np4) (Keeps.new np5)))))
          · rw [upd_same]
            unfold outR
            rw [List.map_append]
            rfl
          · exact (Ext.trans eH' (Ext.trans e2 (Ext.trans x3 (Keeps.new np4)))).dom _ np5
end
end TC
namespace TC
open PySem PySem.Spec PyProof.Rows L2
theorem spec_call {P : Program} {w : World} {K : PySem.W.Frag} {mg mb : Str → Option Value} {CX : CXT} {k : Nat} {fa a : Addr} {fd : FuncData} {x : Str} {sp : Sp} {s₁ : Shared} {vs : List Value} {ns out : List Int}
    (KX : K.In s₁.heap) (hns : s₁.heap.Ns mainGlobals mg) (hb : s₁.heap.Ns builtinsNs mb) (hbb : ∀ x : Str, x ≠ "__name__" → mb x = bootBuiltins x) (hlim : s₁.heap.NoLimit) (hg : s₁.gens = #[])
    (ha : s₁.heap.get? a = some { cls := .type "list", data := .seq vs.toArray }) (hi : IntsAre vs ns) (hl : ns.length ≤ sizeLine) (hr : Room k callerA)
    (F : ∀ base : Heap, K.In base → base.Ns mainGlobals mg → FnOk P w K mg base CX k fa fd [x] sp) (hbind : ∀ (s : Shared) (u : Value), BindsTo s fd ⟨[u], []⟩ [(x, u)])
    (hsp : ∀ H : Hp, Only H → SqL K H a (ns.map V.int) → sp [.ref a] H (fun v H' => ∃ p, v = .ref p ∧ H' p = some (.lst (out.map V.int))) fun _ _ _ => False)
    (hCX : ∀ H e s', CX [] H s₁ (fun _ _ _ => False) e s' → False) :
    codeAny (model P w) callerA (.call (.ref fa) ⟨[.ref a], []⟩) (fun r s' => (∃ p its, r = .ok (.ret (.ref p)) ∧ s'.heap.IsList p its ∧ IntsAre its.toList out) ∧ OldK s₁.heap s'.heap ∧ s'.os = s₁.os ∧ AllBare s'.gens) s₁ := by
  have rv := vals_ints hi
  have lenV := hi.length
  have core : ∀ H : Hp, Only H → SqL K H a (ns.map V.int) → HOk P w H s₁.heap → (∀ b, H b ≠ none → b = a) → (H a ≠ none → K.lookup a = none) →
      codeAny (model P w) callerA (.call (.ref fa) ⟨[.ref a], []⟩) (fun r s' => (∃ p its, r = .ok (.ret (.ref p)) ∧ s'.heap.IsList p its ∧ IntsAre its.toList out) ∧ OldK s₁.heap s'.heap ∧ s'.os = s₁.os ∧ AllBare s'.gens) s₁ := by
    intro H hO hS hok hA hK
    have base_of : ∀ {b : Addr} {o : Obj}, s₁.heap.get? b = some o → H b = none → (hidT s₁.heap H).get? b = some o := fun e n => hidT_get e n
    have noA : ∀ {b : Addr} {o : Obj} {es : Array DictEntry} {ep : Nat}, s₁.heap.get? b = some o → o.data = .dict es ep → H b = none := fun {b o es ep} e d => by
      cases q : H b with
      | none => rfl
      | some u =>
        have e' : b = a := hA b (by rw [q]; simp)
        subst e'
        rw [ha] at e; cases e
        have d' : Data.seq vs.toArray _ = Data.dict es ep := d
        cases d'
    have nsK : ∀ {b : Addr} {m : Str → Option Value}, s₁.heap.Ns b m → (hidT s₁.heap H).Ns b m := fun {b m} ⟨o, es, ep, e, d, r⟩ => ⟨o, es, ep, base_of e (noA e d), d, r⟩
    have hKb : K.In (hidT s₁.heap H) := fun b o e => base_of (KX b o e) (by
      cases q : H b with
      | none => rfl
      | some u =>
        have e' : b = a := hA b (by rw [q]; simp)
        subst e'
        rw [hK (by rw [q]; simp)] at e; cases e)
    have hM : Mod K mg (hidT s₁.heap H) := ⟨hKb, nsK hns, ⟨mb, nsK hb, hbb⟩, let ⟨mc, h1, h2⟩ := hlim; ⟨mc, nsK h1, h2⟩⟩
    have e0 : Env0 P w K mg (hidT s₁.heap H) callerA [] s₁ H := ⟨rfl, hM, fun b o e => of_hidT e, Nat.le_of_eq (hidT_size _ _), trivial, fun b hb => absurd (show b ∈ ([] : List Addr) from hb) (by simp), hok, .of_eq hg⟩
    refine codeAny_mono ((F _ hKb (nsK hns)).run callerA [] s₁ H ⟨[.ref a], []⟩ [.ref a] [.ref a] _ _ hr e0 (hbind s₁ (.ref a)) (.cons rfl .nil) (hsp H hO hS)) fun r s' h => ?_
    cases r with
    | error e => exact (hCX H e s' h).elim
    | ok fl =>
      cases fl with
      | next => exact False.elim h
      | brk => exact False.elim h
      | cont => exact False.elim h
      | ret u =>
        obtain ⟨v, H', os, bare, un, hok', r', q⟩ := h
        obtain ⟨p, rfl, hp⟩ := q
        obtain rfl : u = Value.ref p := r'
        obtain ⟨_, its, n, rel, hobj⟩ := (show ObjOk P w H' s'.heap p (.lst (out.map V.int)) from hok' p _ hp)
        refine ⟨⟨p, its.toArray, rfl, ⟨_, hobj, rfl, _, rfl⟩, by simpa using Vals.ints rel⟩, OldK.of_keep fun b o e => ?_, os, bare⟩
        cases q : H b with
        | none => exact un.keep b o e q (by intro z; exact absurd (show b ∈ ([] : List Addr) from z) (by simp)) (by simp)
        | some u =>
          rcases hO b with z | ⟨ob, xs, z⟩
          · rw [q] at z; cases z
          · have z2 := un.frzs b ob _ z
            obtain ⟨e1, _⟩ := hok b _ z
            obtain ⟨e2, _⟩ := hok' b _ z2
            rw [e] at e1; cases e1
            exact e2
  cases hk : K.lookup a with
  | some o =>
    have e := KX a o hk
    rw [ha] at e
    cases e
    refine core (fun _ => none) (fun _ => .inl rfl) (.inr ⟨_, vs.toArray, _, hk, rfl, rfl, rfl, by rw [List.size_toArray, lenV]; exact hl, by simpa using rv⟩) (fun b u z => by have z' : (none : Option HO) = some u := z; cases z') (fun b z => absurd rfl z) fun z => absurd rfl z
  | none =>
    refine core (fun b => if b = a then some (.frz { cls := .type "list", data := .seq vs.toArray } (.lst (ns.map V.int))) else none) (fun b => ?_) (.inl (.inr ⟨{ cls := .type "list", data := .seq vs.toArray }, if_pos rfl⟩)) (fun b u z => ?_) (fun b z => ?_) fun _ => hk
    · by_cases hb : b = a
      · exact .inr ⟨_, _, if_pos hb⟩
      · exact .inl (if_neg hb)
    · by_cases hb : b = a
      · have z' := (if_pos hb).symm.trans z
        cases z'
        subst hb
        exact ⟨ha, by rw [List.length_map]; exact hl, vs, _, rv, ha⟩
      · have z' := (if_neg hb).symm.trans z
        cases z'
    · by_cases hb : b = a
      · exact hb
      · exact absurd (if_neg hb) z
open PySem.W PySem.Calls in
theorem walk_spec {r : OpenSpec} {lo hi : Int} {most : Nat} {k : Nat} {q : Program} {loose : List Str} {XP : (Str → Option Value) → Heap → Prop} {YP : World → Heap → Prop} {d : DefRec} {K : Params → Frag} {sp : Frag → Sp} {x : Str} {f : List Int → List Int} {as : List Int → Bool}
    (hdf : d.params.defaults = []) (hm : most ≤ sizeLine) (hr : Room k callerA)
    (hpre : ∀ args : List WData, r.pre args = true → ∃ ns : List Int, args = [WData.list (ns.map WData.int)] ∧ ns.length ≤ most ∧ (∀ n ∈ ns, lo ≤ n ∧ n ≤ hi) ∧ as ns = true)
    (hpost : ∀ ns : List Int, r.pre [WData.list (ns.map WData.int)] = true → r.post [WData.list (ns.map WData.int)] (.list ((f ns).map .int)) = true)
    (hY : ∀ (w : World) (h : Heap), YP w h → (K w.params).In h)
    (F : ∀ (w : World) (mg : Str → Option Value) (fa : Addr) (h : Heap), (K w.params).In h → h.Ns mainGlobals mg → mg d.name = some (.ref fa) →
      ∃ fd : FuncData, (∀ (s : Shared) (u : Value), BindsTo s fd ⟨[u], []⟩ [(x, u)]) ∧ ∀ base : Heap, (K w.params).In base → base.Ns mainGlobals mg → FnOk r.prog w (K w.params) mg base CX0 k fa fd [x] (sp (K w.params)))
    (hsp : ∀ (K : Frag) (H : Hp) (a : Addr) (ns : List Int), ns.length ≤ most → (∀ n ∈ ns, lo ≤ n ∧ n ≤ hi) → as ns = true → Only H → SqL K H a (ns.map V.int) → sp K [.ref a] H (fun v H' => ∃ p, v = .ref p ∧ H' p = some (.lst ((f ns).map V.int))) fun _ _ _ => False) :
    WalkOS q loose XP YP r d [] (fun f vs => PySem.call f vs) := by
  intro w s₀ s₁ mg mb G Y fa o pm cd doc dV kV ho hd hcd hD hmg hg args vals as' hp hlay hrd hwl hlo
  obtain rfl : dV = .none := Dflts.none hD hdf
  obtain rfl : kV = .none := Dflts.noKw hD
  obtain ⟨ns, rfl, hlen, hin, has⟩ := hpre args hp
  cases hwl with
  | cons w1 w2 =>
    cases w2
    cases w1 with
    | list hobj hall =>
      have hints := Att.ints_of_wellAll ns _ hall
      have KX := hY w _ Y
      obtain ⟨fd, hb, hF⟩ := F w mg fa _ KX G.T.g hmg
      refine enter_call (codeAny_mono (spec_call (out := f ns) KX G.T.g G.T.b G.T.builtins G.T.nolimit hg hobj hints (Nat.le_trans hlen hm) hr hF hb (fun H hO hS => hsp _ H _ ns hlen hin has hO hS) fun H e s' h => h.elim) fun res s' hq => ?_)
      obtain ⟨⟨p, its, rfl, hL, hI⟩, h2, h3, h4⟩ := hq
      refine ⟨.inl ⟨.ref p, _, [p], rfl, fun _ => rfl, readsW_of_reads (d := .list ((f ns).map PyData.int)) ?_, ?_, fun h => absurd h Bool.false_ne_true⟩, h2, h3, h4⟩
      · obtain ⟨ol, hol, hcl, nl, hdl⟩ := hL
        exact .list hol hcl hdl (readsAll_of_ints hI)
      · show r.post _ _ = true
        rw [os_list rfl]
        exact hpost ns hp
end TC
namespace TC
open Sq05
structure SetGood (s : Set) : Prop where
  ex : ∃ w a b c k0 k1 k2 k3, s = ⟨w, [a, b, c], [k0, k1, k2, k3]⟩ ∧ 1 ≤ w ∧ w ≤ 2 ^ 40 ∧ (2 ≤ a ∧ a ≤ 64) ∧ (2 ≤ b ∧ b ≤ 64) ∧ (2 ≤ c ∧ c ≤ 64) ∧ (1 ≤ k0 ∧ k0 ≤ 4096) ∧ (1 ≤ k1 ∧ k1 ≤ 4096) ∧ (1 ≤ k2 ∧ k2 ≤ 4096) ∧ (1 ≤ k3 ∧ k3 ≤ 4096)
def okP (w a b c k0 k1 k2 k3 : Nat) : Prop := (1 ≤ w ∧ w ≤ 2 ^ 40) ∧ ((2 ≤ a ∧ a ≤ 64) ∧ (2 ≤ b ∧ b ≤ 64) ∧ (2 ≤ c ∧ c ≤ 64)) ∧ ((1 ≤ k0 ∧ k0 ≤ 4096) ∧ (1 ≤ k1 ∧ k1 ≤ 4096) ∧ (1 ≤ k2 ∧ k2 ≤ 4096) ∧ (1 ≤ k3 ∧ k3 ≤ 4096)) ∧
  (k0 ≤ (k1 - 1) * a ∧ k1 ≤ (k2 - 1) * b ∧ k2 ≤ (k3 - 1) * c)
theorem ok_iff (w a b c k0 k1 k2 k3 : Nat) : (⟨w, [a, b, c], [k0, k1, k2, k3]⟩ : Set).ok = true ↔ okP w a b c k0 k1 k2 k3 := by
  have e3 : List.range (LEVELS - 1) = [0, 1, 2] := rfl
  unfold Set.ok okP
  rw [e3]
  simp only [List.all_cons, List.all_nil, Bool.and_true, Bool.and_eq_true, decide_eq_true_eq, LEVELS, List.length_cons, List.length_nil, List.getD_cons_zero, List.getD_cons_succ]
  constructor
  · rintro ⟨h1, h2, h3, h4, h5, h6, h7⟩
    exact ⟨⟨h1, h2⟩, h4, h6, h7⟩
  · rintro ⟨⟨h1, h2⟩, h4, h6, h7⟩
    exact ⟨h1, h2, trivial, h4, trivial, h6, h7⟩
theorem good_of_ok {w a b c k0 k1 k2 k3 : Nat} (h : okP w a b c k0 k1 k2 k3) : SetGood ⟨w, [a, b, c], [k0, k1, k2, k3]⟩ :=
  ⟨w, a, b, c, k0, k1, k2, k3, rfl, h.1.1, h.1.2, h.2.1.1, h.2.1.2.1, h.2.1.2.2, h.2.2.1.1, h.2.2.1.2.1, h.2.2.1.2.2.1, h.2.2.1.2.2.2⟩
theorem good_first : SetGood first_ := ⟨_, _, _, _, _, _, _, _, rfl, by decide⟩
theorem SetGood.wide {s : Set} (g : SetGood s) : ∀ l, l < 4 → 0 < s.wide l ∧ s.wide l < 2 ^ 60 := by
  obtain ⟨w, a, b, c, k0, k1, k2, k3, rfl, h1, h2, ⟨a1, a2⟩, ⟨b1, b2⟩, ⟨c1, c2⟩, _⟩ := g.ex
  have e1 : 0 < w * a ∧ w * a ≤ 2 ^ 40 * 64 := ⟨Nat.mul_pos h1 (by omega), Nat.mul_le_mul h2 a2⟩
  have e2 : 0 < w * a * b ∧ w * a * b ≤ 2 ^ 40 * 64 * 64 := ⟨Nat.mul_pos e1.1 (by omega), Nat.mul_le_mul e1.2 b2⟩
  have e3 : 0 < w * a * b * c ∧ w * a * b * c ≤ 2 ^ 40 * 64 * 64 * 64 := ⟨Nat.mul_pos e2.1 (by omega), Nat.mul_le_mul e2.2 c2⟩
  intro l hl
  have : l = 0 ∨ l = 1 ∨ l = 2 ∨ l = 3 := by omega
  rcases this with rfl | rfl | rfl | rfl
  · show 0 < w ∧ w < 2 ^ 60
    omega
  · show 0 < w * a ∧ w * a < 2 ^ 60
    omega
  · show 0 < w * a * b ∧ w * a * b < 2 ^ 60
    omega
  · show 0 < w * a * b * c ∧ w * a * b * c < 2 ^ 60
    omega
theorem SetGood.ok {s : Set} (g : SetGood s) : SetOk s := by
  refine ⟨fun l hl => (g.wide l hl).1, fun i j hij hj => ?_⟩
  obtain ⟨w, a, b, c, k0, k1, k2, k3, rfl, _⟩ := g.ex
  have d01 : w ∣ w * a := Nat.dvd_mul_right _ _
  have d12 : w * a ∣ w * a * b := Nat.dvd_mul_right _ _
  have d23 : w * a * b ∣ w * a * b * c := Nat.dvd_mul_right _ _
  have : (i = 0 ∧ j = 0) ∨ (i = 0 ∧ j = 1) ∨ (i = 0 ∧ j = 2) ∨ (i = 0 ∧ j = 3) ∨ (i = 1 ∧ j = 1) ∨ (i = 1 ∧ j = 2) ∨ (i = 1 ∧ j = 3) ∨ (i = 2 ∧ j = 2) ∨ (i = 2 ∧ j = 3) ∨ (i = 3 ∧ j = 3) := by omega
  rcases this with ⟨rfl, rfl⟩ | ⟨rfl, rfl⟩ | ⟨rfl, rfl⟩ | ⟨rfl, rfl⟩ | ⟨rfl, rfl⟩ | ⟨rfl, rfl⟩ | ⟨rfl, rfl⟩ | ⟨rfl, rfl⟩ | ⟨rfl, rfl⟩ | ⟨rfl, rfl⟩
  · exact Nat.dvd_refl _
  · exact d01
  · exact Nat.dvd_trans d01 d12
  · exact Nat.dvd_trans (Nat.dvd_trans d01 d12) d23
  · exact Nat.dvd_refl _
  · exact d12
  · exact Nat.dvd_trans d12 d23
  · exact Nat.dvd_refl _
  · exact d23
  · exact Nat.dvd_refl _
theorem SetGood.kept {s : Set} (g : SetGood s) : ∀ l, l < 4 → 1 ≤ s.kept.getD l 0 ∧ s.kept.getD l 0 ≤ 4096 := by
  obtain ⟨w, a, b, c, k0, k1, k2, k3, rfl, _, _, _, _, _, h0, h1, h2, h3⟩ := g.ex
  intro l hl
  have : l = 0 ∨ l = 1 ∨ l = 2 ∨ l = 3 := by omega
  rcases this with rfl | rfl | rfl | rfl
  · exact h0
  · exact h1
  · exact h2
  · exact h3
theorem SetGood.enough {s : Set} (g : SetGood s) (t x : Nat) : Phi s t x ≤ ENOUGH := by
  have h := Phi_le s t x
  have h0 := (g.kept 0 (by omega)).2
  have h1 := (g.kept 1 (by omega)).2
  have h2 := (g.kept 2 (by omega)).2
  have h3 := (g.kept 3 (by omega)).2
  unfold ENOUGH
  omega
theorem oldest_le {s : Set} {l t : Nat} (h : 1 ≤ s.kept.getD l 0) : s.oldest l t ≤ t / s.wide l := by
  unfold Set.oldest
  generalize t / s.wide l = z
  omega
theorem oldest_mono {s : Set} {l t t' : Nat} (h : t ≤ t') : s.oldest l t ≤ s.oldest l t' := by
  have := Nat.div_le_div_right (c := s.wide l) h
  unfold Set.oldest
  revert this
  generalize t / s.wide l = z
  generalize t' / s.wide l = z'
  omega
end TC
namespace TC
open PySem L2
theorem and_t {p q : Prop} [Decidable p] [Decidable q] (h : decide p = true) : decide (p ∧ q) = decide q := by
  have := of_decide_eq_true h
  by_cases hq : q <;> simp [this, hq]
theorem and_f {p q : Prop} [Decidable p] [Decidable q] (h : ¬ decide p = true) : decide (p ∧ q) = false := by
  have : ¬ p := fun e => h (decide_eq_true e)
  simp [this]
theorem or_t {p q : Prop} [Decidable p] [Decidable q] (h : decide p = true) : decide (p ∨ q) = true := by
  have := of_decide_eq_true h
  simp [this]
theorem or_f {p q : Prop} [Decidable p] [Decidable q] (h : ¬ decide p = true) : decide (p ∨ q) = decide q := by
  have : ¬ p := fun e => h (decide_eq_true e)
  by_cases hq : q <;> simp [this, hq]
section
variable {P : Program} {w : World} {K : PySem.W.Frag} {mg : Str → Option Value} {base : Heap} {t : Adr}
def sp_fIch : Sp := fun vs H Q _ => ∃ (z : Int), vs = [.int z] ∧ Q (.bl (decide (0 ≤ z ∧ z ≤ 63))) H
theorem sc_fIch : FnScope ["number"] ["number"] (defScope st_fIch) := ⟨rfl, rfl, rfl, by decide +kernel, rfl, by decide +kernel, by decide +kernel⟩
theorem ok_fIch (T : Txt K mg t) : FnOk P w K mg base CX0 1 t.f_fIch t.d_fIch ["number"] sp_fIch := by
  refine T.F_fIch.ok sc_fIch (fun vs H Q E h => ?_) (fun cdv A outer s H vs Q E hr h => ?_)
  · obtain ⟨z, rfl, _⟩ := h
    rfl
  · obtain ⟨z, rfl, k⟩ := h
    refine ⟨_, pss_one (ps_ret (pe_chain op_le op_le pe_int (pv 0) pe_int)), ?_⟩
    refine ⟨_, rfl, _, _, rfl, rfl, _, rfl, ite2 (fun h1 => ?_) fun h1 => ?_⟩
    · rw [and_t h1] at k
      exact ⟨_, _, rfl, rfl, k⟩
    · rw [and_f h1] at k
      exact k
def sp_fIlv : Sp := fun vs H Q _ => ∃ (z : Int), vs = [.int z] ∧ Q (.bl (decide (0 ≤ z ∧ z ≤ 3))) H
theorem sc_fIlv : FnScope ["number"] ["number"] (defScope st_fIlv) := ⟨rfl, rfl, rfl, by decide +kernel, rfl, by decide +kernel, by decide +kernel⟩
theorem ok_fIlv (T : Txt K mg t) : FnOk P w K mg base CX0 1 t.f_fIlv t.d_fIlv ["number"] sp_fIlv := by
  refine T.F_fIlv.ok sc_fIlv (fun vs H Q E h => ?_) (fun cdv A outer s H vs Q E hr h => ?_)
  · obtain ⟨z, rfl, _⟩ := h
    rfl
  · obtain ⟨z, rfl, k⟩ := h
    refine ⟨_, pss_one (ps_ret (pe_chain op_le op_le pe_int (pv 0) pe_int)), ?_⟩
    refine ⟨_, rfl, _, _, rfl, rfl, _, rfl, ite2 (fun h1 => ?_) fun h1 => ?_⟩
    · rw [and_t h1] at k
      exact ⟨_, _, rfl, rfl, k⟩
    · rw [and_f h1] at k
      exact k
def sp_fItm : Sp := fun vs H Q _ => ∃ (z : Int), vs = [.int z] ∧ Q (.bl (decide (0 ≤ z ∧ z ≤ 4611686018427387904))) H
theorem sc_fItm : FnScope ["number"] ["number"] (defScope st_fItm) := ⟨rfl, rfl, rfl, by decide +kernel, rfl, by decide +kernel, by decide +kernel⟩
theorem ok_fItm (T : Txt K mg t) : FnOk P w K mg base CX0 1 t.f_fItm t.d_fItm ["number"] sp_fItm := by
  refine T.F_fItm.ok sc_fItm (fun vs H Q E h => ?_) (fun cdv A outer s H vs Q E hr h => ?_)
  · obtain ⟨z, rfl, _⟩ := h
    rfl
  · obtain ⟨z, rfl, k⟩ := h
    obtain ⟨kn, hn⟩ := T.i_GREATEST
    refine ⟨_, pss_one (ps_ret (pe_chain op_le op_le pe_int (pv 0) (pe_glob (v := .int 4611686018427387904) rfl hn ⟨kn, rfl⟩))), ?_⟩
    refine ⟨_, rfl, _, _, rfl, rfl, _, rfl, ite2 (fun h1 => ?_) fun h1 => ?_⟩
    · rw [and_t h1] at k
      exact ⟨_, _, rfl, rfl, k⟩
    · rw [and_f h1] at k
      exact k
abbrev ValP (z : Int) : Prop := z = -9223372036854775808 ∨ (-4611686018427387904 ≤ z ∧ z ≤ 4611686018427387904)
def sp_fIvl : Sp := fun vs H Q _ => ∃ (z : Int), vs = [.int z] ∧ Q (.bl (decide (z = -9223372036854775808 ∨ (-4611686018427387904 ≤ z ∧ z ≤ 4611686018427387904)))) H
theorem sc_fIvl : FnScope ["number"] ["number"] (defScope st_fIvl) := ⟨rfl, rfl, rfl, by decide +kernel, rfl, by decide +kernel, by decide +kernel⟩
theorem dec_zi (i j : Int) : decide (V.int i = V.int j) = decide (i = j) := by
  by_cases h : i = j <;> simp [h]
theorem ok_fIvl (T : Txt K mg t) : FnOk P w K mg base CX0 1 t.f_fIvl t.d_fIvl ["number"] sp_fIvl := by
  refine T.F_fIvl.ok sc_fIvl (fun vs H Q E h => ?_) (fun cdv A outer s H vs Q E hr h => ?_)
  · obtain ⟨z, rfl, _⟩ := h
    rfl
  · obtain ⟨z, rfl, k⟩ := h
    obtain ⟨kn, hn⟩ := T.i_GREATEST
    obtain ⟨km, hm⟩ := T.i_NO_VALUE
    refine ⟨_, pss_one (ps_ret (pe_or (pe_cmpR op_eq (pv 0) (pe_glob (v := .int (-9223372036854775808)) rfl hm ⟨km, rfl⟩) (nomark _)) (pe_one (pe_chain op_le op_le (pe_un un_neg (pe_glob (v := .int 4611686018427387904) rfl hn ⟨kn, rfl⟩)) (pv 0) (pe_glob (v := .int 4611686018427387904) rfl hn ⟨kn, rfl⟩))))), ?_⟩
    refine ⟨_, rfl, rfl, _, rfl, ite2 (fun h1 => ?_) fun h1 => ?_⟩
    · rw [dec_zi] at h1
      rw [or_t h1] at k
      exact k
    · rw [dec_zi] at h1
      rw [or_f h1] at k
      refine ⟨_, rfl, _, rfl, _, _, rfl, rfl, _, rfl, ite2 (fun h2 => ?_) fun h2 => ?_⟩
      · rw [and_t h2] at k
        exact ⟨_, _, rfl, rfl, k⟩
      · rw [and_f h2] at k
        exact k
def sp_fCad : Sp := fun vs H Q _ => ∃ (c x v q : Int), vs = [.int c, .int x, .int v, .int q] ∧
  Q (.bl (decide ((0 ≤ c ∧ c ≤ 63) ∧ (0 ≤ x ∧ x ≤ 4611686018427387904) ∧ (v = -9223372036854775808 ∨ (-4611686018427387904 ≤ v ∧ v ≤ 4611686018427387904)) ∧ (0 ≤ q ∧ q ≤ 255)))) H
theorem sc_fCad : FnScope ["channel", "time", "value", "marks"] ["channel", "time", "value", "marks"] (defScope st_fCad) := ⟨rfl, rfl, rfl, by decide +kernel, rfl, by decide +kernel, by decide +kernel⟩
theorem ok_fCad (T : Txt K mg t) : FnOk P w K mg base CX0 2 t.f_fCad t.d_fCad ["channel", "time", "value", "marks"] sp_fCad := by
  refine T.F_fCad.ok sc_fCad (fun vs H Q E h => ?_) (fun cdv A outer s H vs Q E hr h => ?_)
  · obtain ⟨c, x, v, q, rfl, _⟩ := h
    rfl
  · obtain ⟨c, x, v, q, rfl, k⟩ := h
    refine ⟨_, pss_one (ps_ret (pe_and (pe_call (ok_fIch T) hr rfl T.g_fIch T.F_fIch.kp T.b_fIch .nil pass0 (pa_cons (pv 0) pa_nil))
      (pe_and (pe_call (ok_fItm T) hr rfl T.g_fItm T.F_fItm.kp T.b_fItm .nil pass0 (pa_cons (pv 1) pa_nil))
      (pe_and (pe_call (ok_fIvl T) hr rfl T.g_fIvl T.F_fIvl.kp T.b_fIvl .nil pass0 (pa_cons (pv 2) pa_nil)) (pe_one (pe_chain op_le op_le pe_int (pv 3) pe_int)))))), ?_⟩
    refine ⟨_, rfl, c, rfl, _, rfl, ite2 (fun h1 => ?_) fun h1 => ?_⟩
    · rw [and_t h1] at k
      refine ⟨_, rfl, x, rfl, _, rfl, ite2 (fun h2 => ?_) fun h2 => ?_⟩
      · rw [and_t h2] at k
        refine ⟨_, rfl, v, rfl, _, rfl, ite2 (fun h3 => ?_) fun h3 => ?_⟩
        · rw [and_t h3] at k
          refine ⟨_, rfl, _, _, rfl, rfl, _, rfl, ite2 (fun h4 => ?_) fun h4 => ?_⟩
          · rw [and_t h4] at k
            exact ⟨_, _, rfl, rfl, k⟩
          · rw [and_f h4] at k
            exact k
        · rw [and_f h3] at k
          exact k
      · rw [and_f h2] at k
        exact k
    · rw [and_f h1] at k
      exact k
def sp_fCask : Sp := fun vs H Q _ => ∃ (c x y : Int), vs = [.int c, .int x, .int y] ∧
  Q (.bl (decide ((0 ≤ c ∧ c ≤ 63) ∧ (0 ≤ x ∧ x ≤ 4611686018427387904) ∧ (0 ≤ y ∧ y ≤ 4611686018427387904) ∧ x < y))) H
theorem sc_fCask : FnScope ["channel", "a", "b"] ["channel", "a", "b"] (defScope st_fCask) := ⟨rfl, rfl, rfl, by decide +kernel, rfl, by decide +kernel, by decide +kernel⟩
theorem ok_fCask (T : Txt K mg t) : FnOk P w K mg base CX0 2 t.f_fCask t.d_fCask ["channel", "a", "b"] sp_fCask := by
  refine T.F_fCask.ok sc_fCask (fun vs H Q E h => ?_) (fun cdv A outer s H vs Q E hr h => ?_)
  · obtain ⟨c, x, y, rfl, _⟩ := h
    rfl
  · obtain ⟨c, x, y, rfl, k⟩ := h
    refine ⟨_, pss_one (ps_ret (pe_and (pe_call (ok_fIch T) hr rfl T.g_fIch T.F_fIch.kp T.b_fIch .nil pass0 (pa_cons (pv 0) pa_nil))
      (pe_and (pe_call (ok_fItm T) hr rfl T.g_fItm T.F_fItm.kp T.b_fItm .nil pass0 (pa_cons (pv 1) pa_nil))
      (pe_and (pe_call (ok_fItm T) hr rfl T.g_fItm T.F_fItm.kp T.b_fItm .nil pass0 (pa_cons (pv 2) pa_nil)) (pe_one (pe_cmpR op_lt (pv 1) (pv 2) (nomark _))))))), ?_⟩
    refine ⟨_, rfl, c, rfl, _, rfl, ite2 (fun h1 => ?_) fun h1 => ?_⟩
    · rw [and_t h1] at k
      refine ⟨_, rfl, x, rfl, _, rfl, ite2 (fun h2 => ?_) fun h2 => ?_⟩
      · rw [and_t h2] at k
        refine ⟨_, rfl, y, rfl, _, rfl, ite2 (fun h3 => ?_) fun h3 => ?_⟩
        · rw [and_t h3] at k
          exact ⟨_, rfl, _, rfl, _, _, rfl, rfl, k⟩
        · rw [and_f h3] at k
          exact k
      · rw [and_f h2] at k
        exact k
    · rw [and_f h1] at k
      exact k
end
end TC
namespace TC
open Sq05
theorem run_head {l n m : Nat} (h : 1 ≤ m) : ∃ r, run l n m = (l, n) :: r := by
  obtain ⟨k, rfl⟩ : ∃ k, m = k + 1 := ⟨m - 1, by omega⟩
  exact ⟨_, run_succ l n k⟩
theorem run_last {l n m : Nat} (h : 1 ≤ m) : ∃ r, run l n m = r ++ [(l, n + m - 1)] := by
  obtain ⟨k, rfl⟩ : ∃ k, m = k + 1 := ⟨m - 1, by omega⟩
  refine ⟨run l n k, ?_⟩
  unfold run
  rw [List.range_succ, List.map_append]
  rfl
theorem cellsR_cons (r : RunD) (rs : List RunD) : cellsR (r :: rs) = run r.l r.n r.m ++ cellsR rs := by
  unfold cellsR
  rw [List.flatMap_cons]
theorem runs_sum : ∀ rs : List RunD, (rs.map fun r => (r.m : Int)).sum = ((cellsR rs).length : Int)
  | [] => rfl
  | r :: rs => by
    rw [List.map_cons, List.sum_cons, runs_sum rs, cellsR_cons, List.length_append, run_length]
    omega
theorem fold_one {k : Channel} {v : LvD} {l : Nat} (hc : k.cells.getD l [] = cellsOf v.L) (hr : Rising (cellsOf v.L)) (n m : Nat) (a : Sum) :
    (run l n m).foldl (fun m z => join m (k.cell z.1 z.2)) a = accIn (v.L.filter (inR n m)) a := by
  have e1 : (run l n m).foldl (fun m z => join m (k.cell z.1 z.2)) a = (run l n m).foldl (fun a z => join a (cellOf (k.cells.getD l []) z.2)) a := by
    unfold run
    rw [List.foldl_map, List.foldl_map]
    rfl
  rw [e1, hc, fold_run hr, ← filt_within]
  unfold cellsOf accIn
  rw [List.foldl_map]
theorem fold_cells {k : Channel} {lv : Nat → LvD} (hc : ∀ l, l < 4 → k.cells.getD l [] = cellsOf (lv l).L) (hr : ∀ l, l < 4 → Rising (cellsOf (lv l).L)) : ∀ (rs : List RunD) (a : Sum), (∀ r ∈ rs, r.l < 4) →
    (cellsR rs).foldl (fun m z => join m (k.cell z.1 z.2)) a = rs.foldl (accRun lv) a
  | [], a, _ => rfl
  | r :: rs, a, h => by
    have hl := h r (by simp)
    rw [cellsR_cons, List.foldl_append, fold_one (hc r.l hl) (hr r.l hl), fold_cells hc hr rs _ fun q hq => h q (by simp [hq])]
    rfl
theorem asked_none {S : State} {k : Channel} {tm a b : Nat} (hl : k.last = some tm) (h : S.set.cover tm (min b ((tm / S.set.wide 0 + 1) * S.set.wide 0)) ENOUGH (max a (S.set.oldest 3 tm * S.set.wide 3)) = []) : S.asked k a b = none := by
  unfold State.asked
  rw [hl]
  show (if min b ((tm / S.set.wide 0 + 1) * S.set.wide 0) ≤ max a (S.set.oldest 3 tm * S.set.wide 3) then none else _) = _
  split
  · rfl
  · show (match (S.set.cover tm (min b ((tm / S.set.wide 0 + 1) * S.set.wide 0)) ENOUGH (max a (S.set.oldest 3 tm * S.set.wide 3))).head?, (S.set.cover tm (min b ((tm / S.set.wide 0 + 1) * S.set.wide 0)) ENOUGH (max a (S.set.oldest 3 tm * S.set.wide 3))).getLast? with
      | some p, some q => _
      | _, _ => none) = none
    rw [h]
    rfl
theorem asked_some {S : State} {k : Channel} {tm a b : Nat} {lv : Nat → LvD} {rs : List RunD} {r0 rl : RunD} (hl : k.last = some tm)
    (h : S.set.cover tm (min b ((tm / S.set.wide 0 + 1) * S.set.wide 0)) ENOUGH (max a (S.set.oldest 3 tm * S.set.wide 3)) = cellsR rs)
    (h0 : rs[0]? = some r0) (hr : rs.getLast? = some rl) (hm : ∀ r ∈ rs, r.l < 4 ∧ 1 ≤ r.m) (hw : ∀ l, l < 4 → (lv l).w = S.set.wide l)
    (hc : ∀ l, l < 4 → k.cells.getD l [] = cellsOf (lv l).L) (hri : ∀ l, l < 4 → Rising (cellsOf (lv l).L)) :
    ∃ f, S.asked k a b = some f ∧ [(f.from_ : Int), f.to, f.cells] ++ told f.sum = outR lv rs r0 rl := by
  have m0 := hm r0 (List.mem_of_getElem? h0)
  have ml := hm rl (List.mem_of_getLast? hr)
  have e0 : (cellsR rs).head? = some (r0.l, r0.n) := by
    cases rs with
    | nil => simp at h0
    | cons r rs =>
      have : r = r0 := by simpa using h0
      subst this
      obtain ⟨q, hq⟩ := run_head (l := r.l) (n := r.n) m0.2
      rw [cellsR_cons, hq]
      rfl
  have e1 : (cellsR rs).getLast? = some (rl.l, rl.n + rl.m - 1) := by
    obtain ⟨ys, e⟩ := List.getLast?_eq_some_iff.mp hr
    obtain ⟨q, hq⟩ := run_last (l := rl.l) (n := rl.n) ml.2
    rw [e, cellsR_snoc, hq, ← List.append_assoc]
    exact List.getLast?_concat
  have hne : ¬ min b ((tm / S.set.wide 0 + 1) * S.set.wide 0) ≤ max a (S.set.oldest 3 tm * S.set.wide 3) := fun q => by
    rw [cover_end q] at h
    rw [← h] at e0
    cases e0
  refine ⟨⟨r0.n * S.set.wide r0.l, (rl.n + rl.m - 1 + 1) * S.set.wide rl.l, (cellsR rs).length, (cellsR rs).foldl (fun m z => join m (k.cell z.1 z.2)) empty⟩, ?_, ?_⟩
  · unfold State.asked
    rw [hl]
    show (if min b ((tm / S.set.wide 0 + 1) * S.set.wide 0) ≤ max a (S.set.oldest 3 tm * S.set.wide 3) then none else
      (match (S.set.cover tm (min b ((tm / S.set.wide 0 + 1) * S.set.wide 0)) ENOUGH (max a (S.set.oldest 3 tm * S.set.wide 3))).head?, (S.set.cover tm (min b ((tm / S.set.wide 0 + 1) * S.set.wide 0)) ENOUGH (max a (S.set.oldest 3 tm * S.set.wide 3))).getLast? with
      | some p, some q => some (Found.mk (p.2 * S.set.wide p.1) ((q.2 + 1) * S.set.wide q.1) (S.set.cover tm (min b ((tm / S.set.wide 0 + 1) * S.set.wide 0)) ENOUGH (max a (S.set.oldest 3 tm * S.set.wide 3))).length ((S.set.cover tm (min b ((tm / S.set.wide 0 + 1) * S.set.wide 0)) ENOUGH (max a (S.set.oldest 3 tm * S.set.wide 3))).foldl (fun m z => join m (k.cell z.1 z.2)) empty))
      | _, _ => none)) = _
    rw [if_neg hne, h, e0, e1]
  · unfold outR
    rw [hw r0.l m0.1, hw rl.l ml.1, runs_sum, fold_cells hc hri rs empty fun r hr => (hm r hr).1]
    have e2 : rl.n + rl.m - 1 + 1 = rl.n + rl.m := by omega
    rw [e2]
    rfl
end TC
namespace TC
open PySem L2

def staF (wl kl d : Addr) : List (Str × V) := [("widths", .ref wl), ("kept", .ref kl), ("channels", .ref d)]
structure ChD where
  a : Addr
  ls : Addr
  last : Nat
  lv : Nat → LvD
  M : Addr → Prop
abbrev Chs := List (Nat × ChD)
def kvsC (C : Chs) : List (Key × V) := C.map fun x => (Sum.inl (x.1 : Int), V.ref x.2.a)
def atC (C : Chs) (i : Nat) : Option (Nat × ChD) := C.find? fun x => x.1 == i
theorem val_kvsC (i : Nat) : ∀ C : Chs, valV (kvsC C) (Sum.inl (i : Int)) = (atC C i).map fun x => V.ref x.2.a
  | [] => rfl
  | x :: r => by
    unfold atC
    by_cases e : x.1 = i
    · have e1 : (Sum.inl (x.1 : Int) : Key) = Sum.inl (i : Int) := by rw [e]
      have e2 : valV (kvsC (x :: r)) (Sum.inl (i : Int)) = some (V.ref x.2.a) := valV_pos (p := (Sum.inl (x.1 : Int), V.ref x.2.a)) (r := kvsC r) e1
      rw [e2, List.find?_cons, show (x.1 == i) = true by simp [e]]
      rfl
    · have e1 : ¬ (Sum.inl (x.1 : Int) : Key) = Sum.inl (i : Int) := fun q => e (by have := Sum.inl.inj q; omega)
      have e2 : valV (kvsC (x :: r)) (Sum.inl (i : Int)) = valV (kvsC r) (Sum.inl (i : Int)) := valV_neg (p := (Sum.inl (x.1 : Int), V.ref x.2.a)) (r := kvsC r) e1
      rw [e2, val_kvsC i r, List.find?_cons, show (x.1 == i) = false by simp [e]]
      rfl
theorem atC_some {C : Chs} {i : Nat} {x : Nat × ChD} (h : atC C i = some x) : x ∈ C ∧ x.1 = i := ⟨List.mem_of_find?_eq_some h, by have := List.find?_some h; simpa using this⟩
theorem atC_none {C : Chs} {i : Nat} (h : atC C i = none) : ∀ x ∈ C, x.1 ≠ i := fun x hx e => by
  have := List.find?_eq_none.mp h x hx
  simp [e] at this
def putC (C : Chs) (i : Nat) (c : ChD) : Chs := C.map fun x => if x.1 = i then (i, c) else x
def dropC (C : Chs) (i : Nat) : Chs := C.filter fun x => decide (x.1 ≠ i)
theorem atC_putC {C : Chs} {i : Nat} {c : ChD} {x : Nat × ChD} (h : atC C i = some x) (j : Nat) : atC (putC C i c) j = if j = i then some (i, c) else atC C j := by
  induction C generalizing x with
  | nil => cases h
  | cons y r ih =>
    unfold atC putC at *
    rw [List.map_cons, List.find?_cons, List.find?_cons]
    by_cases e : y.1 = i
    · rw [if_pos e]
      by_cases ej : j = i
      · subst ej
        simp
      · rw [show ((i, c).1 == j) = false by simp; omega, if_neg ej, show (y.1 == j) = false by simp; omega]
        simp only
        by_cases hm : (r.find? fun x => x.1 == i).isSome
        · obtain ⟨z, hz⟩ := Option.isSome_iff_exists.mp hm
          have := ih hz
          rw [if_neg ej] at this
          exact this
        · have hn : ∀ z ∈ r, z.1 ≠ i := fun z hz e => by
            rw [Option.not_isSome_iff_eq_none] at hm
            have := List.find?_eq_none.mp hm z hz
            simp [e] at this
          congr 1
          conv => rhs; rw [← List.map_id r]
          apply List.map_congr_left
          intro z hz
          rw [if_neg (hn z hz)]
          rfl
    · rw [if_neg e]
      rw [List.find?_cons, show (y.1 == i) = false by simp [e]] at h
      have := ih h
      by_cases ej : y.1 = j
      · rw [show (y.1 == j) = true by simp [ej], if_neg (by omega)]
      · rw [show (y.1 == j) = false by simp [ej]]
        exact this
theorem atC_snoc {C : Chs} {i : Nat} {c : ChD} (h : atC C i = none) (j : Nat) : atC (C ++ [(i, c)]) j = if j = i then some (i, c) else atC C j := by
  unfold atC at *
  rw [List.find?_append]
  by_cases e : j = i
  · subst e
    rw [h, if_pos rfl]
    simp
  · rw [if_neg e, List.find?_cons, show ((i, c).1 == j) = false by simp; omega]
    cases C.find? fun x => x.1 == j <;> rfl
theorem atC_dropC {C : Chs} {i : Nat} (j : Nat) : atC (dropC C i) j = if j = i then none else atC C j := by
  induction C with
  | nil => unfold atC dropC; simp
  | cons y r ih =>
    unfold atC dropC at *
    rw [List.filter_cons]
    by_cases e : y.1 = i
    · rw [if_neg (by simp [e]), ih, List.find?_cons]
      by_cases ej : j = i
      · rw [if_pos ej, if_pos ej]
      · rw [if_neg ej, if_neg ej, show (y.1 == j) = false by simp; omega]
    · rw [if_pos (by simp [e]), List.find?_cons, List.find?_cons, ih]
      by_cases ej : y.1 = j
      · have hji : ¬ j = i := by omega
        rw [show (y.1 == j) = true by simp [ej]]
        simp only [if_neg hji]
      · rw [show (y.1 == j) = false by simp [ej]]
theorem kvs_putC {C : Chs} {i : Nat} {c : ChD} (h : ∀ x ∈ C, x.1 = i → x.2.a = c.a) : kvsC (putC C i c) = kvsC C := by
  unfold kvsC putC
  rw [List.map_map]
  apply List.map_congr_left
  intro x hx
  by_cases e : x.1 = i
  · simp only [Function.comp, if_pos e]
    rw [← h x hx e, e]
  · simp only [Function.comp, if_neg e]
theorem kvs_snoc (C : Chs) (i : Nat) (c : ChD) : kvsC (C ++ [(i, c)]) = kvsC C ++ [(Sum.inl (i : Int), V.ref c.a)] := by
  unfold kvsC
  rw [List.map_append]
  rfl
theorem kvs_dropC (C : Chs) (i : Nat) : dropK (kvsC C) (Sum.inl (i : Int)) = kvsC (dropC C i) := by
  unfold kvsC dropK dropC
  rw [List.filter_map]
  congr 1
  apply List.filter_congr
  intro x _
  show decide ((Sum.inl (x.1 : Int) : Key) ≠ Sum.inl (i : Int)) = decide (x.1 ≠ i)
  congr 1
  apply propext
  constructor
  · intro h e
    exact h (by rw [e])
  · intro h e
    exact h (by have := Sum.inl.inj e; omega)
theorem one_C {C : Chs} (h : (C.map (·.1)).Nodup) {x y : Nat × ChD} (hx : x ∈ C) (hy : y ∈ C) (e : x.1 = y.1) : x = y := by
  induction C with
  | nil => simp at hx
  | cons z r ih =>
    rw [List.map_cons, List.nodup_cons] at h
    rcases List.mem_cons.mp hx with rfl | hx'
    · rcases List.mem_cons.mp hy with rfl | hy'
      · rfl
      · exact absurd (List.mem_map.mpr ⟨y, hy', e.symm⟩) h.1
    · rcases List.mem_cons.mp hy with rfl | hy'
      · exact absurd (List.mem_map.mpr ⟨x, hx', e⟩) h.1
      · exact ih h.2 hx' hy'
structure StH (K : PySem.W.Frag) (t : Adr) (H : Hp) (M : Addr → Prop) (a wl kl d : Addr) (tp : Bool) (wf kf : Nat → Nat) (C : Chs) : Prop where
  ob : ∃ dx, H a = some (.ins t.cT dx (staF wl kl d))
  wid : H wl = some (.lst (fourV wf))
  kep : KeptAt tp K H kl (fourV kf)
  dct : H d = some (.dK (kvsC C))
  chs : ∀ x ∈ C, ChAt t H x.2.M x.2.a x.2.ls x.2.last x.2.lv
  nd : (C.map (·.1)).Nodup
  lt : ∀ x ∈ C, x.1 < 64
  dis : ∀ x ∈ C, ∀ y ∈ C, x.1 ≠ y.1 → ∀ c, x.2.M c → ¬ y.2.M c
  own : ∀ x ∈ C, ¬ x.2.M a ∧ ¬ x.2.M wl ∧ ¬ x.2.M d ∧ (tp = false → ¬ x.2.M kl)
  inn : ∀ x ∈ C, ∀ c, x.2.M c → M c
  ma : M a
  mw : M wl
  md : M d
  mkl : tp = false → M kl
  dom : ∀ c, H c = none → ¬ M c
section
variable {K : PySem.W.Frag} {t : Adr} {H H' : Hp} {M N : Addr → Prop} {a wl kl d : Addr} {tp : Bool} {wf kf : Nat → Nat} {C : Chs}
theorem StH.len (s : StH K t H M a wl kl d tp wf kf C) : C.length ≤ 64 := by
  have h : (C.map (·.1)).length ≤ (List.range 64).length := by
    refine List.Nodup.length_le_of_subset s.nd fun x hx => ?_
    obtain ⟨y, hy, rfl⟩ := List.mem_map.mp hx
    exact List.mem_range.mpr (s.lt y hy)
  rw [List.length_map, List.length_range] at h
  exact h
theorem StH.frame (s : StH K t H M a wl kl d tp wf kf C) (kp : Keeps N H H') (h : ∀ c, M c → ¬ N c) : StH K t H' M a wl kl d tp wf kf C := by
  refine ⟨let ⟨dx, e⟩ := s.ob; ⟨dx, kp.kp _ _ e (h _ s.ma)⟩, kp.kp _ _ s.wid (h _ s.mw), ?_, kp.kp _ _ s.dct (h _ s.md), fun x hx => (s.chs x hx).frame kp fun c hc => h c (s.inn x hx c hc), s.nd, s.lt, s.dis, s.own, s.inn, s.ma, s.mw, s.md, s.mkl, fun c hc => s.dom c (kp.dom c hc)⟩
  rcases s.kep with ⟨rfl, q⟩ | ⟨rfl, q⟩
  · exact .inl ⟨rfl, q⟩
  · exact .inr ⟨rfl, kp.kp _ _ q (h _ (s.mkl rfl))⟩
theorem StH.ext (s : StH K t H M a wl kl d tp wf kf C) (e : Ext H H') : StH K t H' M a wl kl d tp wf kf C := s.frame e fun _ _ f => f
theorem StH.put {i : Nat} {x : Nat × ChD} {c' : ChD} (s : StH K t H M a wl kl d tp wf kf C) (hx : atC C i = some x) (ha : c'.a = x.2.a) (hc : ChAt t H' c'.M c'.a c'.ls c'.last c'.lv) (kp : Keeps x.2.M H H')
    (sub : ∀ c, c'.M c → x.2.M c ∨ H c = none) (dom : ∀ c, H' c = none → ¬ c'.M c) : StH K t H' (fun c => M c ∨ c'.M c) a wl kl d tp wf kf (putC C i c') := by
  obtain ⟨hxC, hxi⟩ := atC_some hx
  obtain ⟨o1, o2, o3, o4⟩ := s.own x hxC
  have mem : ∀ y ∈ putC C i c', (y = (i, c')) ∨ (y ∈ C ∧ y.1 ≠ i) := fun y hy => by
    obtain ⟨z, hz, rfl⟩ := List.mem_map.mp hy
    by_cases e : z.1 = i
    · exact .inl (if_pos e)
    · rw [if_neg e]
      exact .inr ⟨hz, e⟩
  have new : ∀ c, c'.M c → ∀ y ∈ C, y.1 ≠ i → ¬ y.2.M c := fun c hc y hy hne hm => by
    rcases sub c hc with h | h
    · exact s.dis x hxC y hy (by omega) c h hm
    · exact s.dom c h (s.inn y hy c hm)
  have newo : ∀ c, c'.M c → M c → x.2.M c := fun c hc hm => by
    rcases sub c hc with h | h
    · exact h
    · exact absurd hm (s.dom c h)
  refine ⟨let ⟨dx, e⟩ := s.ob; ⟨dx, kp.kp _ _ e o1⟩, kp.kp _ _ s.wid o2, ?_, ?_, fun y hy => ?_, ?_, fun y hy => ?_, fun y hy z hz hne c h1 h2 => ?_, fun y hy => ?_, fun y hy c hm => ?_, .inl s.ma, .inl s.mw, .inl s.md, fun e => .inl (s.mkl e), fun c h0 hm => ?_⟩
  · rcases s.kep with ⟨rfl, q⟩ | ⟨rfl, q⟩
    · exact .inl ⟨rfl, q⟩
    · exact .inr ⟨rfl, kp.kp _ _ q (o4 rfl)⟩
  · rw [kvs_putC fun y hy e => by rw [one_C s.nd hy hxC (by omega), ha]]
    exact kp.kp _ _ s.dct o3
  · rcases mem y hy with rfl | ⟨h1, h2⟩
    · exact hc
    · exact (s.chs y h1).frame kp fun c hm hx' => s.dis y h1 x hxC (by omega) c hm hx'
  · have e : (putC C i c').map (·.1) = C.map (·.1) := by
      unfold putC
      rw [List.map_map]
      apply List.map_congr_left
      intro z _
      by_cases e : z.1 = i
      · simp only [Function.comp, if_pos e]
        omega
      · simp only [Function.comp, if_neg e]
    rw [e]
    exact s.nd
  · rcases mem y hy with rfl | ⟨h1, h2⟩
    · have := s.lt x hxC
      show i < 64
      omega
    · exact s.lt y h1
  · rcases mem y hy with rfl | ⟨hy1, hy2⟩
    · rcases mem z hz with rfl | ⟨hz1, hz2⟩
      · exact hne rfl
      · exact new c h1 z hz1 hz2 h2
    · rcases mem z hz with rfl | ⟨hz1, hz2⟩
      · exact new c h2 y hy1 hy2 h1
      · exact s.dis y hy1 z hz1 hne c h1 h2
  · rcases mem y hy with rfl | ⟨h1, h2⟩
    · exact ⟨fun h => o1 (newo _ h s.ma), fun h => o2 (newo _ h s.mw), fun h => o3 (newo _ h s.md), fun e h => o4 e (newo _ h (s.mkl e))⟩
    · exact s.own y h1
  · rcases mem y hy with rfl | ⟨h1, h2⟩
    · exact .inr hm
    · exact .inl (s.inn y h1 c hm)
  · rcases hm with hm | hm
    · exact s.dom c (kp.dom c h0) hm
    · exact dom c h0 hm
theorem StH.more {i : Nat} {c' : ChD} (s : StH K t H M a wl kl d tp wf kf C) (hx' : atC C i = none) (hi : i < 64) (hc : ChAt t H' c'.M c'.a c'.ls c'.last c'.lv) (ex : Ext H H')
    (sub : ∀ c, c'.M c → H c = none) (dom : ∀ c, H' c = none → ¬ c'.M c) : StH K t (upd H' d (.dK (kvsC (C ++ [(i, c')])))) (fun c => M c ∨ c'.M c) a wl kl d tp wf kf (C ++ [(i, c')]) := by
  have notM : ∀ c, c'.M c → ¬ M c := fun c h1 h2 => s.dom c (sub c h1) h2
  have kd : Keeps (fun c => c = d) H' (upd H' d (.dK (kvsC (C ++ [(i, c')])))) := Keeps.own (M := fun c => c = d) rfl
  have kk : Keeps (fun c => c = d) H (upd H' d (.dK (kvsC (C ++ [(i, c')])))) := (Ext.mono ex).trans kd fun c hc => .inl hc
  have had : a ≠ d := let ⟨dx, e⟩ := s.ob; ne_of e s.dct (by intro z; cases z)
  have hwd : wl ≠ d := ne_of s.wid s.dct (by intro z; cases z)
  have mem : ∀ y ∈ C ++ [(i, c')], y ∈ C ∨ y = (i, c') := fun y hy => by
    rcases List.mem_append.mp hy with h | h
    · exact .inl h
    · exact .inr (List.mem_singleton.mp h)
  refine ⟨let ⟨dx, e⟩ := s.ob; ⟨dx, kk.kp _ _ e had⟩, kk.kp _ _ s.wid hwd, ?_, upd_same, fun y hy => ?_, ?_, fun y hy => ?_, fun y hy z hz hne c h1 h2 => ?_, fun y hy => ?_, fun y hy c hm => ?_, .inl s.ma, .inl s.mw, .inl s.md, fun e => .inl (s.mkl e), fun c h0 hm => ?_⟩
  · rcases s.kep with ⟨rfl, q⟩ | ⟨rfl, q⟩
    · exact .inl ⟨rfl, q⟩
    · exact .inr ⟨rfl, kk.kp _ _ q (ne_of q s.dct (by intro z; cases z))⟩
  · rcases mem y hy with h | rfl
    · exact (s.chs y h).frame kk fun c hm e => (s.own y h).2.2.1 (e ▸ hm)
    · exact hc.frame kd fun c hm e => notM c hm (e ▸ s.md)
  · rw [List.map_append, List.nodup_append]
    refine ⟨s.nd, by simp, fun x hx y hy e => ?_⟩
    obtain ⟨z, hz, rfl⟩ := List.mem_map.mp hx
    have : y = i := by simpa using hy
    exact atC_none hx' z hz (e.trans this)
  · rcases mem y hy with h | rfl
    · exact s.lt y h
    · exact hi
  · rcases mem y hy with hy1 | rfl
    · rcases mem z hz with hz1 | rfl
      · exact s.dis y hy1 z hz1 hne c h1 h2
      · exact notM c h2 (s.inn y hy1 c h1)
    · rcases mem z hz with hz1 | rfl
      · exact notM c h1 (s.inn z hz1 c h2)
      · exact hne rfl
  · rcases mem y hy with h | rfl
    · exact s.own y h
    · exact ⟨fun h => notM _ h s.ma, fun h => notM _ h s.mw, fun h => notM _ h s.md, fun e h => notM _ h (s.mkl e)⟩
  · rcases mem y hy with h | rfl
    · exact .inl (s.inn y h c hm)
    · exact .inr hm
  · rcases hm with hm | hm
    · exact s.dom c (kk.dom c h0) hm
    · exact dom c (kd.dom c h0) hm
theorem StH.less {i : Nat} (s : StH K t H M a wl kl d tp wf kf C) : StH K t (upd H d (.dK (kvsC (dropC C i)))) M a wl kl d tp wf kf (dropC C i) := by
  have kd : Keeps (fun c => c = d) H (upd H d (.dK (kvsC (dropC C i)))) := Keeps.own (M := fun c => c = d) rfl
  have had : a ≠ d := let ⟨dx, e⟩ := s.ob; ne_of e s.dct (by intro z; cases z)
  have hwd : wl ≠ d := ne_of s.wid s.dct (by intro z; cases z)
  have mem : ∀ y ∈ dropC C i, y ∈ C := fun y hy => (List.mem_filter.mp hy).1
  refine ⟨let ⟨dx, e⟩ := s.ob; ⟨dx, kd.kp _ _ e had⟩, kd.kp _ _ s.wid hwd, ?_, upd_same, fun y hy => ?_, ?_, fun y hy => s.lt y (mem y hy), fun y hy z hz => s.dis y (mem y hy) z (mem z hz), fun y hy => s.own y (mem y hy), fun y hy => s.inn y (mem y hy), s.ma, s.mw, s.md, s.mkl, fun c h0 => s.dom c (kd.dom c h0)⟩
  · rcases s.kep with ⟨rfl, q⟩ | ⟨rfl, q⟩
    · exact .inl ⟨rfl, q⟩
    · exact .inr ⟨rfl, kd.kp _ _ q (ne_of q s.dct (by intro z; cases z))⟩
  · exact (s.chs y (mem y hy)).frame kd fun c hm e => (s.own y (mem y hy)).2.2.1 (e ▸ hm)
  · exact List.Nodup.sublist (List.Sublist.map _ (List.filter_sublist)) s.nd
end

structure ChOk (s : Sq05.Set) (b : Nat) (c : ChD) (k : Sq05.Channel) : Prop where
  last : k.last = some c.last
  len : k.cells.length = 4
  cells : ∀ l, l < 4 → k.cells.getD l [] = cellsOf (c.lv l).L
  w : ∀ l, l < 4 → (c.lv l).w = s.wide l
  k : ∀ l, l < 4 → (c.lv l).k = s.kept.getD l 0
  o : ∀ l, l < 4 → (c.lv l).o = s.oldest l c.last
  lev : ∀ l, l < 4 → LevOk (c.lv l).o (c.last / (c.lv l).w) b (cellsOf (c.lv l).L)
theorem ChOk.mono {s : Sq05.Set} {b b' : Nat} {c : ChD} {k : Sq05.Channel} (h : ChOk s b c k) (hb : b ≤ b') : ChOk s b' c k := ⟨h.last, h.len, h.cells, h.w, h.k, h.o, fun l hl => (h.lev l hl).mono hb⟩
def ChRel (s : Sq05.Set) (b : Nat) (o : Option (Nat × ChD)) (k : Sq05.Channel) : Prop := match o with
  | some x => ChOk s b x.2 k
  | none => k = Sq05.bare
structure StS (S : Sq05.State) (b : Nat) (wf kf : Nat → Nat) (C : Chs) : Prop where
  good : SetGood S.set
  wf : ∀ l, l < 4 → wf l = S.set.wide l
  kf : ∀ l, l < 4 → kf l = S.set.kept.getD l 0
  len : S.channels.length = 64
  rel : ∀ c, c < 64 → ChRel S.set b (atC C c) (S.channel c)
def StAt (K : PySem.W.Frag) (t : Adr) (H : Hp) (M : Addr → Prop) (a : Addr) (S : Sq05.State) (b : Nat) : Prop := ∃ (wl kl d : Addr) (tp : Bool) (wf kf : Nat → Nat) (C : Chs), StH K t H M a wl kl d tp wf kf C ∧ StS S b wf kf C
theorem StS.mono {S : Sq05.State} {b b' : Nat} {wf kf : Nat → Nat} {C : Chs} (h : StS S b wf kf C) (hb : b ≤ b') : StS S b' wf kf C := by
  refine ⟨h.good, h.wf, h.kf, h.len, fun c hc => ?_⟩
  have := h.rel c hc
  unfold ChRel at this ⊢
  cases q : atC C c with
  | none => rw [q] at this; exact this
  | some x => rw [q] at this; exact ChOk.mono this hb
end TC
namespace TC
open PySem L2
def threeV (f : Nat → Nat) : List V := [0, 1, 2].map fun l => V.int (f l : Int)
theorem threeV_at {f : Nat → Nat} {i : Nat} {x : V} (h : (threeV f)[i]? = some x) : i < 3 ∧ x = V.int (f i : Int) := by
  match i, h with
  | 0, h => exact ⟨by omega, (Option.some.inj h).symm⟩
  | 1, h => exact ⟨by omega, (Option.some.inj h).symm⟩
  | 2, h => exact ⟨by omega, (Option.some.inj h).symm⟩
  | i + 3, h => simp [threeV] at h
def wideF (wd : Nat) (tf : Nat → Nat) (l : Nat) : Nat := ([tf 0, tf 1, tf 2].take l).foldl (fun w f => w * f) wd
theorem wideF_succ {wd : Nat} {tf : Nat → Nat} {i : Nat} (h : i < 3) : wideF wd tf (i + 1) = wideF wd tf i * tf i := by
  have : i = 0 ∨ i = 1 ∨ i = 2 := by omega
  rcases this with rfl | rfl | rfl <;> rfl
theorem pe_ixL (K : PySem.W.Frag) {X : Cx} {a b : Expr} {ta tb : TE} {pos : Pos} (hK : X.K = K) (ha : PE X a ta) (hb : PE X b tb) (hs : PlainIx b := by intro _ _; rfl) : PE X (.Subscript a b pos) (tOp (rIxL K) ta tb) := by
  subst hK
  exact pe_ix ix_list ha hb hs
theorem at4 {f : Nat → Nat} {i : Nat} (h : i < 4) : atI (fourV f) ((0 : Int) + (i : Int)) = some (V.int (f i : Int)) := by
  have : i = 0 ∨ i = 1 ∨ i = 2 ∨ i = 3 := by omega
  rcases this with rfl | rfl | rfl | rfl <;> rfl
theorem at3 {f : Nat → Nat} {i : Nat} (h : i < 3) : atI (threeV f) ((0 : Int) + (i : Int)) = some (V.int (f i : Int)) := by
  have : i = 0 ∨ i = 1 ∨ i = 2 := by omega
  rcases this with rfl | rfl | rfl <;> rfl
theorem at41 {f : Nat → Nat} {i : Nat} (h : i < 3) : atI (fourV f) ((0 : Int) + (i : Int) + 1) = some (V.int (f (i + 1) : Int)) := by
  have : i = 0 ∨ i = 1 ∨ i = 2 := by omega
  rcases this with rfl | rfl | rfl <;> rfl
theorem reach_iff {k k1 a : Nat} (h : 1 ≤ k1) : ((k : Int) ≤ (a : Int) * ((k1 : Int) - 1)) ↔ k ≤ (k1 - 1) * a := by
  have e : (a : Int) * ((k1 : Int) - 1) = (((k1 - 1) * a : Nat) : Int) := by
    rw [Int.natCast_mul, Int.natCast_sub h, Int.mul_comm]
    rfl
  rw [e]
  omega
section
variable {P : Program} {w : World} {K : PySem.W.Frag} {mg : Str → Option Value} {base : Heap} {t : Adr}
def sp_fWfr (K : PySem.W.Frag) : Sp := fun vs H Q _ => ∃ (tl : Addr) (tp : Bool) (wd : Nat) (tf : Nat → Nat), vs = [.int wd, .ref tl] ∧ KeptAt tp K H tl (threeV tf) ∧ (∀ l, l < 3 → tf l ≤ 64) ∧
  ∀ (p : Addr) (H' : Hp), H' p = some (.lst (fourV (wideF wd tf))) → H p = none → Ext H H' → Q (.ref p) H'
theorem sc_fWfr : FnScope ["width", "times", "widths", "many"] ["width", "times"] (defScope st_fWfr) := ⟨rfl, rfl, rfl, by decide +kernel, rfl, by decide +kernel, by decide +kernel⟩
theorem ok_fWfr (T : Txt K mg t) : FnOk P w K mg base CX0 1 t.f_fWfr t.d_fWfr ["width", "times"] (sp_fWfr K) := by
  refine T.F_fWfr.ok sc_fWfr (fun vs H Q E h => ?_) (fun cdv A outer s H vs Q E hr h => ?_)
  · obtain ⟨tl, tp, wd, tf, rfl, _⟩ := h
    rfl
  · obtain ⟨tl, tp, wd, tf, rfl, htl, hb, q⟩ := h
    have wd0 : ∀ i, (List.range (i + 1)).map (fun l => V.int (wideF wd tf l : Int)) = (List.range i).map (fun l => V.int (wideF wd tf l : Int)) ++ [V.int (wideF wd tf i : Int)] := fun i => by
      rw [List.range_succ, List.map_append]
      rfl
    rcases htl with ⟨rfl, htl⟩ | ⟨rfl, htl⟩
    · refine ⟨_, pss_cons (ps_set (i := 2) sc_fWfr.nd rfl (Or.inl rfl) (pe_lst (pa_cons (pv 0) pa_nil)))
        (pss_cons (ps_for PassesOwn.never rfl (pi_tup (pv 1)) (pg_name (i := 3) sc_fWfr.nd rfl (Or.inl rfl))
          (pss_one (ps_expr (pe_bm PySem.F.plainAttrs_list PySem.F.slot_list_append PySem.F.type_list_append mt_append (pv 2) (pa_cons (pe_op op_mul (pe_ix ix_list (pv 2) (pe_un un_neg pe_int) (fun _ _ => rfl)) (pv 3)) pa_nil)))))
        (pss_one (ps_ret (pv 2)))), ?_⟩
      refine ⟨_, rfl, (by show 1 ≤ sizeLine; decide), fun p hp => ?_⟩
      refine ⟨_, rfl, tl, rfl, ⟨_, htl _⟩, for_tup (K := K) (a := tl) (xs := threeV tf)
        (fun i σ H' => (∃ v, σ = [some (.int wd), some (.ref tl), some (.ref p), v]) ∧ H' = upd H p (.lst ((List.range (i + 1)).map fun l => V.int (wideF wd tf l : Int))))
        ⟨⟨none, rfl⟩, rfl⟩ (fun i σ H' _ ⟨_, e⟩ => htl _) ?_ ?_⟩
      · rintro i z σ H' hi ⟨⟨v, rfl⟩, rfl⟩
        obtain ⟨hi3, rfl⟩ := threeV_at hi
        have hti := hb i hi3
        refine ⟨_, rfl, .inl ⟨rfl, _, SqL.of upd_same⟩, _, rfl, _, rfl, p, _, _, _, rfl, rfl, SqL.of upd_same, (by rw [wd0]; exact atI_last _ _), _, rfl, _, _, rfl, rfl, .inr ⟨by omega, by omega⟩, p, _, _, rfl, rfl, upd_same, ?_, ?_⟩
        · rw [List.length_map, List.length_range]
          exact Nat.lt_of_lt_of_le (show i + 1 < 10 by omega) (by decide)
        · refine ⟨⟨_, rfl⟩, ?_⟩
          rw [upd_upd, wd0 (i + 1), wideF_succ hi3, Int.natCast_mul]
      · rintro σ H' ⟨⟨v, rfl⟩, rfl⟩
        exact ⟨_, rfl, q p _ upd_same hp (Keeps.new hp)⟩
    · refine ⟨_, pss_cons (ps_set (i := 2) sc_fWfr.nd rfl (Or.inl rfl) (pe_lst (pa_cons (pv 0) pa_nil)))
        (pss_cons (ps_for PassesOwn.never rfl (pi_list (pv 1)) (pg_name (i := 3) sc_fWfr.nd rfl (Or.inl rfl))
          (pss_one (ps_expr (pe_bm PySem.F.plainAttrs_list PySem.F.slot_list_append PySem.F.type_list_append mt_append (pv 2) (pa_cons (pe_op op_mul (pe_ix ix_list (pv 2) (pe_un un_neg pe_int) (fun _ _ => rfl)) (pv 3)) pa_nil)))))
        (pss_one (ps_ret (pv 2)))), ?_⟩
      refine ⟨_, rfl, (by show 1 ≤ sizeLine; decide), fun p hp => ?_⟩
      have hlp : tl ≠ p := ne_of_none htl hp
      refine ⟨_, rfl, tl, rfl, ⟨_, .inl (.inl (by rw [upd_ne hlp]; exact htl))⟩, for_list (K := K) (a := tl) (xs := threeV tf)
        (fun i σ H' => (∃ v, σ = [some (.int wd), some (.ref tl), some (.ref p), v]) ∧ H' = upd H p (.lst ((List.range (i + 1)).map fun l => V.int (wideF wd tf l : Int))))
        ⟨⟨none, rfl⟩, rfl⟩ (fun i σ H' _ ⟨_, e⟩ => by rw [e]; exact .inl (.inl (by rw [upd_ne hlp]; exact htl))) ?_ ?_⟩
      · rintro i z σ H' hi ⟨⟨v, rfl⟩, rfl⟩
        obtain ⟨hi3, rfl⟩ := threeV_at hi
        have hti := hb i hi3
        refine ⟨_, rfl, .inl ⟨rfl, _, SqL.of upd_same⟩, _, rfl, _, rfl, p, _, _, _, rfl, rfl, SqL.of upd_same, (by rw [wd0]; exact atI_last _ _), _, rfl, _, _, rfl, rfl, .inr ⟨by omega, by omega⟩, p, _, _, rfl, rfl, upd_same, ?_, ?_⟩
        · rw [List.length_map, List.length_range]
          exact Nat.lt_of_lt_of_le (show i + 1 < 10 by omega) (by decide)
        · refine ⟨⟨_, rfl⟩, ?_⟩
          rw [upd_upd, wd0 (i + 1), wideF_succ hi3, Int.natCast_mul]
      · rintro σ H' ⟨⟨v, rfl⟩, rfl⟩
        exact ⟨_, rfl, q p _ upd_same hp (Keeps.new hp)⟩
def reachB (tf kf : Nat → Nat) (i : Nat) : Bool := decide ((kf i : Int) ≤ (tf i : Int) * ((kf (i + 1) : Int) - 1))
theorem reachB_iff {tf kf : Nat → Nat} {i : Nat} (h : 1 ≤ kf (i + 1)) : reachB tf kf i = true ↔ kf i ≤ (kf (i + 1) - 1) * tf i := by
  unfold reachB
  rw [decide_eq_true_eq, reach_iff h]
def sp_fKr : Sp := fun vs H Q _ => ∃ (tl kl : Addr) (tf kf : Nat → Nat), vs = [.ref tl, .ref kl] ∧ H tl = some (.lst (threeV tf)) ∧ H kl = some (.lst (fourV kf)) ∧ (∀ l, l < 3 → tf l ≤ 64) ∧
  ∀ H', Ext H H' → Q (.bl (((List.range 3).map (reachB tf kf)).all id)) H'
theorem sc_fKr : FnScope ["times", "kept", "k"] ["times", "kept"] (defScope st_fKr) := ⟨rfl, rfl, rfl, by decide +kernel, rfl, by decide +kernel, by decide +kernel⟩
theorem ok_fKr (T : Txt K mg t) : FnOk P w K mg base CX0 1 t.f_fKr t.d_fKr ["times", "kept"] sp_fKr := by
  refine T.F_fKr.ok sc_fKr (fun vs H Q E h => ?_) (fun cdv A outer s H vs Q E hr h => ?_)
  · obtain ⟨tl, kl, tf, kf, rfl, _⟩ := h
    rfl
  · obtain ⟨tl, kl, tf, kf, rfl, htl, hkl, hb, q⟩ := h
    refine ⟨_, pss_one (ps_ret (pe_callB (cr_all rfl) rfl T.b_all PyProof.Rows.boot_all (pa_cons (pe_lc (own := [("k", 2)]) rfl sc_fKr.nd (pi_range1 rfl T.b_range (pa_cons pe_int pa_nil)) (blkOk_by (by kernel_rfl)) (fun _ _ _ _ _ => pg_name (i := 2) sc_fKr.nd rfl (Or.inl rfl)) (fun _ _ _ _ _ => pts_nil)
      (fun _ _ _ _ _ => pe_cmpR op_le (pe_ixL K rfl (pv 1) (pv 2)) (pe_op op_mul (pe_ixL K rfl (pv 0) (pv 2)) (pe_op op_sub (pe_ixL K rfl (pv 1) (pe_op op_add (pv 2) pe_int)) pe_int)) (nomark _))) pa_nil))), ?_⟩
    refine ⟨3, rfl, by decide, by decide, fun D hD => ?_⟩
    have htD : tl ≠ D := ne_of_none htl hD
    have hkD : kl ≠ D := ne_of_none hkl hD
    refine lc_range (fun i H' => H' = upd H D (.lst (((List.range i).map (reachB tf kf)).map V.bl))) rfl (fun i H' hi e => ?_) fun H' e => ?_
    · subst e
      have hi3 : i < 3 := hi
      have hti := hb i hi3
      have sk : ∀ xs, SqL K (upd H D (.lst xs)) kl (fourV kf) := fun xs => .inl (.inl (by rw [upd_ne hkD]; exact hkl))
      have st : ∀ xs, SqL K (upd H D (.lst xs)) tl (threeV tf) := fun xs => .inl (.inl (by rw [upd_ne htD]; exact htl))
      refine ⟨rfl, ?_⟩
      refine ⟨_, rfl, _, rfl, kl, _, _, _, rfl, rfl, sk _, at4 (by omega), _, rfl, _, rfl, tl, _, _, _, rfl, rfl, st _, at3 hi3, _, rfl, _, rfl, _, _, rfl, rfl, kl, _, _, _, rfl, rfl, sk _, at41 hi3, _, _, rfl, rfl, _, _, rfl, rfl, .inl ⟨by omega, by omega⟩, _, _, rfl, rfl, _, upd_same, ?_, ?_⟩
      · rw [List.length_map, List.length_map, List.length_range]
        exact Nat.lt_of_lt_of_le (show i < 10 by omega) (by decide)
      · rw [upd_upd, List.range_succ, List.map_append, List.map_append]
        rfl
    · subst e
      exact ⟨D, _, rfl, .inl (.inl upd_same), q _ (Keeps.new hD)⟩
def rngB (hi : Nat) (lo : Nat) (n : Nat) : Bool := decide ((lo : Int) ≤ (n : Int) ∧ (n : Int) ≤ (hi : Int))
def sp_fCbg : Sp := fun vs H Q _ => ∃ (tl kl : Addr) (wd : Nat) (tf kf : Nat → Nat), vs = [.int wd, .ref tl, .ref kl] ∧ H tl = some (.lst (threeV tf)) ∧ H kl = some (.lst (fourV kf)) ∧
  ∀ (b : Bool) (H' : Hp), (b = true ↔ okP wd (tf 0) (tf 1) (tf 2) (kf 0) (kf 1) (kf 2) (kf 3)) → Ext H H' → Q (.bl b) H'
theorem sc_fCbg : FnScope ["width", "times", "kept", "many"] ["width", "times", "kept"] (defScope st_fCbg) := ⟨rfl, rfl, rfl, by decide +kernel, rfl, by decide +kernel, by decide +kernel⟩
theorem ok_fCbg (T : Txt K mg t) : FnOk P w K mg base CX0 2 t.f_fCbg t.d_fCbg ["width", "times", "kept"] sp_fCbg := by
  refine T.F_fCbg.ok sc_fCbg (fun vs H Q E h => ?_) (fun cdv A outer s H vs Q E hr h => ?_)
  · obtain ⟨tl, kl, wd, tf, kf, rfl, _⟩ := h
    rfl
  · obtain ⟨tl, kl, wd, tf, kf, rfl, htl, hkl, q⟩ := h
    obtain ⟨kn, hn⟩ := T.i_WIDEST_WIDTH
    refine ⟨_, pss_one (ps_ret (pe_and (pe_chain op_le op_le pe_int (pv 0) (pe_glob (v := .int 1099511627776) rfl hn ⟨kn, rfl⟩))
      (pe_and (pe_callB (cr_all rfl) rfl T.b_all PyProof.Rows.boot_all (pa_cons (pe_lc (own := [("many", 3)]) rfl sc_fCbg.nd (pi_list (pv 1)) (blkOk_by (by kernel_rfl)) (fun _ _ _ _ _ => pg_name (i := 3) sc_fCbg.nd rfl (Or.inl rfl)) (fun _ _ _ _ _ => pts_nil) (fun _ _ _ _ _ => pe_chain op_le op_le pe_int (pv 3) pe_int)) pa_nil))
      (pe_and (pe_callB (cr_all rfl) rfl T.b_all PyProof.Rows.boot_all (pa_cons (pe_lc (own := [("many", 3)]) rfl sc_fCbg.nd (pi_list (pv 2)) (blkOk_by (by kernel_rfl)) (fun _ _ _ _ _ => pg_name (i := 3) sc_fCbg.nd rfl (Or.inl rfl)) (fun _ _ _ _ _ => pts_nil) (fun _ _ _ _ _ => pe_chain op_le op_le pe_int (pv 3) pe_int)) pa_nil))
      (pe_one (pe_call (ok_fKr T) hr rfl T.g_fKr T.F_fKr.kp T.b_fKr .nil pass0 (pa_cons (pv 1) (pa_cons (pv 2) pa_nil)))))))), ?_⟩
    have w2 : ∀ (b : Bool), (b = decide ((1 : Int) ≤ (wd : Int) ∧ (wd : Int) ≤ 1099511627776)) → ((b = true) ↔ (1 ≤ wd ∧ wd ≤ 2 ^ 40)) := fun b e => by
      rw [e, decide_eq_true_eq]
      omega
    have fail1 : ¬ (1 ≤ wd ∧ wd ≤ 2 ^ 40) → Q (.bl false) H := fun h => q false H ⟨fun e => (by cases e), fun e => absurd e.1 h⟩ Keeps.refl
    have rest : (1 ≤ wd ∧ wd ≤ 2 ^ 40) → tAndV (fun σ H Q => tCons (tLc (iList K (tVar 1)) (gName 3) tYes (tChain (rI0 fun i j => .bl (decide (i ≤ j))) (rI0 fun i j => .bl (decide (i ≤ j))) (tC (.int 2)) (tVar 3) (tC (.int 64))) [3]) tNil σ H fun vs H1 => rAll K vs H1 Q)
      (tAndV (fun σ H Q => tCons (tLc (iList K (tVar 2)) (gName 3) tYes (tChain (rI0 fun i j => .bl (decide (i ≤ j))) (rI0 fun i j => .bl (decide (i ≤ j))) (tC (.int 1)) (tVar 3) (tC (.int 4096))) [3]) tNil σ H fun vs H1 => rAll K vs H1 Q)
        (fun σ H Q' => tCons (tVar 1) (tCons (tVar 2) tNil) σ H fun vs H1 => sp_fKr vs H1 Q' fun _ _ _ => False)) [some (.int wd), some (.ref tl), some (.ref kl), none] H Q := fun hw => by
      refine ⟨_, rfl, tl, rfl, ⟨_, .inl (.inl htl)⟩, fun D hD => ?_⟩
      have htD : tl ≠ D := ne_of_none htl hD
      have hkD : kl ≠ D := ne_of_none hkl hD
      refine lc_list (K := K) (a := tl) (xs := threeV tf) (fun i H' => H' = upd H D (.lst (((List.range i).map fun l => rngB 64 2 (tf l)).map V.bl))) rfl (fun i H' _ e => by rw [e]; exact .inl (.inl (by rw [upd_ne htD]; exact htl))) (fun i z H' hi e => ?_) fun H' e => ?_
      · subst e
        obtain ⟨hi3, rfl⟩ := threeV_at hi
        have step : ∀ b : Bool, b = rngB 64 2 (tf i) → ∃ acc, (upd H D (.lst (((List.range i).map fun l => rngB 64 2 (tf l)).map V.bl))) D = some (.lst acc) ∧ acc.length < sizeLine ∧
            upd (upd H D (.lst (((List.range i).map fun l => rngB 64 2 (tf l)).map V.bl))) D (.lst (acc ++ [V.bl b])) = upd H D (.lst (((List.range (i + 1)).map fun l => rngB 64 2 (tf l)).map V.bl)) := fun b e => by
          refine ⟨_, upd_same, ?_, ?_⟩
          · rw [List.length_map, List.length_map, List.length_range]
            exact Nat.lt_of_lt_of_le (show i < 10 by omega) (by decide)
          · rw [upd_upd, List.range_succ, List.map_append, List.map_append, e]
            rfl
        refine ⟨rfl, ?_⟩
        refine ⟨_, rfl, _, _, rfl, rfl, _, rfl, ite2 (fun h1 => ?_) fun h1 => ?_⟩
        · refine ⟨_, _, rfl, rfl, step _ ?_⟩
          exact (and_t (q := ((tf i : Int) ≤ 64)) h1).symm
        · exact step _ (and_f (q := ((tf i : Int) ≤ 64)) h1).symm
      · subst e
        refine ⟨D, _, rfl, .inl (.inl upd_same), _, rfl, ite2 (fun hB => ?_) fun hB => ?_⟩
        · have hB' : (2 ≤ tf 0 ∧ tf 0 ≤ 64) ∧ (2 ≤ tf 1 ∧ tf 1 ≤ 64) ∧ (2 ≤ tf 2 ∧ tf 2 ≤ 64) := by
            have hB2 : ([rngB 64 2 (tf 0), rngB 64 2 (tf 1), rngB 64 2 (tf 2)].all id) = true := hB
            simp only [List.all_cons, List.all_nil, id, Bool.and_true, Bool.and_eq_true, rngB, decide_eq_true_eq] at hB2
            omega
          have e1 : Ext H (upd H D (.lst (((List.range (threeV tf).length).map fun l => rngB 64 2 (tf l)).map V.bl))) := Keeps.new hD
          generalize upd H D (.lst (((List.range (threeV tf).length).map fun l => rngB 64 2 (tf l)).map V.bl)) = H1 at e1
          refine ⟨_, rfl, kl, rfl, ⟨_, .inl (.inl (e1.same hkl))⟩, fun D2 hD2 => ?_⟩
          have hkD2 : kl ≠ D2 := ne_of_none (e1.same hkl) hD2
          refine lc_list (K := K) (a := kl) (xs := fourV kf) (fun i H' => H' = upd H1 D2 (.lst (((List.range i).map fun l => rngB 4096 1 (kf l)).map V.bl))) rfl (fun i H' _ e => by rw [e]; exact .inl (.inl (by rw [upd_ne hkD2]; exact e1.same hkl))) (fun i z H' hi e => ?_) fun H' e => ?_
          · subst e
            obtain ⟨hi3, rfl⟩ := fourV_at hi
            have step : ∀ b : Bool, b = rngB 4096 1 (kf i) → ∃ acc, (upd H1 D2 (.lst (((List.range i).map fun l => rngB 4096 1 (kf l)).map V.bl))) D2 = some (.lst acc) ∧ acc.length < sizeLine ∧
                upd (upd H1 D2 (.lst (((List.range i).map fun l => rngB 4096 1 (kf l)).map V.bl))) D2 (.lst (acc ++ [V.bl b])) = upd H1 D2 (.lst (((List.range (i + 1)).map fun l => rngB 4096 1 (kf l)).map V.bl)) := fun b e => by
              refine ⟨_, upd_same, ?_, ?_⟩
              · rw [List.length_map, List.length_map, List.length_range]
                exact Nat.lt_of_lt_of_le (show i < 10 by omega) (by decide)
              · rw [upd_upd, List.range_succ, List.map_append, List.map_append, e]
                rfl
            refine ⟨rfl, ?_⟩
            refine ⟨_, rfl, _, _, rfl, rfl, _, rfl, ite2 (fun h1 => ?_) fun h1 => ?_⟩
            · refine ⟨_, _, rfl, rfl, step _ ?_⟩
              exact (and_t (q := ((kf i : Int) ≤ 4096)) h1).symm
            · exact step _ (and_f (q := ((kf i : Int) ≤ 4096)) h1).symm
          · subst e
            have e2 : Ext H (upd H1 D2 (.lst (((List.range (fourV kf).length).map fun l => rngB 4096 1 (kf l)).map V.bl))) := Ext.trans e1 (Keeps.new hD2)
            refine ⟨D2, _, rfl, .inl (.inl upd_same), _, rfl, ite2 (fun hC => ?_) fun hC => ?_⟩
            · have hC' : (1 ≤ kf 0 ∧ kf 0 ≤ 4096) ∧ (1 ≤ kf 1 ∧ kf 1 ≤ 4096) ∧ (1 ≤ kf 2 ∧ kf 2 ≤ 4096) ∧ (1 ≤ kf 3 ∧ kf 3 ≤ 4096) := by
                have hC2 : ([rngB 4096 1 (kf 0), rngB 4096 1 (kf 1), rngB 4096 1 (kf 2), rngB 4096 1 (kf 3)].all id) = true := hC
                simp only [List.all_cons, List.all_nil, id, Bool.and_true, Bool.and_eq_true, rngB, decide_eq_true_eq] at hC2
                omega
              refine ⟨_, rfl, _, rfl, tl, kl, tf, kf, rfl, e2.same htl, e2.same hkl, fun l hl => ?_, fun H3 e3 => q _ H3 ?_ (Ext.trans e2 e3)⟩
              · have : l = 0 ∨ l = 1 ∨ l = 2 := by omega
                rcases this with rfl | rfl | rfl <;> omega
              · show ([reachB tf kf 0, reachB tf kf 1, reachB tf kf 2].all id) = true ↔ _
                simp only [List.all_cons, List.all_nil, id, Bool.and_true, Bool.and_eq_true]
                rw [reachB_iff (i := 0) hC'.2.1.1, reachB_iff (i := 1) hC'.2.2.1.1, reachB_iff (i := 2) hC'.2.2.2.1]
                exact ⟨fun h => ⟨hw, hB', hC', h⟩, fun h => h.2.2.2⟩
            · refine q false _ ⟨fun e => (by cases e), fun e => absurd ?_ hC⟩ e2
              have hC' := e.2.2.1
              show ([rngB 4096 1 (kf 0), rngB 4096 1 (kf 1), rngB 4096 1 (kf 2), rngB 4096 1 (kf 3)].all id) = true
              simp only [List.all_cons, List.all_nil, id, Bool.and_true, Bool.and_eq_true, rngB, decide_eq_true_eq]
              omega
        · refine q false _ ⟨fun e => (by cases e), fun e => absurd ?_ hB⟩ (Keeps.new hD)
          have hB' := e.2.1
          show ([rngB 64 2 (tf 0), rngB 64 2 (tf 1), rngB 64 2 (tf 2)].all id) = true
          simp only [List.all_cons, List.all_nil, id, Bool.and_true, Bool.and_eq_true, rngB, decide_eq_true_eq]
          omega
    refine ⟨_, rfl, _, _, rfl, rfl, _, rfl, ite2 (fun h1 => ?_) fun h1 => ?_⟩
    · refine ⟨_, _, rfl, rfl, _, rfl, ite2 (fun h2 => ?_) fun h2 => ?_⟩
      · have h1' : (1 : Int) ≤ (wd : Int) := of_decide_eq_true h1
        have h2' : (wd : Int) ≤ 1099511627776 := of_decide_eq_true h2
        exact rest ⟨by omega, by omega⟩
      · have h2' : ¬ (wd : Int) ≤ 1099511627776 := fun e => h2 (decide_eq_true e)
        exact fail1 fun e => h2' (by omega)
    · have h1' : ¬ (1 : Int) ≤ (wd : Int) := fun e => h1 (decide_eq_true e)
      exact ⟨false, rfl, iteF (fail1 fun e => h1' (by omega))⟩
end
end TC
namespace TC
open PySem L2
structure Txt2 (K : PySem.W.Frag) (t : Adr) : Prop where
  times : ∀ H, SqT K H t.a_times [V.int 60, V.int 24, V.int 30]
  kept : ∀ H, SqT K H t.a_kept [V.int 1440, V.int 720, V.int 400, V.int 120]
theorem StAt.ext {K : PySem.W.Frag} {t : Adr} {H H' : Hp} {M : Addr → Prop} {a : Addr} {S : Sq05.State} {b b' : Nat} (s : StAt K t H M a S b) (e : Ext H H') (hb : b ≤ b') : StAt K t H' M a S b' := by
  obtain ⟨wl, kl, d, tp, wf, kf, C, h1, h2⟩ := s
  exact ⟨wl, kl, d, tp, wf, kf, C, h1.ext e, h2.mono hb⟩
theorem StAt.dom {K : PySem.W.Frag} {t : Adr} {H : Hp} {M : Addr → Prop} {a : Addr} {S : Sq05.State} {b : Nat} (s : StAt K t H M a S b) {c : Addr} (h : H c = none) : ¬ M c := by
  obtain ⟨wl, kl, d, tp, wf, kf, C, h1, h2⟩ := s
  exact h1.dom c h
def Post (K : PySem.W.Frag) (t : Adr) (H : Hp) (M : Addr → Prop) (a : Addr) (b : Nat) (N : Addr → Prop) (r : Sq05.State × Sq05.Ans) (Q : VK) : Prop :=
  ∀ (p : Addr) (H' : Hp) (M' : Addr → Prop), H' p = some (.lst ((r.2.value :: r.2.out).map V.int)) → StAt K t H' M' a r.1 (b + 1) → Keeps M H H' → (∀ c, M' c → M c ∨ H c = none ∨ N c) → ¬ M' p → H p = none → Q (.ref p) H'
theorem Post.same {K : PySem.W.Frag} {t : Adr} {H H1 : Hp} {M N : Addr → Prop} {a p : Addr} {b : Nat} {S : Sq05.State} {ans : Sq05.Ans} {Q : VK} (h : Post K t H M a b N (S, ans) Q) (s : StAt K t H M a S b) (e : Ext H H1) (hp : H p = none)
    (hl : H1 p = some (.lst ((ans.value :: ans.out).map V.int))) : Q (.ref p) H1 :=
  h p H1 M hl (s.ext e (Nat.le_succ b)) (Ext.mono e) (fun c hc => .inl hc) (s.dom hp) hp
theorem Post.said {K : PySem.W.Frag} {t : Adr} {H H1 : Hp} {M N : Addr → Prop} {a p : Addr} {b : Nat} {S : Sq05.State} {z : Int} {Q : VK} (h : Post K t H M a b N (S, Sq05.says z) Q) (s : StAt K t H M a S b) (e : Ext H H1) (hp : H1 p = none) : Q (.ref p) (upd H1 p (.lst [V.int z])) :=
  h.same s (Ext.trans e (Keeps.new hp)) (e.dom _ hp) upd_same
theorem begun_at {K : PySem.W.Frag} {t : Adr} {H : Hp} {a wl kl d dx : Addr} {tp : Bool} {wd : Nat} {tf kf : Nat → Nat} (g : SetGood ⟨wd, [tf 0, tf 1, tf 2], [kf 0, kf 1, kf 2, kf 3]⟩) (ha : H a = some (.ins t.cT dx (staF wl kl d)))
    (hw : H wl = some (.lst (fourV (wideF wd tf)))) (hd : H d = some (.dK [])) (hk : KeptAt tp K H kl (fourV kf)) (b : Nat) :
    StAt K t H (fun c => c = a ∨ c = wl ∨ c = d ∨ (tp = false ∧ c = kl)) a (Sq05.begun ⟨wd, [tf 0, tf 1, tf 2], [kf 0, kf 1, kf 2, kf 3]⟩) b := by
  refine ⟨wl, kl, d, tp, wideF wd tf, kf, [], ⟨⟨dx, ha⟩, hw, hk, hd, fun x hx => by simp at hx, List.nodup_nil, fun x hx => by simp at hx, fun x hx => by simp at hx, fun x hx => by simp at hx, fun x hx => by simp at hx, .inl rfl, .inr (.inl rfl), .inr (.inr (.inl rfl)), fun e => .inr (.inr (.inr ⟨e, rfl⟩)), fun c h0 hm => ?_⟩,
    g, fun l _ => rfl, fun l hl => ?_, List.length_replicate, fun c hc => ?_⟩
  · rcases hm with rfl | rfl | rfl | ⟨rfl, rfl⟩
    · rw [ha] at h0; cases h0
    · rw [hw] at h0; cases h0
    · rw [hd] at h0; cases h0
    · rcases hk with ⟨e, _⟩ | ⟨_, hk⟩
      · cases e
      · rw [hk] at h0; cases h0
  · have : l = 0 ∨ l = 1 ∨ l = 2 ∨ l = 3 := by omega
    rcases this with rfl | rfl | rfl | rfl <;> rfl
  · show (List.replicate _root_.St.CHANNELS Sq05.bare).getD c Sq05.bare = Sq05.bare
    rw [List.getD_eq_getElem?_getD, List.getElem?_replicate]
    split <;> rfl
section
variable {P : Program} {w : World} {K : PySem.W.Frag} {mg : Str → Option Value} {base : Heap} {t : Adr}
def sp_tSet (K : PySem.W.Frag) (t : Adr) : Sp := fun vs H Q _ => ∃ (a dx tl kl : Addr) (tp : Bool) (wd : Nat) (tf : Nat → Nat) (fs : List (Str × V)), vs = [.ref a, .int wd, .ref tl, .ref kl] ∧ H a = some (.ins t.cT dx fs) ∧ (fs = [] ∨ ∃ x y z, fs = staF x y z) ∧ KeptAt tp K H tl (threeV tf) ∧ (∀ l, l < 3 → tf l ≤ 64) ∧
  ∀ (wl d : Addr) (H' : Hp), H' a = some (.ins t.cT dx (staF wl kl d)) → H' wl = some (.lst (fourV (wideF wd tf))) → H' d = some (.dK []) → H wl = none → H d = none → Keeps (fun c => c = a) H H' → Q .non H'
theorem sc_tSet : FnScope ["self", "width", "times", "kept"] ["self", "width", "times", "kept"] (defScope st_tSet) := ⟨rfl, rfl, rfl, by decide +kernel, rfl, by decide +kernel, by decide +kernel⟩
theorem ok_tSet (T : Txt K mg t) : FnOk P w K mg base CX0 2 t.f_tSet t.d_tSet ["self", "width", "times", "kept"] (sp_tSet K t) := by
  refine T.F_tSet.ok sc_tSet (fun vs H Q E h => ?_) (fun cdv A outer s H vs Q E hr h => ?_)
  · obtain ⟨a, dx, tl, kl, tp, wd, tf, fs, rfl, _⟩ := h
    rfl
  · obtain ⟨a, dx, tl, kl, tp, wd, tf, fs, rfl, ha, hfs, htl, hb, q⟩ := h
    refine ⟨_, pss_cons (ps_fld (pv 0) (pe_call (ok_fWfr T) hr rfl T.g_fWfr T.F_fWfr.kp T.b_fWfr .nil pass0 (pa_cons (pv 1) (pa_cons (pv 2) pa_nil))) rfl) (pss_cons (ps_fld (pv 0) (pv 3) rfl) (pss_one (ps_fld (pv 0) pe_dnewK rfl))), ?_⟩
    have l1 : fs.length < 1000 := by
      rcases hfs with rfl | ⟨x, y, z, rfl⟩
      · show 0 < 1000; decide
      · show 3 < 1000; decide
    have l2 : ∀ u, (putF "widths" u fs).length < 1000 := fun u => by
      rcases hfs with rfl | ⟨x, y, z, rfl⟩
      · show 1 < 1000; decide
      · show 3 < 1000; decide
    have l3 : ∀ u v, (putF "kept" v (putF "widths" u fs)).length < 1000 := fun u v => by
      rcases hfs with rfl | ⟨x, y, z, rfl⟩
      · show 2 < 1000; decide
      · show 3 < 1000; decide
    have eF : ∀ x y z, putF "channels" (V.ref z) (putF "kept" (V.ref y) (putF "widths" (V.ref x) fs)) = staF x y z := fun x y z => by
      rcases hfs with rfl | ⟨x, y, z, rfl⟩ <;> rfl
    refine ⟨_, rfl, _, rfl, tl, tp, wd, tf, rfl, htl, hb, fun wl H1 hwl nwl e1 => ?_⟩
    refine ⟨_, rfl, a, t.cT, dx, _, rfl, e1.same ha, T.clT, T.nT_widths, l1, ?_⟩
    refine ⟨_, rfl, _, rfl, a, t.cT, dx, _, rfl, upd_same, T.clT, T.nT_kept, l2 _, ?_⟩
    intro d hd
    have hda : d ≠ a := fun e => by rw [e, upd_same] at hd; cases hd
    have hd1 : H1 d = none := by rw [upd_ne hda, upd_ne hda] at hd; exact hd
    have hwa : wl ≠ a := (ne_of_none ha nwl).symm
    have hwd : wl ≠ d := ne_of_none hwl hd1
    refine ⟨_, rfl, a, t.cT, dx, _, rfl, (by rw [upd_ne hda.symm]; exact upd_same), T.clT, T.nT_channels, l3 _ _, ?_⟩
    refine q wl d _ ?_ ?_ ?_ nwl (e1.dom _ hd1) ?_
    · rw [upd_same, eF]
    · rw [upd_ne hwa, upd_ne hwd, upd_ne hwa, upd_ne hwa]
      exact hwl
    · rw [upd_ne hda, upd_same]
    · exact ((((Ext.mono (M := fun c => c = a) e1).trans (Keeps.own (M := fun c => c = a) rfl) fun c hc => .inl hc).trans (Keeps.own (M := fun c => c = a) rfl) fun c hc => .inl hc).trans (Keeps.new (M := fun c => c = a) hd) fun c hc => .inl hc).trans (Keeps.own (M := fun c => c = a) rfl) fun c hc => .inl hc
def sp_tIni (K : PySem.W.Frag) (t : Adr) : Sp := fun vs H Q _ => ∃ (p dx : Addr), vs = [.ref p] ∧ H p = some (.ins t.cT dx []) ∧
  ∀ (H' : Hp) (M : Addr → Prop), StAt K t H' M p Sq05.fresh 0 → Keeps (fun c => c = p) H H' → (∀ c, M c → c = p ∨ H c = none) → Q .non H'
theorem sc_tIni : FnScope ["self"] ["self"] (defScope st_tIni) := ⟨rfl, rfl, rfl, by decide +kernel, rfl, by decide +kernel, by decide +kernel⟩
def tf1 (l : Nat) : Nat := [60, 24, 30].getD l 0
def kf1 (l : Nat) : Nat := [1440, 720, 400, 120].getD l 0
theorem ok_tIni (T : Txt K mg t) (T2 : Txt2 K t) : FnOk P w K mg base CX0 3 t.f_tIni t.d_tIni ["self"] (sp_tIni K t) := by
  refine T.F_tIni.ok sc_tIni (fun vs H Q E h => ?_) (fun cdv A outer s H vs Q E hr h => ?_)
  · obtain ⟨p, dx, rfl, _⟩ := h
    rfl
  · obtain ⟨p, dx, rfl, hp, q⟩ := h
    obtain ⟨kn, hn⟩ := T.i_FIRST_WIDTH
    refine ⟨_, pss_one (ps_expr (pe_meth (pv 0) T.clT T.m_tSet (ok_tSet T) hr T.b_tSet .nil pass0 (pa_cons (pe_glob (v := .int 60000000) rfl hn ⟨kn, rfl⟩) (pa_cons (pe_glob (v := .ref t.a_times) rfl T.g_times rfl) (pa_cons (pe_glob (v := .ref t.a_kept) rfl T.g_kept rfl) pa_nil))))), ?_⟩
    refine ⟨_, rfl, p, dx, _, rfl, hp, rfl, p, dx, t.a_times, t.a_kept, true, 60000000, tf1, [], rfl, hp, .inl rfl, .inl ⟨rfl, T2.times⟩, fun l hl => ?_, fun wl d H' h1 h2 h3 n1 n2 kp => ?_⟩
    · have : l = 0 ∨ l = 1 ∨ l = 2 := by omega
      rcases this with rfl | rfl | rfl <;> decide
    · refine q H' _ (begun_at (tp := true) (wd := 60000000) (tf := tf1) (kf := kf1) good_first h1 h2 h3 (.inl ⟨rfl, T2.kept⟩) 0) kp fun c hc => ?_
      rcases hc with rfl | rfl | rfl | ⟨e, _⟩
      · exact .inl rfl
      · exact .inr n1
      · exact .inr n2
      · cases e
def sp_tBeg (K : PySem.W.Frag) (t : Adr) : Sp := fun vs H Q _ => ∃ (a tl kl : Addr) (wd b : Nat) (tf kf : Nat → Nat) (S : Sq05.State) (M : Addr → Prop), vs = [.ref a, .int wd, .ref tl, .ref kl] ∧ StAt K t H M a S b ∧ H tl = some (.lst (threeV tf)) ∧ H kl = some (.lst (fourV kf)) ∧
  Post K t H M a b (fun c => c = kl) (Sq05.step S (.begin_ ⟨wd, [tf 0, tf 1, tf 2], [kf 0, kf 1, kf 2, kf 3]⟩)) Q
theorem sc_tBeg : FnScope ["self", "width", "times", "kept"] ["self", "width", "times", "kept"] (defScope st_tBeg) := ⟨rfl, rfl, rfl, by decide +kernel, rfl, by decide +kernel, by decide +kernel⟩
theorem ok_tBeg (T : Txt K mg t) : FnOk P w K mg base CX0 3 t.f_tBeg t.d_tBeg ["self", "width", "times", "kept"] (sp_tBeg K t) := by
  refine T.F_tBeg.ok sc_tBeg (fun vs H Q E h => ?_) (fun cdv A outer s H vs Q E hr h => ?_)
  · obtain ⟨a, tl, kl, wd, b, tf, kf, S, M, rfl, _⟩ := h
    rfl
  · obtain ⟨a, tl, kl, wd, b, tf, kf, S, M, rfl, hS, htl, hkl, q⟩ := h
    obtain ⟨kn, hn⟩ := T.i_NOT_IN_RANGE
    refine ⟨_, pss_cons (ps_if (pt_not (pt_val (pe_call (ok_fCbg T) hr rfl T.g_fCbg T.F_fCbg.kp T.b_fCbg .nil pass0 (pa_cons (pv 1) (pa_cons (pv 2) (pa_cons (pv 3) pa_nil)))))) (pss_one (ps_ret (pe_lst (pa_cons (pe_glob (v := .int (-1)) rfl hn ⟨kn, rfl⟩) pa_nil)))) pss_nil)
      (pss_cons (ps_expr (pe_meth (pv 0) T.clT T.m_tSet (ok_tSet T) hr T.b_tSet .nil pass0 (pa_cons (pv 1) (pa_cons (pv 2) (pa_cons (pv 3) pa_nil))))) (pss_one (ps_ret (pe_lst (pa_cons pe_int pa_nil))))), ?_⟩
    refine ⟨_, rfl, _, rfl, _, rfl, tl, kl, wd, tf, kf, rfl, htl, hkl, fun r H1 hr1 e1 => ⟨_, rfl, ?_⟩⟩
    have hok := ok_iff wd (tf 0) (tf 1) (tf 2) (kf 0) (kf 1) (kf 2) (kf 3)
    cases r with
    | false =>
      have hn : (⟨wd, [tf 0, tf 1, tf 2], [kf 0, kf 1, kf 2, kf 3]⟩ : Sq05.Set).ok = false := by
        cases e : (⟨wd, [tf 0, tf 1, tf 2], [kf 0, kf 1, kf 2, kf 3]⟩ : Sq05.Set).ok with
        | false => rfl
        | true => exact absurd (hr1.mpr (hok.mp e)) (by decide)
      have es : Sq05.step S (.begin_ ⟨wd, [tf 0, tf 1, tf 2], [kf 0, kf 1, kf 2, kf 3]⟩) = (S, Sq05.says (-1)) := by
        unfold Sq05.step
        simp only [hn, if_true]
      rw [es] at q
      exact ⟨(by show 1 ≤ sizeLine; decide), fun p hp => q.said hS e1 hp⟩
    | true =>
      have hP := hr1.mp rfl
      have ht : (⟨wd, [tf 0, tf 1, tf 2], [kf 0, kf 1, kf 2, kf 3]⟩ : Sq05.Set).ok = true := hok.mpr hP
      have es : Sq05.step S (.begin_ ⟨wd, [tf 0, tf 1, tf 2], [kf 0, kf 1, kf 2, kf 3]⟩) = (Sq05.begun ⟨wd, [tf 0, tf 1, tf 2], [kf 0, kf 1, kf 2, kf 3]⟩, Sq05.says 0) := by
        unfold Sq05.step
        simp only [ht]
        rfl
      rw [es] at q
      obtain ⟨wl0, kl0, d0, tp0, wf0, kf0, C0, s0, _⟩ := id hS
      obtain ⟨dx, ha⟩ := s0.ob
      have ha1 := e1.same ha
      refine ⟨_, rfl, a, dx, _, rfl, ha1, rfl, _, rfl, _, rfl, _, rfl, a, dx, tl, kl, false, wd, tf, _, rfl, ha1, .inr ⟨wl0, kl0, d0, rfl⟩, .inr ⟨rfl, e1.same htl⟩, fun l hl => ?_, fun wl d H2 h1 h2 h3 n1 n2 kp => ?_⟩
      · have hB := hP.2.1
        have : l = 0 ∨ l = 1 ∨ l = 2 := by omega
        rcases this with rfl | rfl | rfl <;> omega
      · have hka : kl ≠ a := (ne_of ha hkl (by intro z; cases z)).symm
        have hk2 : H2 kl = some (.lst (fourV kf)) := kp.kp _ _ (e1.same hkl) hka
        refine ⟨(by show 1 ≤ sizeLine; decide), fun p hp => ?_⟩
        have kpH : Keeps M H H2 := (Ext.mono e1).trans kp fun c hc => .inl (hc ▸ s0.ma)
        have B := begun_at (K := K) (tp := false) (good_of_ok hP) h1 h2 h3 (.inr ⟨rfl, hk2⟩) b
        refine q p _ _ upd_same (B.ext (Keeps.new hp) (Nat.le_succ b)) (kpH.trans (Keeps.new (M := M) hp) fun c hc => .inl hc) (fun c hc => ?_) (B.dom hp) (kpH.dom _ hp)
        rcases hc with rfl | rfl | rfl | ⟨_, rfl⟩
        · exact .inl s0.ma
        · exact .inr (.inl (e1.dom _ n1))
        · exact .inr (.inl (e1.dom _ n2))
        · exact .inr (.inr rfl)
end
end TC
namespace TC
open PySem L2
theorem iteNT {c A B : Prop} [Decidable c] (hc : ¬ c) (h : A) : if (!decide c) = true then A else B := by
  rw [decide_eq_false hc]
  exact iteT h
theorem cells_len (L : ACells) : (cellsOf L).length = L.length := by
  unfold cellsOf
  rw [List.length_map]
theorem lvs_of {t : Adr} {H : Hp} {c : ChD} {s : Sq05.Set} {b : Nat} {k : Sq05.Channel} (h : ChAt t H c.M c.a c.ls c.last c.lv) (o : ChOk s b c k) (g : SetGood s) : ∀ l, l < 4 → LvS t H b (c.lv l) := by
  intro l hl
  obtain ⟨Ms, h1, _⟩ := h.ms
  have L := h1 l hl
  have E := o.lev l hl
  have hlen := E.length
  refine ⟨L.lvR, L.sums, E.rise, ?_, fun x hx => ?_⟩
  · rw [cells_len, o.o l hl, o.w l hl] at hlen
    have hk := (g.kept l hl).2
    unfold Sq05.Set.oldest at hlen
    revert hlen
    generalize c.last / s.wide l = z
    omega
  · have hm : (x.1, x.2.2) ∈ cellsOf (c.lv l).L := List.mem_map.mpr ⟨x, hx, rfl⟩
    exact ⟨E.good (x.1, x.2.2) hm, E.few (x.1, x.2.2) hm⟩
theorem lvsR_of {t : Adr} {H : Hp} {c : ChD} {s : Sq05.Set} {b : Nat} {k : Sq05.Channel} (h : ChAt t H c.M c.a c.ls c.last c.lv) (o : ChOk s b c k) : LvsR t H c.ls c.lv s c.last := by
  obtain ⟨Ms, h1, _⟩ := h.ms
  exact ⟨h.lst, fun l hl => (h1 l hl).lvR, fun l hl => ⟨o.w l hl, o.o l hl⟩⟩
theorem rel_some {S : Sq05.State} {b : Nat} {wf kf : Nat → Nat} {C : Chs} {c : Nat} {x : Nat × ChD} (s : StS S b wf kf C) (hc : c < 64) (h : atC C c = some x) : ChOk S.set b x.2 (S.channel c) := by
  have := s.rel c hc
  unfold ChRel at this
  rw [h] at this
  exact this
theorem rel_none {S : Sq05.State} {b : Nat} {wf kf : Nat → Nat} {C : Chs} {c : Nat} (s : StS S b wf kf C) (hc : c < 64) (h : atC C c = none) : S.channel c = Sq05.bare := by
  have := s.rel c hc
  unfold ChRel at this
  rw [h] at this
  exact this
section
variable {P : Program} {w : World} {K : PySem.W.Frag} {mg : Str → Option Value} {base : Heap} {t : Adr}
def sp_tKnown (K : PySem.W.Frag) (t : Adr) : Sp := fun vs H Q _ => ∃ (a : Addr) (c b : Nat) (S : Sq05.State) (M : Addr → Prop), vs = [.ref a, .int c] ∧ StAt K t H M a S b ∧ Post K t H M a b (fun _ => False) (Sq05.step S (.known c)) Q
theorem sc_tKnown : FnScope ["self", "channel"] ["self", "channel"] (defScope st_tKnown) := ⟨rfl, rfl, rfl, by decide +kernel, rfl, by decide +kernel, by decide +kernel⟩
theorem ok_tKnown (T : Txt K mg t) : FnOk P w K mg base CX0 3 t.f_tKnown t.d_tKnown ["self", "channel"] (sp_tKnown K t) := by
  refine T.F_tKnown.ok sc_tKnown (fun vs H Q E h => ?_) (fun cdv A outer s H vs Q E hr h => ?_)
  · obtain ⟨a, c, b, S, M, rfl, _⟩ := h
    rfl
  · obtain ⟨a, c, b, S, M, rfl, hS, q⟩ := h
    have hu := hu_of hr
    have hr1 : Room 1 _ := hr.mono (by decide)
    obtain ⟨kn, hn⟩ := T.i_NOT_IN_RANGE
    obtain ⟨km, hm⟩ := T.i_NOTHING_KNOWN
    refine ⟨_, pss_cons (ps_if (pt_not (pt_val (pe_call (ok_fIch T) hr1 rfl T.g_fIch T.F_fIch.kp T.b_fIch .nil pass0 (pa_cons (pv 1) pa_nil)))) (pss_one (ps_ret (pe_lst (pa_cons (pe_glob (v := .int (-1)) rfl hn ⟨kn, rfl⟩) pa_nil)))) pss_nil)
      (pss_cons (ps_if (pt_cmp (pc_dnotin hu (pv 1) (pe_fld (pv 0) rfl))) (pss_one (ps_ret (pe_lst (pa_cons (pe_glob (v := .int (-2)) rfl hm ⟨km, rfl⟩) pa_nil)))) pss_nil)
      (pss_one (ps_ret (pe_op op_cat (pe_lst (pa_cons pe_int (pa_cons (pe_fld (pe_dget hu (pe_fld (pv 0) rfl) (pv 1) (fun _ _ => rfl)) rfl) pa_nil)))
        (pe_meth0 (pe_dget hu (pe_fld (pv 0) rfl) (pv 1) (fun _ _ => rfl)) T.clC T.m_cTold (ok_cTold T) hr T.b_cTold .nil pass0))))), ?_⟩
    refine ⟨_, rfl, (c : Int), rfl, _, rfl, ?_⟩
    by_cases hc : c < 64
    · refine iteNS (show (0 : Int) ≤ (c : Int) ∧ (c : Int) ≤ 63 by omega) ?_
      obtain ⟨wl, kl, d, tp, wf, kf, C, s0, s1⟩ := id hS
      obtain ⟨dx, ha⟩ := s0.ob
      have ec : ¬ _root_.St.CHANNELS ≤ c := by unfold _root_.St.CHANNELS; omega
      refine ⟨_, rfl, _, rfl, a, t.cT, dx, _, _, rfl, ha, T.clT, T.nT_channels, rfl, d, _, rfl, DGet.k (k := Sum.inl (c : Int)) s0.dct, _, rfl, ?_⟩
      rw [val_kvsC]
      cases e : atC C c with
      | none =>
        have es : Sq05.step S (.known c) = (S, Sq05.says (-2)) := by
          unfold Sq05.step
          simp only [if_neg ec, rel_none s1 hc e, Sq05.bare]
        rw [es] at q
        exact ⟨(by show 1 ≤ sizeLine; decide), fun p hp => q.said hS Keeps.refl hp⟩
      | some x =>
        obtain ⟨hx, hxc⟩ := atC_some e
        have ck := rel_some s1 hc e
        have CA := s0.chs x hx
        obtain ⟨dc, hob⟩ := CA.ob
        have lv := lvs_of CA ck s1.good
        have eg : ∀ H', H' d = some (.dK (kvsC C)) → DGet H' d (V.int (c : Int)) (some (V.ref x.2.a)) := fun H' h => by
          have g := DGet.k (k := Sum.inl (c : Int)) h
          rw [val_kvsC, e] at g
          exact g
        refine ⟨_, rfl, a, t.cT, dx, _, _, rfl, ha, T.clT, T.nT_channels, rfl, _, rfl, d, V.ref x.2.a, rfl, eg _ s0.dct, x.2.a, t.cC, dc, _, _, rfl, hob, T.clC, T.nC_last, rfl, (by show 2 ≤ sizeLine; decide), fun p2 np2 => ?_⟩
        have e2 : Ext H (upd H p2 (.lst [V.int 0, V.int (x.2.last : Int)])) := Keeps.new np2
        have h2p : (upd H p2 (.lst [V.int 0, V.int (x.2.last : Int)])) p2 = some (.lst [V.int 0, V.int (x.2.last : Int)]) := upd_same
        generalize upd H p2 (.lst [V.int 0, V.int (x.2.last : Int)]) = H2 at e2 h2p
        refine ⟨_, rfl, a, t.cT, dx, _, _, rfl, e2.same ha, T.clT, T.nT_channels, rfl, _, rfl, d, V.ref x.2.a, rfl, eg _ (e2.same s0.dct), x.2.a, dc, _, rfl, e2.same hob, rfl, x.2.a, x.2.ls, dc, x.2.last, x.2.lv, rfl, e2.same hob, e2.same CA.lst, fun l hl => (lv l hl).r.ext e2, fun p3 H3 hp3 np3 e3 => ?_⟩
        refine ⟨p2, p3, _, _, rfl, rfl, e3.same h2p, hp3, (by show 2 + 8 ≤ sizeLine; decide), fun p np => ?_⟩
        have ex := Ext.trans e2 e3
        have es : Sq05.step S (.known c) = (S, ⟨0, (x.2.last : Int) :: [0, 1, 2, 3].flatMap (tellV x.2.lv)⟩) := by
          have el : ∀ l, l < 4 → [((S.set.oldest l x.2.last * S.set.wide l : Nat) : Int), (((S.channel c).cells.getD l []).length : Int)] = tellV x.2.lv l := fun l hl => by
            unfold tellV
            rw [ck.o l hl, ck.w l hl, ck.cells l hl, cells_len]
          unfold Sq05.step
          simp only [if_neg ec, ck.last]
          rw [show List.range Sq05.LEVELS = [0, 1, 2, 3] from rfl]
          simp only [List.flatMap_cons, List.flatMap_nil, el 0 (by omega), el 1 (by omega), el 2 (by omega), el 3 (by omega)]
        rw [es] at q
        refine q.same hS (Ext.trans ex (Keeps.new np)) (ex.dom _ np) ?_
        rw [upd_same]
        rfl
    · refine iteNT (show ¬ ((0 : Int) ≤ (c : Int) ∧ (c : Int) ≤ 63) by omega) ?_
      have es : Sq05.step S (.known c) = (S, Sq05.says (-1)) := by
        unfold Sq05.step
        simp only [if_pos (show _root_.St.CHANNELS ≤ c by unfold _root_.St.CHANNELS; omega)]
      rw [es] at q
      exact ⟨(by show 1 ≤ sizeLine; decide), fun p hp => q.said hS Keeps.refl hp⟩
def sp_tForg (K : PySem.W.Frag) (t : Adr) : Sp := fun vs H Q _ => ∃ (a : Addr) (c b : Nat) (S : Sq05.State) (M : Addr → Prop), vs = [.ref a, .int c] ∧ StAt K t H M a S b ∧ Post K t H M a b (fun _ => False) (Sq05.step S (.forget c)) Q
theorem sc_tForg : FnScope ["self", "channel"] ["self", "channel"] (defScope st_tForg) := ⟨rfl, rfl, rfl, by decide +kernel, rfl, by decide +kernel, by decide +kernel⟩
theorem chan_set {S : Sq05.State} {k : Sq05.Channel} {c j : Nat} (hl : S.channels.length = 64) (hc : c < 64) : ({ S with channels := S.channels.set c k } : Sq05.State).channel j = if j = c then k else S.channel j := by
  unfold Sq05.State.channel
  rw [List.getD_eq_getElem?_getD, List.getElem?_set, List.getD_eq_getElem?_getD]
  by_cases e : j = c
  · subst e
    rw [if_pos rfl, if_pos rfl, if_pos (by omega)]
    rfl
  · rw [if_neg (fun h => e h.symm), if_neg e]
theorem ok_tForg (T : Txt K mg t) : FnOk P w K mg base CX0 3 t.f_tForg t.d_tForg ["self", "channel"] (sp_tForg K t) := by
  refine T.F_tForg.ok sc_tForg (fun vs H Q E h => ?_) (fun cdv A outer s H vs Q E hr h => ?_)
  · obtain ⟨a, c, b, S, M, rfl, _⟩ := h
    rfl
  · obtain ⟨a, c, b, S, M, rfl, hS, q⟩ := h
    have hu := hu_of hr
    have hr1 : Room 1 _ := hr.mono (by decide)
    obtain ⟨kn, hn⟩ := T.i_NOT_IN_RANGE
    refine ⟨_, pss_cons (ps_if (pt_not (pt_val (pe_call (ok_fIch T) hr1 rfl T.g_fIch T.F_fIch.kp T.b_fIch .nil pass0 (pa_cons (pv 1) pa_nil)))) (pss_one (ps_ret (pe_lst (pa_cons (pe_glob (v := .int (-1)) rfl hn ⟨kn, rfl⟩) pa_nil)))) pss_nil)
      (pss_cons (ps_if (pt_cmp (pc_din hu (pv 1) (pe_fld (pv 0) rfl))) (pss_one (ps_expr (pe_dpop1 (pe_fld (pv 0) rfl) (pv 1) ⟨rfl, rfl, rfl, rfl⟩))) pss_nil)
      (pss_one (ps_ret (pe_lst (pa_cons pe_int pa_nil))))), ?_⟩
    refine ⟨_, rfl, (c : Int), rfl, _, rfl, ?_⟩
    by_cases hc : c < 64
    · refine iteNS (show (0 : Int) ≤ (c : Int) ∧ (c : Int) ≤ 63 by omega) ?_
      obtain ⟨wl, kl, d, tp, wf, kf, C, s0, s1⟩ := id hS
      obtain ⟨dx, ha⟩ := s0.ob
      have ec : ¬ _root_.St.CHANNELS ≤ c := by unfold _root_.St.CHANNELS; omega
      have es : Sq05.step S (.forget c) = ({ S with channels := S.channels.set c Sq05.bare }, Sq05.says 0) := by
        unfold Sq05.step
        simp only [if_neg ec]
      rw [es] at q
      refine ⟨_, rfl, _, rfl, a, t.cT, dx, _, _, rfl, ha, T.clT, T.nT_channels, rfl, d, _, rfl, DGet.k (k := Sum.inl (c : Int)) s0.dct, _, rfl, ?_⟩
      rw [val_kvsC]
      have s1' : StS { S with channels := S.channels.set c Sq05.bare } (b + 1) wf kf (dropC C c) := by
        refine ⟨s1.good, s1.wf, s1.kf, by show (S.channels.set c Sq05.bare).length = 64; rw [List.length_set]; exact s1.len, fun j hj => ?_⟩
        rw [chan_set s1.len hc, atC_dropC]
        by_cases ej : j = c
        · rw [if_pos ej, if_pos ej]
          rfl
        · rw [if_neg ej, if_neg ej]
          exact (s1.mono (Nat.le_succ b)).rel j hj
      cases e : atC C c with
      | none =>
        refine ⟨(by show 1 ≤ sizeLine; decide), fun p hp => ?_⟩
        have s1'' : StS { S with channels := S.channels.set c Sq05.bare } (b + 1) wf kf C := by
          refine ⟨s1'.good, s1'.wf, s1'.kf, s1'.len, fun j hj => ?_⟩
          have h1 := s1'.rel j hj
          rw [atC_dropC] at h1
          by_cases ej : j = c
          · rw [if_pos ej] at h1
            rw [ej] at h1 ⊢
            rw [e]
            exact h1
          · rw [if_neg ej] at h1
            exact h1
        exact q p _ M upd_same ⟨wl, kl, d, tp, wf, kf, C, s0.ext (Keeps.new hp), s1''⟩ (Keeps.new hp) (fun x hx => .inl hx) (s0.dom p hp) hp
      | some x =>
        refine ⟨_, rfl, a, t.cT, dx, _, _, rfl, ha, T.clT, T.nT_channels, rfl, d, rfl, .inl ⟨_, .inl s0.dct⟩, _, rfl, _, Sum.inl (c : Int), V.ref x.2.a, s0.dct, rfl, ?_, ?_⟩
        · rw [val_kvsC, e]
          rfl
        · refine ⟨(by show 1 ≤ sizeLine; decide), fun p hp => ?_⟩
          rw [kvs_dropC] at hp ⊢
          have L := s0.less (i := c)
          have k1 : Keeps M H (upd H d (.dK (kvsC (dropC C c)))) := Keeps.own (M := M) s0.md
          exact q p _ M upd_same ⟨wl, kl, d, tp, wf, kf, dropC C c, L.ext (Keeps.new hp), s1'⟩ (k1.trans (Keeps.new (M := M) hp) fun c hc => .inl hc) (fun x hx => .inl hx) (L.dom p hp) (k1.dom p hp)
    · refine iteNT (show ¬ ((0 : Int) ≤ (c : Int) ∧ (c : Int) ≤ 63) by omega) ?_
      have es : Sq05.step S (.forget c) = (S, Sq05.says (-1)) := by
        unfold Sq05.step
        simp only [if_pos (show _root_.St.CHANNELS ≤ c by unfold _root_.St.CHANNELS; omega)]
      rw [es] at q
      exact ⟨(by show 1 ≤ sizeLine; decide), fun p hp => q.said hS Keeps.refl hp⟩
def sp_tCells (K : PySem.W.Frag) (t : Adr) : Sp := fun vs H Q _ => ∃ (a : Addr) (c l n m b : Nat) (S : Sq05.State) (M : Addr → Prop), vs = [.ref a, .int c, .int l, .int n, .int m] ∧ b ≤ 2 ^ 20 ∧ StAt K t H M a S b ∧ Post K t H M a b (fun _ => False) (Sq05.step S (.cells c l n m)) Q
theorem sc_tCells : FnScope ["self", "channel", "level", "number", "most"] ["self", "channel", "level", "number", "most"] (defScope st_tCells) := ⟨rfl, rfl, rfl, by decide +kernel, rfl, by decide +kernel, by decide +kernel⟩
theorem at4' {f : Nat → Addr} {l : Nat} (h : l < 4) : atI ([0, 1, 2, 3].map fun l => V.ref (f l)) (l : Int) = some (V.ref (f l)) := by
  have : l = 0 ∨ l = 1 ∨ l = 2 ∨ l = 3 := by omega
  rcases this with rfl | rfl | rfl | rfl <;> rfl
theorem bare_cells (l : Nat) : Sq05.bare.cells.getD l [] = [] := by
  show (List.replicate Sq05.LEVELS []).getD l [] = []
  rw [List.getD_eq_getElem?_getD, List.getElem?_replicate]
  split <;> rfl
theorem ok_tCells (T : Txt K mg t) : FnOk P w K mg base CX0 5 t.f_tCells t.d_tCells ["self", "channel", "level", "number", "most"] (sp_tCells K t) := by
  refine T.F_tCells.ok sc_tCells (fun vs H Q E h => ?_) (fun cdv A outer s H vs Q E hr h => ?_)
  · obtain ⟨a, c, l, n, m, b, S, M, rfl, _⟩ := h
    rfl
  · obtain ⟨a, c, l, n, m, b, S, M, rfl, hb, hS, q⟩ := h
    have hu := hu_of hr
    have hr1 : Room 1 _ := hr.mono (by decide)
    obtain ⟨kn, hn⟩ := T.i_NOT_IN_RANGE
    refine ⟨_, pss_cons (ps_if (PW.pt (pw_or (pt_not (pt_val (pe_call (ok_fIch T) hr1 rfl T.g_fIch T.F_fIch.kp T.b_fIch .nil pass0 (pa_cons (pv 1) pa_nil)))) (pw_or1 (pt_not (pt_val (pe_call (ok_fIlv T) hr1 rfl T.g_fIlv T.F_fIlv.kp T.b_fIlv .nil pass0 (pa_cons (pv 2) pa_nil)))))))
        (pss_one (ps_ret (pe_lst (pa_cons (pe_glob (v := .int (-1)) rfl hn ⟨kn, rfl⟩) pa_nil)))) pss_nil)
      (pss_cons (ps_if (pt_cmp (pc_dnotin hu (pv 1) (pe_fld (pv 0) rfl))) (pss_one (ps_ret (pe_lst (pa_cons pe_int pa_nil)))) pss_nil)
      (pss_one (ps_ret (pe_call (ok_fTc T) hr rfl T.g_fTc T.F_fTc.kp T.b_fTc .nil pass0 (pa_cons (pe_ix ix_list (pe_fld (pe_dget hu (pe_fld (pv 0) rfl) (pv 1) (fun _ _ => rfl)) rfl) (pv 2) (fun _ _ => rfl)) (pa_cons (pv 3) (pa_cons (pv 4) pa_nil))))))), ?_⟩
    have bad : (_root_.St.CHANNELS ≤ c ∨ Sq05.LEVELS ≤ l) → Sq05.step S (.cells c l n m) = (S, Sq05.says (-1)) := fun h => by
      unfold Sq05.step
      simp only [if_pos h]
    refine ⟨_, rfl, (c : Int), rfl, _, rfl, ?_⟩
    by_cases hc : c < 64
    · refine iteNS (show (0 : Int) ≤ (c : Int) ∧ (c : Int) ≤ 63 by omega) ?_
      refine ⟨_, rfl, (l : Int), rfl, _, rfl, ?_⟩
      by_cases hl : l < 4
      · refine iteNS (show (0 : Int) ≤ (l : Int) ∧ (l : Int) ≤ 3 by omega) ?_
        obtain ⟨wl, kl, d, tp, wf, kf, C, s0, s1⟩ := id hS
        obtain ⟨dx, ha⟩ := s0.ob
        have ec : ¬ (_root_.St.CHANNELS ≤ c ∨ Sq05.LEVELS ≤ l) := by unfold _root_.St.CHANNELS Sq05.LEVELS; omega
        refine ⟨_, rfl, _, rfl, a, t.cT, dx, _, _, rfl, ha, T.clT, T.nT_channels, rfl, d, _, rfl, DGet.k (k := Sum.inl (c : Int)) s0.dct, _, rfl, ?_⟩
        rw [val_kvsC]
        cases e : atC C c with
        | none =>
          have es : Sq05.step S (.cells c l n m) = (S, Sq05.says 0) := by
            unfold Sq05.step
            simp only [if_neg ec, rel_none s1 hc e, bare_cells, List.filter_nil, List.take_nil]
            rfl
          rw [es] at q
          exact ⟨(by show 1 ≤ sizeLine; decide), fun p hp => q.said hS Keeps.refl hp⟩
        | some x =>
          obtain ⟨hx, hxc⟩ := atC_some e
          have ck := rel_some s1 hc e
          have CA := s0.chs x hx
          obtain ⟨dc, hob⟩ := CA.ob
          have lv := lvs_of CA ck s1.good l hl
          have eg : DGet H d (V.int (c : Int)) (some (V.ref x.2.a)) := by
            have g := DGet.k (k := Sum.inl (c : Int)) s0.dct
            rw [val_kvsC, e] at g
            exact g
          refine ⟨_, rfl, a, t.cT, dx, _, _, rfl, ha, T.clT, T.nT_channels, rfl, _, rfl, d, V.ref x.2.a, rfl, eg, x.2.a, t.cC, dc, _, _, rfl, hob, T.clC, T.nC_levels, rfl, _, rfl, x.2.ls, _, _, _, rfl, rfl, .inl (.inl CA.lst), at4' (f := fun l => (x.2.lv l).a) hl, _, rfl, _, rfl,
            n, m, b, x.2.lv l, rfl, lv.r, lv.sums, lv.rise, lv.len, fun y hy => ⟨(lv.good y hy).1, ?_⟩, fun p H' hp np ex => ?_⟩
          · have := (lv.good y hy).2
            omega
          · have es : Sq05.step S (.cells c l n m) = (S, ⟨((((x.2.lv l).L.filter fun y => decide (n ≤ y.1)).take m).length : Int), (cellsOf (((x.2.lv l).L.filter fun y => decide (n ≤ y.1)).take m)).flatMap cellV⟩) := by
              have eq : ((cellsOf (x.2.lv l).L).filter fun y => decide (n ≤ y.1)).take m = cellsOf (((x.2.lv l).L.filter fun y => decide (n ≤ y.1)).take m) := by
                rw [cells_filter]
                unfold cellsOf
                rw [List.map_take]
              unfold Sq05.step
              simp only [if_neg ec, ck.cells l hl, eq]
              rw [cells_len]
              rfl
            rw [es] at q
            exact q.same hS ex np hp
      · refine iteNT (show ¬ ((0 : Int) ≤ (l : Int) ∧ (l : Int) ≤ 3) by omega) ?_
        rw [bad (.inr (by unfold Sq05.LEVELS; omega))] at q
        exact ⟨(by show 1 ≤ sizeLine; decide), fun p hp => q.said hS Keeps.refl hp⟩
    · refine iteNT (show ¬ ((0 : Int) ≤ (c : Int) ∧ (c : Int) ≤ 63) by omega) ?_
      rw [bad (.inl (by unfold _root_.St.CHANNELS; omega))] at q
      exact ⟨(by show 1 ≤ sizeLine; decide), fun p hp => q.said hS Keeps.refl hp⟩
def sp_tAsk (K : PySem.W.Frag) (t : Adr) : Sp := fun vs H Q _ => ∃ (a : Addr) (c x y b : Nat) (S : Sq05.State) (M : Addr → Prop), vs = [.ref a, .int c, .int x, .int y] ∧ b ≤ 2 ^ 20 ∧ StAt K t H M a S b ∧ Post K t H M a b (fun _ => False) (Sq05.step S (.ask c x y)) Q
theorem sc_tAsk : FnScope ["self", "channel", "a", "b", "runs"] ["self", "channel", "a", "b"] (defScope st_tAsk) := ⟨rfl, rfl, rfl, by decide +kernel, rfl, by decide +kernel, by decide +kernel⟩
theorem ok_tAsk (T : Txt K mg t) : FnOk P w K mg base CX0 6 t.f_tAsk t.d_tAsk ["self", "channel", "a", "b"] (sp_tAsk K t) := by
  refine T.F_tAsk.ok sc_tAsk (fun vs H Q E h => ?_) (fun cdv A outer s H vs Q E hr h => ?_)
  · obtain ⟨a, c, x, y, b, S, M, rfl, _⟩ := h
    rfl
  · obtain ⟨a, c, x, y, b, S, M, rfl, hb, hS, q⟩ := h
    have hu := hu_of hr
    have hr2 : Room 2 _ := hr.mono (by decide)
    have hr4 : Room 4 _ := hr.mono (by decide)
    obtain ⟨kn, hn⟩ := T.i_NOT_IN_RANGE
    obtain ⟨km, hm⟩ := T.i_NOTHING_KNOWN
    refine ⟨_, pss_cons (ps_if (pt_not (pt_val (pe_call (ok_fCask T) hr2 rfl T.g_fCask T.F_fCask.kp T.b_fCask .nil pass0 (pa_cons (pv 1) (pa_cons (pv 2) (pa_cons (pv 3) pa_nil)))))) (pss_one (ps_ret (pe_lst (pa_cons (pe_glob (v := .int (-1)) rfl hn ⟨kn, rfl⟩) pa_nil)))) pss_nil)
      (pss_cons (ps_if (pt_cmp (pc_dnotin hu (pv 1) (pe_fld (pv 0) rfl))) (pss_one (ps_ret (pe_lst (pa_cons (pe_glob (v := .int (-2)) rfl hm ⟨km, rfl⟩) pa_nil)))) pss_nil)
      (pss_cons (ps_set (i := 4) sc_tAsk.nd rfl (Or.inl rfl) (pe_meth (pe_dget hu (pe_fld (pv 0) rfl) (pv 1) (fun _ _ => rfl)) T.clC T.m_cRuns (ok_cRuns T) hr T.b_cRuns .nil pass0 (pa_cons (pv 2) (pa_cons (pv 3) pa_nil))))
      (pss_cons (ps_if (pt_cmpR op_eq (pe_callB call_len_seq rfl T.b_len PySem.boot_len (pa_cons (pv 4) pa_nil)) pe_int (nomark _)) (pss_one (ps_ret (pe_lst (pa_cons (pe_glob (v := .int (-2)) rfl hm ⟨km, rfl⟩) pa_nil)))) pss_nil)
      (pss_one (ps_ret (pe_op op_cat (pe_lst (pa_cons pe_int pa_nil)) (pe_call (ok_fTr T) hr4 rfl T.g_fTr T.F_fTr.kp T.b_fTr .nil pass0 (pa_cons (pv 4) pa_nil)))))))), ?_⟩
    refine ⟨_, rfl, _, rfl, _, rfl, (c : Int), (x : Int), (y : Int), rfl, _, rfl, ?_⟩
    by_cases hc : (c < 64 ∧ x ≤ 2 ^ 62 ∧ y ≤ 2 ^ 62 ∧ x < y)
    · obtain ⟨h1, h2, h3, h4⟩ := hc
      refine iteNS (show ((0 : Int) ≤ (c : Int) ∧ (c : Int) ≤ 63) ∧ ((0 : Int) ≤ (x : Int) ∧ (x : Int) ≤ 4611686018427387904) ∧ ((0 : Int) ≤ (y : Int) ∧ (y : Int) ≤ 4611686018427387904) ∧ (x : Int) < (y : Int) by omega) ?_
      obtain ⟨wl, kl, d, tp, wf, kf, C, s0, s1⟩ := id hS
      obtain ⟨dx, ha⟩ := s0.ob
      have ec : ¬ (_root_.St.CHANNELS ≤ c ∨ _root_.St.timeOk x = false ∨ _root_.St.timeOk y = false ∨ y ≤ x) := by
        unfold _root_.St.CHANNELS _root_.St.timeOk _root_.St.TIME
        simp only [decide_eq_false_iff_not]
        omega
      have est : Sq05.step S (.ask c x y) = (S, match S.asked (S.channel c) x y with
          | none => Sq05.says (-2)
          | some f => ⟨0, [(f.from_ : Int), f.to, f.cells] ++ Sq05.told f.sum⟩) := by
        unfold Sq05.step
        simp only [if_neg ec]
        cases S.asked (S.channel c) x y <;> rfl
      rw [est] at q
      refine ⟨_, rfl, _, rfl, a, t.cT, dx, _, _, rfl, ha, T.clT, T.nT_channels, rfl, d, _, rfl, DGet.k (k := Sum.inl (c : Int)) s0.dct, _, rfl, ?_⟩
      rw [val_kvsC]
      cases e : atC C c with
      | none =>
        have eb : S.asked (S.channel c) x y = none := by
          rw [rel_none s1 h1 e]
          rfl
        rw [eb] at q
        exact ⟨(by show 1 ≤ sizeLine; decide), fun p hp => q.said hS Keeps.refl hp⟩
      | some z =>
        obtain ⟨hz, hzc⟩ := atC_some e
        have ck := rel_some s1 h1 e
        have CA := s0.chs z hz
        obtain ⟨dc, hob⟩ := CA.ob
        have lv := lvs_of CA ck s1.good
        have lR := lvsR_of CA ck
        have eg : DGet H d (V.int (c : Int)) (some (V.ref z.2.a)) := by
          have g := DGet.k (k := Sum.inl (c : Int)) s0.dct
          rw [val_kvsC, e] at g
          exact g
        refine ⟨_, rfl, a, t.cT, dx, _, _, rfl, ha, T.clT, T.nT_channels, rfl, _, rfl, d, V.ref z.2.a, rfl, eg, z.2.a, dc, _, rfl, hob, rfl, _, rfl, _, rfl, z.2.a, z.2.ls, dc, z.2.last, x, y, z.2.lv, S.set, rfl, hob, lR, s1.good.ok, fun v => s1.good.enough _ v, h3, fun pr H1 rs hpr hrs hcov npr e1 => ?_⟩
        refine ⟨_, rfl, pr, _, rfl, .inl (.inl (.inl hpr)), rfl, _, rfl, ite2 (fun h0 => ?_) fun h0 => ?_⟩
        · rw [dec_zi] at h0
          have h0' := of_decide_eq_true h0
          rw [List.length_map] at h0'
          have hnil : rs = [] := List.eq_nil_of_length_eq_zero (by omega)
          rw [hnil] at hcov
          rw [asked_none ck.last hcov] at q
          exact ⟨(by show 1 ≤ sizeLine; decide), fun p hp => q.said hS e1 hp⟩
        · rw [dec_zi] at h0
          have h0' : ¬ (((rs.map fun r => V.ref r.a).length : Int) = 0) := fun h => h0 (decide_eq_true h)
          rw [List.length_map] at h0'
          have hne : rs ≠ [] := fun h => by rw [h] at h0'; exact h0' rfl
          obtain ⟨r0, hr0⟩ : ∃ r0, rs[0]? = some r0 := by
            cases rs with
            | nil => exact absurd rfl hne
            | cons r _ => exact ⟨r, rfl⟩
          obtain ⟨rl, hrl⟩ : ∃ rl, rs.getLast? = some rl := ⟨_, List.getLast?_eq_some_getLast hne⟩
          obtain ⟨f, hf, ho⟩ := asked_some (lv := z.2.lv) ck.last hcov hr0 hrl (fun r hr => ⟨(hrs r hr).lt, (hrs r hr).m1⟩) ck.w ck.cells fun l hl => (lv l hl).rise
          rw [hf] at q
          have hlen : rs.length ≤ 100000 := by
            have h5 := runs_few hrs
            have h6 := cover_len (s := S.set) (tm := z.2.last) (b := min y ((z.2.last / S.set.wide 0 + 1) * S.set.wide 0)) Sq05.ENOUGH (max x (S.set.oldest 3 z.2.last * S.set.wide 3))
            rw [hcov] at h6
            exact Nat.le_trans h5 h6
          refine ⟨(by show 1 ≤ sizeLine; decide), fun p1 np1 => ?_⟩
          have e2 : Ext H1 (upd H1 p1 (.lst [V.int 0])) := Keeps.new np1
          have hp1 : (upd H1 p1 (.lst [V.int 0])) p1 = some (.lst [V.int 0]) := upd_same
          generalize upd H1 p1 (.lst [V.int 0]) = H2 at e2 hp1
          have e12 := Ext.trans e1 e2
          have lv2 : ∀ l, l < 4 → LvS t H2 b (z.2.lv l) := fun l hl => ⟨(lv l hl).r.ext e12, fun u hu => let ⟨du, hdu⟩ := (lv l hl).sums u hu; ⟨du, e12.same hdu⟩, (lv l hl).rise, (lv l hl).len, (lv l hl).good⟩
          refine ⟨_, rfl, pr, b, rs, z.2.lv, r0, rl, rfl, e2.same hpr, fun r hr => (hrs r hr).ext e2, lv2, hb, hlen, hr0, hrl, fun p3 H3 hp3 np3 e3 => ?_⟩
          have hlo : ((outR z.2.lv rs r0 rl).map V.int).length = 15 := by
            rw [List.length_map]
            unfold outR
            rw [List.length_append, told_len]
            rfl
          refine ⟨p1, p3, _, _, rfl, rfl, e3.same hp1, hp3, (by rw [hlo]; show 1 + 15 ≤ sizeLine; decide), fun p np => ?_⟩
          have ex := Ext.trans e12 e3
          refine q.same hS (Ext.trans ex (Keeps.new np)) (ex.dom _ np) ?_
          rw [upd_same, ← ho]
          rfl
    · have hc' : ¬ (((0 : Int) ≤ (c : Int) ∧ (c : Int) ≤ 63) ∧ ((0 : Int) ≤ (x : Int) ∧ (x : Int) ≤ 4611686018427387904) ∧ ((0 : Int) ≤ (y : Int) ∧ (y : Int) ≤ 4611686018427387904) ∧ (x : Int) < (y : Int)) := by omega
      refine iteNT hc' ?_
      have es : Sq05.step S (.ask c x y) = (S, Sq05.says (-1)) := by
        have hp : (_root_.St.CHANNELS ≤ c ∨ _root_.St.timeOk x = false ∨ _root_.St.timeOk y = false ∨ y ≤ x) := by
          unfold _root_.St.CHANNELS _root_.St.timeOk _root_.St.TIME
          simp only [decide_eq_false_iff_not]
          omega
        unfold Sq05.step
        simp only [if_pos hp]
      rw [es] at q
      exact ⟨(by show 1 ≤ sizeLine; decide), fun p hp => q.said hS Keeps.refl hp⟩
end
end TC
namespace TC
open PySem L2
structure PreCh (s : Sq05.Set) (b : Nat) (c : ChD) (k : Sq05.Channel) : Prop where
  len : k.cells.length = 4
  cells : ∀ l, l < 4 → k.cells.getD l [] = cellsOf (c.lv l).L
  w : ∀ l, l < 4 → (c.lv l).w = s.wide l
  k : ∀ l, l < 4 → (c.lv l).k = s.kept.getD l 0
  o : ∀ l, l < 4 → (c.lv l).o ≤ s.oldest l c.last
  lev : ∀ l, l < 4 → LevOk (c.lv l).o (c.last / (c.lv l).w) b (cellsOf (c.lv l).L)
theorem ChOk.pre {s : Sq05.Set} {b : Nat} {c : ChD} {k : Sq05.Channel} (h : ChOk s b c k) : PreCh s b c k := ⟨h.len, h.cells, h.w, h.k, fun l hl => Nat.le_of_eq (h.o l hl), h.lev⟩
theorem PreCh.addOk {s : Sq05.Set} {b tm : Nat} {c : ChD} {k : Sq05.Channel} (h : PreCh s b c k) (g : SetGood s) (ht : c.last ≤ tm) : ∀ l, l < 4 → AddOk (c.lv l) b tm := fun l hl => by
  have hk := g.kept l hl
  refine ⟨(h.lev l hl).later (Nat.div_le_div_right ht), ?_, ?_, ?_⟩
  · have h1 := Nat.le_trans (h.o l hl) (oldest_mono (s := s) (l := l) ht)
    rw [h.w l hl, h.k l hl]
    exact h1
  · rw [h.k l hl]; exact hk.1
  · rw [h.k l hl]; exact hk.2
theorem zip_get {s : Sq05.Set} {m : _root_.St.Measurement} {cs : List Cells} {l : Nat} (h : l < cs.length) : (cs.zipIdx.map fun x => s.added x.2 m x.1).getD l [] = s.added l m (cs.getD l []) := by
  rw [List.getD_eq_getElem?_getD, List.getElem?_map, List.getElem?_zipIdx, List.getD_eq_getElem?_getD, List.getElem?_eq_getElem h]
  simp
theorem PreCh.added {s : Sq05.Set} {b : Nat} {c : ChD} {k : Sq05.Channel} {m : _root_.St.Measurement} {lv' : Nat → LvD} {M' : Addr → Prop} (h : PreCh s b c k) (g : SetGood s) (ht : c.last ≤ m.time) (ad : ∀ l, l < 4 → Added (c.lv l) (lv' l) m) :
    ChOk s (b + 1) ⟨c.a, c.ls, m.time, lv', M'⟩ (s.add k m) := by
  have cell : ∀ l, l < 4 → s.added l m (cellsOf (c.lv l).L) = cellsOf (lv' l).L := fun l hl => by
    have E := h.lev l hl
    have A := ad l hl
    have hk := g.kept l hl
    rw [A.cells, h.w l hl, h.k l hl]
    rw [added_eq E.rise (fun x hx => ?_) (oldest_le hk.1)]
    · rfl
    · have := E.new x hx
      rw [h.w l hl] at this
      exact Nat.le_trans this (Nat.div_le_div_right ht)
  refine ⟨rfl, ?_, fun l hl => ?_, fun l hl => ?_, fun l hl => ?_, fun l hl => ?_, fun l hl => ?_⟩
  · show (k.cells.zipIdx.map fun x => s.added x.2 m x.1).length = 4
    rw [List.length_map, List.length_zipIdx, h.len]
  · show (k.cells.zipIdx.map fun x => s.added x.2 m x.1).getD l [] = cellsOf (lv' l).L
    rw [zip_get (by rw [h.len]; exact hl), h.cells l hl, cell l hl]
  · show (lv' l).w = s.wide l
    rw [(ad l hl).w, h.w l hl]
  · show (lv' l).k = s.kept.getD l 0
    rw [(ad l hl).k, h.k l hl]
  · show (lv' l).o = s.oldest l m.time
    rw [(ad l hl).o, h.w l hl, h.k l hl]
    rfl
  · show LevOk (lv' l).o (m.time / (lv' l).w) (b + 1) (cellsOf (lv' l).L)
    have E := h.lev l hl
    have A := ad l hl
    have hk := g.kept l hl
    rw [A.cells, A.o, A.w, h.k l hl, h.w l hl]
    have E2 := E.later (Nat.div_le_div_right (c := (c.lv l).w) ht)
    rw [h.w l hl] at E2
    exact (E2.filter (s.oldest l m.time)).put (oldest_le hk.1) m
theorem if_cont {cont : Hp → Prop} {G : Hp → Prop} {A : Prop} {c : Bool} {H : Hp} (h1 : c = true → (∀ H1, G H1 → cont H1) → A) (h2 : c = false → G H) (h3 : ∀ H1, G H1 → cont H1) : if c = true then A else cont H := by
  cases c with
  | true => exact iteT (h1 rfl h3)
  | false => exact iteF (h3 H (h2 rfl))
section
variable {P : Program} {w : World} {K : PySem.W.Frag} {mg : Str → Option Value} {base : Heap} {t : Adr}
def meaOf (c x : Nat) (v : Int) (q : Nat) : _root_.St.Measurement := ⟨c, x, if v = _root_.St.NONE then none else some v, q⟩
theorem mea_val {c x q : Nat} {v : Int} : valOf (meaOf c x v q) = v := by
  unfold valOf meaOf
  show (if v = _root_.St.NONE then none else some v : Option Int).getD _root_.St.NONE = v
  split
  · rename_i h
    rw [h]
    rfl
  · rfl
theorem mea_some {c x q : Nat} {v u : Int} (h : (meaOf c x v q).value = some u) : u ≠ _root_.St.NONE := by
  have h' : (if v = _root_.St.NONE then none else some v : Option Int) = some u := h
  split at h'
  · cases h'
  · rename_i hn
    cases h'
    exact hn
theorem mea_ok (c x q : Nat) (v : Int) : (meaOf c x v q).ok = true ↔ (c < 64 ∧ x ≤ 2 ^ 62 ∧ (v = -9223372036854775808 ∨ (-4611686018427387904 ≤ v ∧ v ≤ 4611686018427387904)) ∧ q < 256) := by
  have e1 : _root_.St.NONE = -9223372036854775808 := rfl
  have e2 : _root_.St.LARGE = 4611686018427387904 := rfl
  have e3 : _root_.St.TIME = 2 ^ 62 := rfl
  have e4 : _root_.St.CHANNELS = 64 := rfl
  unfold _root_.St.Measurement.ok meaOf _root_.St.timeOk
  simp only [Bool.and_eq_true, decide_eq_true_eq, e3, e4]
  by_cases h : v = _root_.St.NONE
  · simp only [if_pos h]
    rw [e1] at h
    constructor
    · rintro ⟨a1, a2, a3, _⟩
      exact ⟨a1, a2, .inl h, a3⟩
    · rintro ⟨a1, a2, _, a3⟩
      exact ⟨a1, a2, a3, trivial⟩
  · simp only [if_neg h, _root_.St.valueOk, Bool.and_eq_true, decide_eq_true_eq, e2]
    rw [e1] at h
    constructor
    · rintro ⟨a1, a2, a3, a4⟩
      exact ⟨a1, a2, .inr a4, a3⟩
    · rintro ⟨a1, a2, a4 | a4, a3⟩
      · exact absurd a4 h
      · exact ⟨a1, a2, a3, a4⟩
def sp_tAdd (K : PySem.W.Frag) (t : Adr) : Sp := fun vs H Q _ => ∃ (a : Addr) (c x q b : Nat) (v : Int) (S : Sq05.State) (M : Addr → Prop), vs = [.ref a, .int c, .int x, .int v, .int q] ∧ StAt K t H M a S b ∧ Post K t H M a b (fun _ => False) (Sq05.step S (.add (meaOf c x v q))) Q
theorem sc_tAdd : FnScope ["self", "channel", "time", "value", "marks"] ["self", "channel", "time", "value", "marks"] (defScope st_tAdd) := ⟨rfl, rfl, rfl, by decide +kernel, rfl, by decide +kernel, by decide +kernel⟩
theorem bare_pre {s : Sq05.Set} {b : Nat} {ch : ChD} (hw : ∀ l, l < 4 → (ch.lv l).w = s.wide l) (hk : ∀ l, l < 4 → (ch.lv l).k = s.kept.getD l 0) (ho : ∀ l, l < 4 → (ch.lv l).o = 0) (hL : ∀ l, l < 4 → (ch.lv l).L = []) : PreCh s b ch Sq05.bare := by
  refine ⟨List.length_replicate, fun l hl => ?_, hw, hk, fun l hl => ?_, fun l hl => ?_⟩
  · rw [bare_cells, hL l hl]
    rfl
  · rw [ho l hl]
    exact Nat.zero_le _
  · rw [hL l hl]
    exact LevOk.nil
theorem ok_tAdd (T : Txt K mg t) : FnOk P w K mg base CX0 6 t.f_tAdd t.d_tAdd ["self", "channel", "time", "value", "marks"] (sp_tAdd K t) := by
  refine T.F_tAdd.ok sc_tAdd (fun vs H Q E h => ?_) (fun cdv A outer s H vs Q E hr h => ?_)
  · obtain ⟨a, c, x, q, b, v, S, M, rfl, _⟩ := h
    rfl
  · obtain ⟨a, c, x, mk, b, v, S, M, rfl, hS, q⟩ := h
    have hu := hu_of hr
    have hr2 : Room 2 _ := hr.mono (by decide)
    have hr4 : Room 4 _ := hr.mono (by decide)
    obtain ⟨kn, hn⟩ := T.i_NOT_IN_RANGE
    obtain ⟨km, hm⟩ := T.i_BEFORE_THE_LAST
    refine ⟨_, pss_cons (ps_if (pt_not (pt_val (pe_call (ok_fCad T) hr2 rfl T.g_fCad T.F_fCad.kp T.b_fCad .nil pass0 (pa_cons (pv 1) (pa_cons (pv 2) (pa_cons (pv 3) (pa_cons (pv 4) pa_nil))))))) (pss_one (ps_ret (pe_lst (pa_cons (pe_glob (v := .int (-1)) rfl hn ⟨kn, rfl⟩) pa_nil)))) pss_nil)
      (pss_cons (ps_if (pt_cmp (pc_dnotin hu (pv 1) (pe_fld (pv 0) rfl))) (pss_one (ps_dput hu (pe_fld (pv 0) rfl) (pv 1) (pe_make T.mkC (ok_cIni T) hr4 rfl T.mgC T.b_cIni .nil pass0 (pa_cons (pe_fld (pv 0) rfl) (pa_cons (pe_fld (pv 0) rfl) pa_nil))) rfl)) pss_nil)
      (pss_cons (ps_if (pt_cmpR op_lt (pv 2) (pe_fld (pe_dget hu (pe_fld (pv 0) rfl) (pv 1) (fun _ _ => rfl)) rfl) (nomark _)) (pss_one (ps_ret (pe_lst (pa_cons (pe_glob (v := .int (-4)) rfl hm ⟨km, rfl⟩) pa_nil)))) pss_nil)
      (pss_cons (ps_expr (pe_meth (pe_dget hu (pe_fld (pv 0) rfl) (pv 1) (fun _ _ => rfl)) T.clC T.m_cAdd (ok_cAdd T) hr T.b_cAdd .nil pass0 (pa_cons (pv 2) (pa_cons (pv 3) (pa_cons (pv 4) pa_nil)))))
      (pss_one (ps_ret (pe_lst (pa_cons pe_int pa_nil))))))), ?_⟩
    refine ⟨_, rfl, _, rfl, _, rfl, _, rfl, (c : Int), (x : Int), v, (mk : Int), rfl, _, rfl, ?_⟩
    have hmo := mea_ok c x mk v
    by_cases hc : (c < 64 ∧ x ≤ 2 ^ 62 ∧ (v = -9223372036854775808 ∨ (-4611686018427387904 ≤ v ∧ v ≤ 4611686018427387904)) ∧ mk < 256)
    · obtain ⟨h1, h2, h3, h4⟩ := id hc
      refine iteNS (show ((0 : Int) ≤ (c : Int) ∧ (c : Int) ≤ 63) ∧ ((0 : Int) ≤ (x : Int) ∧ (x : Int) ≤ 4611686018427387904) ∧ (v = -9223372036854775808 ∨ (-4611686018427387904 ≤ v ∧ v ≤ 4611686018427387904)) ∧ ((0 : Int) ≤ (mk : Int) ∧ (mk : Int) ≤ 255) from ⟨by omega, by omega, h3, by omega⟩) ?_
      have hok : (meaOf c x v mk).ok = true := hmo.mpr hc
      obtain ⟨wl, kl, d, tp, wf, kf, C, s0, s1⟩ := id hS
      obtain ⟨dx, ha⟩ := s0.ob
      refine ⟨_, rfl, _, rfl, a, t.cT, dx, _, _, rfl, ha, T.clT, T.nT_channels, rfl, d, _, rfl, DGet.k (k := Sum.inl (c : Int)) s0.dct, _, rfl, ?_⟩
      rw [val_kvsC, Option.isSome_map]
      refine if_cont (G := fun H1 => ∃ (M1 : Addr → Prop) (C1 : Chs) (z : Nat × ChD), StH K t H1 M1 a wl kl d tp wf kf C1 ∧ atC C1 c = some z ∧ Keeps M H H1 ∧ (∀ u, M1 u → M u ∨ H u = none) ∧ (∀ j, j ≠ c → atC C1 j = atC C j) ∧ PreCh S.set b z.2 (S.channel c) ∧
        ((S.channel c).last = none ∧ z.2.last = 0 ∨ (S.channel c).last = some z.2.last ∧ StS S b wf kf C1)) (fun hb hcont => ?_) (fun hb => ?_) (fun H1 hG => ?_)
      · -- a channel more
        have e : atC C c = none := by
          cases e : atC C c with
          | none => rfl
          | some y => rw [e] at hb; cases hb
        have eb := rel_none s1 h1 e
        refine ⟨_, rfl, a, t.cT, dx, _, _, rfl, ha, T.clT, T.nT_widths, rfl, _, rfl, a, t.cT, dx, _, _, rfl, ha, T.clT, T.nT_kept, rfl, ?_⟩
        intro p dp np ndp nep
        have ex0 : Ext H (upd (upd H dp (.own p)) p (.ins t.cC dp [])) := Ext.trans (Keeps.new ndp) (Keeps.new (by rw [upd_ne nep.symm]; exact np))
        have hpp : (upd (upd H dp (.own p)) p (.ins t.cC dp [])) p = some (.ins t.cC dp []) := upd_same
        generalize upd (upd H dp (.own p)) p (.ins t.cC dp []) = H0 at ex0 hpp
        refine ⟨p, dp, wl, kl, tp, wf, kf, rfl, hpp, ex0.same s0.wid, s0.kep.step fun xs h => ex0.same h, fun l hl => by rw [s1.wf l hl]; exact s1.good.wide l hl, fun H2 M2 ls lv hch heq kp sub dom => ⟨rfl, ?_⟩⟩
        have ex2 : Ext H H2 := ⟨fun u o h _ => kp.kp _ _ (ex0.same h) (ne_of_none h np), fun u h => ex0.dom _ (kp.dom _ h)⟩
        have sub2 : ∀ u, M2 u → H u = none := fun u hu' => by
          rcases sub u hu' with h | h
          · rw [h]; exact np
          · exact ex0.dom _ h
        have eK : putK (kvsC C) (Sum.inl (c : Int)) (V.ref p) = kvsC (C ++ [(c, ⟨p, ls, 0, lv, M2⟩)]) := by
          rw [putK_new _ (by rw [val_kvsC, e]; rfl), kvs_snoc]
        have hlenC : (kvsC C).length < sizeLine := by
          have := s0.len
          unfold kvsC
          rw [List.length_map]
          exact Nat.lt_of_lt_of_le (show C.length < 100 by omega) (by decide)
        have dput : DPut H2 d (V.int (c : Int)) (V.ref p) (upd H2 d (.dK (kvsC (C ++ [(c, ⟨p, ls, 0, lv, M2⟩)])))) := by
          rw [← eK]
          exact DPut.k (k := Sum.inl (c : Int)) (ex2.same s0.dct) hlenC
        refine ⟨_, rfl, a, t.cT, dx, _, _, rfl, ex2.same ha, T.clT, T.nT_channels, rfl, _, rfl, d, _, rfl, dput, hcont _ ?_⟩
        refine ⟨_, _, (c, ⟨p, ls, 0, lv, M2⟩), s0.more (c' := ⟨p, ls, 0, lv, M2⟩) e h1 hch ex2 sub2 dom, by rw [atC_snoc e, if_pos rfl], (Ext.mono ex2).trans (Keeps.own (M := M) s0.md) fun u hu' => .inl hu', fun u hu' => ?_, fun j hj => by rw [atC_snoc e, if_neg hj], ?_, .inl ⟨by rw [eb]; rfl, rfl⟩⟩
        · rcases hu' with h | h
          · exact .inl h
          · exact .inr (sub2 u h)
        · rw [eb]
          exact bare_pre (fun l hl => (heq l hl).1.trans (s1.wf l hl)) (fun l hl => (heq l hl).2.1.trans (s1.kf l hl)) (fun l hl => (heq l hl).2.2.1) fun l hl => (heq l hl).2.2.2
      · have e : ∃ z, atC C c = some z := by
          cases e : atC C c with
          | none => rw [e] at hb; cases hb
          | some y => exact ⟨y, rfl⟩
        obtain ⟨z, e⟩ := e
        have ck := rel_some s1 h1 e
        exact ⟨M, C, z, s0, e, Keeps.refl, fun u hu' => .inl hu', fun _ _ => rfl, ck.pre, .inr ⟨ck.last, s1⟩⟩
      · obtain ⟨M1, C1, z, t0, e, kp1, sub1, hoth, pre, hlast⟩ := hG
        obtain ⟨hz, hzc⟩ := atC_some e
        have CA := t0.chs z hz
        obtain ⟨dc, hob⟩ := CA.ob
        obtain ⟨dx1, ha1⟩ := t0.ob
        have eg : DGet H1 d (V.int (c : Int)) (some (V.ref z.2.a)) := by
          have g := DGet.k (k := Sum.inl (c : Int)) t0.dct
          rw [val_kvsC, e] at g
          exact g
        have est : Sq05.step S (.add (meaOf c x v mk)) = if x < z.2.last then (S, Sq05.says (-4)) else ({ S with channels := S.channels.set c (S.set.add (S.channel c) (meaOf c x v mk)) }, Sq05.says 0) := by
          unfold Sq05.step
          simp only [hok]
          show (if (match (S.channel c).last with | some tl => decide (x < tl) | none => false) = true then (S, Sq05.says (-4)) else _) = _
          rcases hlast with ⟨l1, l2⟩ | ⟨l1, _⟩
          · rw [l1, l2]
            rfl
          · rw [l1]
            by_cases hx : x < z.2.last
            · rw [if_pos hx]
              exact if_pos (decide_eq_true hx)
            · rw [if_neg hx]
              exact if_neg (by simp [hx])
        refine ⟨_, rfl, _, rfl, a, t.cT, dx1, _, _, rfl, ha1, T.clT, T.nT_channels, rfl, _, rfl, d, V.ref z.2.a, rfl, eg, z.2.a, t.cC, dc, _, _, rfl, hob, T.clC, T.nC_last, rfl, _, _, rfl, rfl, _, rfl, ite2 (fun hx => ?_) fun hx => ?_⟩
        · have hx' : x < z.2.last := by
            have := of_decide_eq_true hx
            omega
          rw [est, if_pos hx'] at q
          rcases hlast with ⟨_, l2⟩ | ⟨_, s1'⟩
          · omega
          · refine ⟨(by show 1 ≤ sizeLine; decide), fun p hp => ?_⟩
            exact q p _ M1 upd_same ⟨wl, kl, d, tp, wf, kf, C1, t0.ext (Keeps.new hp), s1'.mono (Nat.le_succ b)⟩ (kp1.trans (Keeps.new (M := M) hp) fun u hu' => .inl hu') (fun u hu' => (sub1 u hu').imp id .inl) (t0.dom p hp) (kp1.dom p hp)
        · have hx' : ¬ x < z.2.last := fun h => hx (decide_eq_true (by omega))
          rw [est, if_neg hx'] at q
          have hle : z.2.last ≤ (meaOf c x v mk).time := by
            show z.2.last ≤ x
            omega
          refine ⟨_, rfl, a, t.cT, dx1, _, _, rfl, ha1, T.clT, T.nT_channels, rfl, _, rfl, d, V.ref z.2.a, rfl, eg, z.2.a, dc, _, rfl, hob, rfl, _, rfl, _, rfl, _, rfl, z.2.a, z.2.ls, z.2.last, b, z.2.lv, meaOf c x v mk, z.2.M, (by rw [mea_val]; rfl), CA, fun u hu' => mea_some hu', pre.addOk s1.good hle, fun u h0 hm' => t0.dom u h0 (t0.inn z hz u hm'), fun H2 M2 lv2 hch had kp2 sub2 dom2 => ?_⟩
          have ck := pre.added (M' := M2) s1.good hle had
          have P2 := t0.put (c' := ⟨z.2.a, z.2.ls, x, lv2, M2⟩) e rfl hch kp2 sub2 dom2
          refine ⟨(by show 1 ≤ sizeLine; decide), fun p hp => ?_⟩
          have kpH : Keeps M H H2 := kp1.trans kp2 fun u hu' => sub1 u (t0.inn z hz u hu')
          refine q p _ (fun u => M1 u ∨ M2 u) upd_same ⟨wl, kl, d, tp, wf, kf, _, P2.ext (Keeps.new hp), ?_⟩ (kpH.trans (Keeps.new (M := M) hp) fun u hu' => .inl hu') (fun u hu' => ?_) (P2.dom p hp) (kpH.dom p hp)
          · refine ⟨s1.good, s1.wf, s1.kf, by show (S.channels.set c _).length = 64; rw [List.length_set]; exact s1.len, fun j hj => ?_⟩
            rw [chan_set s1.len h1, atC_putC e]
            by_cases ej : j = c
            · rw [if_pos ej, if_pos ej]
              exact ck
            · rw [if_neg ej, if_neg ej, hoth j ej]
              exact (s1.mono (Nat.le_succ b)).rel j hj
          · rcases hu' with h | h
            · exact (sub1 u h).imp id .inl
            · rcases sub2 u h with h' | h'
              · exact (sub1 u (t0.inn z hz u h')).imp id .inl
              · exact .inr (.inl (kp1.dom u h'))
    · have hc' : ¬ (((0 : Int) ≤ (c : Int) ∧ (c : Int) ≤ 63) ∧ ((0 : Int) ≤ (x : Int) ∧ (x : Int) ≤ 4611686018427387904) ∧ (v = -9223372036854775808 ∨ (-4611686018427387904 ≤ v ∧ v ≤ 4611686018427387904)) ∧ ((0 : Int) ≤ (mk : Int) ∧ (mk : Int) ≤ 255)) := fun h => hc ⟨by omega, by omega, h.2.2.1, by omega⟩
      refine iteNT hc' ?_
      have es : Sq05.step S (.add (meaOf c x v mk)) = (S, Sq05.says (-1)) := by
        have hf : (meaOf c x v mk).ok = false := by
          cases e : (meaOf c x v mk).ok with
          | false => rfl
          | true => exact absurd (hmo.mp e) hc
        unfold Sq05.step
        simp only [hf, if_true]
      rw [es] at q
      exact ⟨(by show 1 ≤ sizeLine; decide), fun p hp => q.said hS Keeps.refl hp⟩
end
end TC
namespace TC

theorem whole_id (c : List (List Int)) : PySq05.whole c = c := by
  unfold PySq05.whole
  split <;> rfl
theorem map_whole (cs : List (List (List Int))) : cs.map PySq05.whole = cs := by
  conv => rhs; rw [← List.map_id cs]
  exact List.map_congr_left fun c _ => whole_id c
theorem shape_eq {p : Int} {n k : Nat} (h : PySq05.shape p = some (n, k)) : k = 0 ∧ ((p = 1 ∧ n = 8) ∨ (p = 2 ∧ n = 4) ∨ (p = 3 ∧ n = 3) ∨ (p = 4 ∧ n = 4) ∨ (p = 5 ∧ n = 1) ∨ (p = 6 ∧ n = 1)) := by
  unfold PySq05.shape at h
  by_cases h1 : p = 1
  · rw [if_pos h1] at h; cases h; exact ⟨rfl, .inl ⟨h1, rfl⟩⟩
  · rw [if_neg h1] at h
    by_cases h2 : p = 2
    · rw [if_pos h2] at h; cases h; exact ⟨rfl, .inr (.inl ⟨h2, rfl⟩)⟩
    · rw [if_neg h2] at h
      by_cases h3 : p = 3
      · rw [if_pos h3] at h; cases h; exact ⟨rfl, .inr (.inr (.inl ⟨h3, rfl⟩))⟩
      · rw [if_neg h3] at h
        by_cases h4 : p = 4
        · rw [if_pos h4] at h; cases h; exact ⟨rfl, .inr (.inr (.inr (.inl ⟨h4, rfl⟩)))⟩
        · rw [if_neg h4] at h
          by_cases h5 : p = 5
          · rw [if_pos h5] at h; cases h; exact ⟨rfl, .inr (.inr (.inr (.inr (.inl ⟨h5, rfl⟩))))⟩
          · rw [if_neg h5] at h
            by_cases h6 : p = 6
            · rw [if_pos h6] at h; cases h; exact ⟨rfl, .inr (.inr (.inr (.inr (.inr ⟨h6, rfl⟩))))⟩
            · rw [if_neg h6] at h; cases h
theorem calls_nil {f : Nat} {cs : List (List (List Int))} (h : PyFlat.calls PySq05.shape f [] = some cs) : cs = [] := by
  cases f <;> (unfold PyFlat.calls at h; exact (Option.some.inj h).symm)
theorem calls_step {f : Nat} {p : Int} {r : List Int} {cs : List (List (List Int))} (h : PyFlat.calls PySq05.shape f (p :: r) = some cs) :
    ∃ f' n cs', PySq05.shape p = some (n, 0) ∧ n ≤ r.length ∧ PyFlat.calls PySq05.shape f' (r.drop n) = some cs' ∧ cs = [p :: r.take n] :: cs' := by
  cases f with
  | zero => cases h
  | succ f =>
    unfold PyFlat.calls at h
    cases hc : PyFlat.call PySq05.shape (p :: r) with
    | none => rw [hc] at h; cases h
    | some ct =>
      obtain ⟨c, t⟩ := ct
      rw [hc] at h
      simp only at h
      cases hs : PyFlat.calls PySq05.shape f t with
      | none => rw [hs] at h; cases h
      | some cs' =>
        rw [hs] at h
        simp only [Option.some.injEq] at h
        unfold PyFlat.call at hc
        simp only at hc
        cases hsh : PySq05.shape p with
        | none => rw [hsh] at hc; cases hc
        | some nk =>
          obtain ⟨n, k⟩ := nk
          rw [hsh] at hc
          simp only at hc
          obtain ⟨rfl, _⟩ := shape_eq hsh
          split at hc
          · cases hc
          · have e : PyFlat.rows 0 (r.drop n) = some ([], r.drop n) := rfl
            rw [e] at hc
            simp only [Option.some.injEq, Prod.mk.injEq] at hc
            obtain ⟨rfl, rfl⟩ := hc
            exact ⟨f, n, cs', rfl, by omega, hs, h.symm⟩
theorem told_cons (x : List Int) (l : List (List Int)) : PyFlat.told (x :: l) = (x.length : Int) :: x ++ PyFlat.told l := by
  unfold PyFlat.told
  rw [List.flatMap_cons]
theorem told_length : ∀ (cs : List (List (List Int))) (S : Sq05.State), (PyFlat.told (PyFlat.played Sq05Neutral.step S cs)).length = Sq05Neutral.outs S cs + cs.length
  | [], S => rfl
  | c :: cs, S => by
    show (PyFlat.told ((Sq05Neutral.step S c).2 :: PyFlat.played Sq05Neutral.step (Sq05Neutral.step S c).1 cs)).length = (Sq05Neutral.step S c).2.length + Sq05Neutral.outs (Sq05Neutral.step S c).1 cs + (cs.length + 1)
    rw [told_cons, List.length_append, List.length_cons, told_length cs]
    omega
theorem asked_open {ns : List Int} (h : PySq05.answers_asked ns = true) : ∃ cs, PyFlat.calls PySq05.shape ns.length ns = some cs ∧ cs.length ≤ 2000 ∧ (∀ c ∈ cs, Sq05Neutral.asked1 c = true) ∧ Sq05Neutral.outs Sq05Neutral.start cs < 1000000 ∧
    PySq05.answers ns = PyFlat.told (PyFlat.played Sq05Neutral.step Sq05Neutral.start cs) := by
  unfold PySq05.answers_asked at h
  unfold PySq05.answers
  cases hc : PySq05.calls ns with
  | none => rw [hc] at h; cases h
  | some cs =>
    rw [hc] at h
    simp only [Bool.and_eq_true, PyFlat.atMost, decide_eq_true_eq, Sq05Neutral.asked, List.all_eq_true] at h
    obtain ⟨h1, _, h2, h3⟩ := h
    refine ⟨cs, ?_, h1, h2, h3, rfl⟩
    unfold PySq05.calls at hc
    cases hf : PyFlat.calls PySq05.shape ns.length ns with
    | none => rw [hf] at hc; cases hc
    | some cs0 =>
      rw [hf] at hc
      simp only [Option.some.injEq] at hc
      rw [map_whole] at hc
      rw [hc]
inductive CallIs : Int → List Int → Sq05.Call → Prop
  | beg (w a b c k l m o : Nat) : CallIs 1 [w, a, b, c, k, l, m, o] (.begin_ ⟨w, [a, b, c], [k, l, m, o]⟩)
  | add (c x q : Nat) (v : Int) : CallIs 2 [c, x, v, q] (.add (meaOf c x v q))
  | ask (c x y : Nat) : CallIs 3 [c, x, y] (.ask c x y)
  | cells (c l n m : Nat) : CallIs 4 [c, l, n, m] (.cells c l n m)
  | known (c : Nat) : CallIs 5 [c] (.known c)
  | forget (c : Nat) : CallIs 6 [c] (.forget c)
theorem nat_of {z : Int} (h : Sq05Neutral.natural z 64 = true) : ∃ n : Nat, z = (n : Int) := by
  unfold Sq05Neutral.natural at h
  rw [Bool.and_eq_true] at h
  exact Int.eq_ofNat_of_zero_le (of_decide_eq_true h.1)
theorem call_is {p : Int} {args : List Int} (h : Sq05Neutral.asked1 [p :: args] = true) : ∃ cl, CallIs p args cl ∧ Sq05Neutral.callOf [p :: args] = some cl := by
  unfold Sq05Neutral.asked1 at h
  split at h
  · rename_i a b c d e f g i heq
    cases heq
    simp only [Bool.and_eq_true] at h
    obtain ⟨h1, h2, h3, h4, h5, h6, h7, h8⟩ := h
    obtain ⟨a, rfl⟩ := nat_of h1
    obtain ⟨b, rfl⟩ := nat_of h2
    obtain ⟨c, rfl⟩ := nat_of h3
    obtain ⟨d, rfl⟩ := nat_of h4
    obtain ⟨e, rfl⟩ := nat_of h5
    obtain ⟨f, rfl⟩ := nat_of h6
    obtain ⟨g, rfl⟩ := nat_of h7
    obtain ⟨i, rfl⟩ := nat_of h8
    refine ⟨_, .beg a b c d e f g i, ?_⟩
    simp [Sq05Neutral.callOf, Sq05Neutral.callIn, Sq05Neutral.unsigned]
  · rename_i a b c d heq
    cases heq
    simp only [Bool.and_eq_true] at h
    obtain ⟨h1, h2, h3, h4⟩ := h
    obtain ⟨a, rfl⟩ := nat_of h1
    obtain ⟨b, rfl⟩ := nat_of h2
    obtain ⟨d, rfl⟩ := nat_of h4
    refine ⟨_, .add a b d c, ?_⟩
    simp [Sq05Neutral.callOf, Sq05Neutral.callIn, Sq05Neutral.unsigned, meaOf]
  · rename_i a b c heq
    cases heq
    simp only [Bool.and_eq_true] at h
    obtain ⟨h1, h2, h3⟩ := h
    obtain ⟨a, rfl⟩ := nat_of h1
    obtain ⟨b, rfl⟩ := nat_of h2
    obtain ⟨c, rfl⟩ := nat_of h3
    refine ⟨_, .ask a b c, ?_⟩
    simp [Sq05Neutral.callOf, Sq05Neutral.callIn, Sq05Neutral.unsigned]
  · rename_i a b c d heq
    cases heq
    simp only [Bool.and_eq_true] at h
    obtain ⟨h1, h2, h3, h4⟩ := h
    obtain ⟨a, rfl⟩ := nat_of h1
    obtain ⟨b, rfl⟩ := nat_of h2
    obtain ⟨c, rfl⟩ := nat_of h3
    obtain ⟨d, rfl⟩ := nat_of h4
    refine ⟨_, .cells a b c d, ?_⟩
    simp [Sq05Neutral.callOf, Sq05Neutral.callIn, Sq05Neutral.unsigned]
  · rename_i a heq
    cases heq
    obtain ⟨a, rfl⟩ := nat_of h
    refine ⟨_, .known a, ?_⟩
    simp [Sq05Neutral.callOf, Sq05Neutral.callIn, Sq05Neutral.unsigned]
  · rename_i a heq
    cases heq
    obtain ⟨a, rfl⟩ := nat_of h
    refine ⟨_, .forget a, ?_⟩
    simp [Sq05Neutral.callOf, Sq05Neutral.callIn, Sq05Neutral.unsigned]
  · cases h
theorem step_is {S : Sq05.State} {c : List (List Int)} {cl : Sq05.Call} (h : Sq05Neutral.callOf c = some cl) : Sq05Neutral.step S c = ((Sq05.step S cl).1, (Sq05.step S cl).2.value :: (Sq05.step S cl).2.out) := by
  unfold Sq05Neutral.step
  rw [h]
end TC
namespace TC
open PySem L2
theorem eqF {i j : Int} {A B : Prop} (h : i ≠ j) (hb : B) : if decide (V.int i = V.int j) = true then A else B := by
  rw [dec_zi, decide_eq_false h]
  exact iteF hb
theorem eqT {i j : Int} {A B : Prop} (h : i = j) (ha : A) : if decide (V.int i = V.int j) = true then A else B := by
  rw [dec_zi, decide_eq_true h]
  exact iteT ha
theorem Post.from {K : PySem.W.Frag} {t : Adr} {H H2 : Hp} {M N : Addr → Prop} {a : Addr} {b : Nat} {r : Sq05.State × Sq05.Ans} {Q : VK} (h : Post K t H M a b (fun _ => False) r Q) (e : Ext H H2) (hN : ∀ c, N c → H c = none) : Post K t H2 M a b N r Q := by
  intro p H' M' h1 h2 h3 h4 h5 h6
  refine h p H' M' h1 h2 ((Ext.mono e).trans h3 fun c hc => .inl hc) (fun c hc => ?_) h5 (e.dom _ h6)
  rcases h4 c hc with h | h | h
  · exact .inl h
  · exact .inr (.inl (e.dom _ h))
  · exact .inr (.inl (hN c h))
section
variable {P : Program} {w : World} {K : PySem.W.Frag} {mg : Str → Option Value} {base : Heap} {t : Adr}
def sp_fAof (K : PySem.W.Frag) (t : Adr) : Sp := fun vs H Q _ => ∃ (a g : Addr) (p : Int) (ns : List Int) (cl : Sq05.Call) (b : Nat) (S : Sq05.State) (M : Addr → Prop), vs = [.ref a, .int p, .ref g] ∧ H g = some (.lst (ns.map V.int)) ∧ CallIs p ns cl ∧ b ≤ 2 ^ 20 ∧ StAt K t H M a S b ∧
  Post K t H M a b (fun _ => False) (Sq05.step S cl) Q
theorem sc_fAof : FnScope ["station", "call", "given"] ["station", "call", "given"] (defScope st_fAof) := ⟨rfl, rfl, rfl, by decide +kernel, rfl, by decide +kernel, by decide +kernel⟩
theorem ok_fAof (T : Txt K mg t) : FnOk P w K mg base CX0 7 t.f_fAof t.d_fAof ["station", "call", "given"] (sp_fAof K t) := by
  refine T.F_fAof.ok sc_fAof (fun vs H Q E h => ?_) (fun cdv A outer s H vs Q E hr h => ?_)
  · obtain ⟨a, g, p, ns, cl, b, S, M, rfl, _⟩ := h
    rfl
  · obtain ⟨a, g, p, ns, cl, b, S, M, rfl, hg, hcl, hb, hS, q⟩ := h
    have hr3 : Room 3 _ := hr.mono (by decide)
    have hr5 : Room 5 _ := hr.mono (by decide)
    obtain ⟨k1, n1⟩ := T.i_BEGIN
    obtain ⟨k2, n2⟩ := T.i_ADD
    obtain ⟨k3, n3⟩ := T.i_ASK
    obtain ⟨k4, n4⟩ := T.i_CELLS
    obtain ⟨k5, n5⟩ := T.i_KNOWN
    refine ⟨_, pss_cons (ps_if (pt_cmpR op_eq (pv 1) (pe_glob (v := .int 1) rfl n1 ⟨k1, rfl⟩) (nomark _)) (pss_one (ps_ret (pe_meth (pv 0) T.clT T.m_tBeg (ok_tBeg T) hr3 T.b_tBeg .nil pass0
        (pa_cons (pe_ix ix_list (pv 2) pe_int (fun _ _ => rfl)) (pa_cons (pe_slice sl_list (pv 2) (po_some pe_int) (po_some pe_int)) (pa_cons (pe_slice sl_list (pv 2) (po_some pe_int) (po_some pe_int)) pa_nil)))))) pss_nil)
      (pss_cons (ps_if (pt_cmpR op_eq (pv 1) (pe_glob (v := .int 2) rfl n2 ⟨k2, rfl⟩) (nomark _)) (pss_one (ps_ret (pe_meth (pv 0) T.clT T.m_tAdd (ok_tAdd T) hr T.b_tAdd .nil pass0
        (pa_cons (pe_ix ix_list (pv 2) pe_int (fun _ _ => rfl)) (pa_cons (pe_ix ix_list (pv 2) pe_int (fun _ _ => rfl)) (pa_cons (pe_ix ix_list (pv 2) pe_int (fun _ _ => rfl)) (pa_cons (pe_ix ix_list (pv 2) pe_int (fun _ _ => rfl)) pa_nil))))))) pss_nil)
      (pss_cons (ps_if (pt_cmpR op_eq (pv 1) (pe_glob (v := .int 3) rfl n3 ⟨k3, rfl⟩) (nomark _)) (pss_one (ps_ret (pe_meth (pv 0) T.clT T.m_tAsk (ok_tAsk T) hr T.b_tAsk .nil pass0
        (pa_cons (pe_ix ix_list (pv 2) pe_int (fun _ _ => rfl)) (pa_cons (pe_ix ix_list (pv 2) pe_int (fun _ _ => rfl)) (pa_cons (pe_ix ix_list (pv 2) pe_int (fun _ _ => rfl)) pa_nil)))))) pss_nil)
      (pss_cons (ps_if (pt_cmpR op_eq (pv 1) (pe_glob (v := .int 4) rfl n4 ⟨k4, rfl⟩) (nomark _)) (pss_one (ps_ret (pe_meth (pv 0) T.clT T.m_tCells (ok_tCells T) hr5 T.b_tCells .nil pass0
        (pa_cons (pe_ix ix_list (pv 2) pe_int (fun _ _ => rfl)) (pa_cons (pe_ix ix_list (pv 2) pe_int (fun _ _ => rfl)) (pa_cons (pe_ix ix_list (pv 2) pe_int (fun _ _ => rfl)) (pa_cons (pe_ix ix_list (pv 2) pe_int (fun _ _ => rfl)) pa_nil))))))) pss_nil)
      (pss_cons (ps_if (pt_cmpR op_eq (pv 1) (pe_glob (v := .int 5) rfl n5 ⟨k5, rfl⟩) (nomark _)) (pss_one (ps_ret (pe_meth (pv 0) T.clT T.m_tKnown (ok_tKnown T) hr3 T.b_tKnown .nil pass0 (pa_cons (pe_ix ix_list (pv 2) pe_int (fun _ _ => rfl)) pa_nil)))) pss_nil)
      (pss_one (ps_ret (pe_meth (pv 0) T.clT T.m_tForg (ok_tForg T) hr3 T.b_tForg .nil pass0 (pa_cons (pe_ix ix_list (pv 2) pe_int (fun _ _ => rfl)) pa_nil)))))))), ?_⟩
    obtain ⟨wl, kl, d, tp, wf, kf, C, s0, _⟩ := id hS
    obtain ⟨dx, ha⟩ := s0.ob
    have G : SqL K H g (ns.map V.int) := .inl (.inl hg)
    cases hcl with
    | beg w a1 a2 a3 b0 b1 b2 b3 =>
      refine ⟨_, rfl, rfl, _, rfl, eqT rfl ?_⟩
      refine ⟨_, rfl, a, dx, _, rfl, ha, rfl, _, rfl, g, _, _, _, rfl, rfl, G, atI_nat (j := 0) rfl, _, rfl, 1, rfl, 4, rfl, g, _, rfl, G, fun p1 np1 => ?_⟩
      have e1 : Ext H (upd H p1 (.lst [V.int (a1 : Int), V.int (a2 : Int), V.int (a3 : Int)])) := Keeps.new np1
      refine ⟨_, rfl, 4, rfl, 8, rfl, g, _, rfl, .inl (.inl (e1.same hg)), fun p2 np2 => ?_⟩
      have e2 : Ext H (upd (upd H p1 (.lst [V.int (a1 : Int), V.int (a2 : Int), V.int (a3 : Int)])) p2 (.lst [V.int (b0 : Int), V.int (b1 : Int), V.int (b2 : Int), V.int (b3 : Int)])) := Ext.trans e1 (Keeps.new np2)
      have h12 : p1 ≠ p2 := fun e => by rw [← e, upd_same] at np2; cases np2
      refine ⟨a, p1, p2, w, b, fun l => [a1, a2, a3].getD l 0, fun l => [b0, b1, b2, b3].getD l 0, S, M, rfl, hS.ext e2 (Nat.le_refl b), (by rw [upd_ne h12]; exact upd_same), upd_same, q.from e2 fun c hc => ?_⟩
      rw [hc]
      exact e1.dom _ np2
    | add c x mk v =>
      refine ⟨_, rfl, rfl, _, rfl, eqF (by decide) ?_⟩
      refine ⟨_, rfl, rfl, _, rfl, eqT rfl ?_⟩
      exact ⟨_, rfl, a, dx, _, rfl, ha, rfl, _, rfl, g, _, _, _, rfl, rfl, G, atI_nat (j := 0) rfl, _, rfl, g, _, _, _, rfl, rfl, G, atI_nat (j := 1) rfl, _, rfl, g, _, _, _, rfl, rfl, G, atI_nat (j := 2) rfl, _, rfl, g, _, _, _, rfl, rfl, G, atI_nat (j := 3) rfl, a, c, x, mk, b, v, S, M, rfl, hS, q⟩
    | ask c x y =>
      refine ⟨_, rfl, rfl, _, rfl, eqF (by decide) ?_⟩
      refine ⟨_, rfl, rfl, _, rfl, eqF (by decide) ?_⟩
      refine ⟨_, rfl, rfl, _, rfl, eqT rfl ?_⟩
      exact ⟨_, rfl, a, dx, _, rfl, ha, rfl, _, rfl, g, _, _, _, rfl, rfl, G, atI_nat (j := 0) rfl, _, rfl, g, _, _, _, rfl, rfl, G, atI_nat (j := 1) rfl, _, rfl, g, _, _, _, rfl, rfl, G, atI_nat (j := 2) rfl, a, c, x, y, b, S, M, rfl, hb, hS, q⟩
    | cells c l n m =>
      refine ⟨_, rfl, rfl, _, rfl, eqF (by decide) ?_⟩
      refine ⟨_, rfl, rfl, _, rfl, eqF (by decide) ?_⟩
      refine ⟨_, rfl, rfl, _, rfl, eqF (by decide) ?_⟩
      refine ⟨_, rfl, rfl, _, rfl, eqT rfl ?_⟩
      exact ⟨_, rfl, a, dx, _, rfl, ha, rfl, _, rfl, g, _, _, _, rfl, rfl, G, atI_nat (j := 0) rfl, _, rfl, g, _, _, _, rfl, rfl, G, atI_nat (j := 1) rfl, _, rfl, g, _, _, _, rfl, rfl, G, atI_nat (j := 2) rfl, _, rfl, g, _, _, _, rfl, rfl, G, atI_nat (j := 3) rfl, a, c, l, n, m, b, S, M, rfl, hb, hS, q⟩
    | known c =>
      refine ⟨_, rfl, rfl, _, rfl, eqF (by decide) ?_⟩
      refine ⟨_, rfl, rfl, _, rfl, eqF (by decide) ?_⟩
      refine ⟨_, rfl, rfl, _, rfl, eqF (by decide) ?_⟩
      refine ⟨_, rfl, rfl, _, rfl, eqF (by decide) ?_⟩
      refine ⟨_, rfl, rfl, _, rfl, eqT rfl ?_⟩
      exact ⟨_, rfl, a, dx, _, rfl, ha, rfl, _, rfl, g, _, _, _, rfl, rfl, G, atI_nat (j := 0) rfl, a, c, b, S, M, rfl, hS, q⟩
    | forget c =>
      refine ⟨_, rfl, rfl, _, rfl, eqF (by decide) ?_⟩
      refine ⟨_, rfl, rfl, _, rfl, eqF (by decide) ?_⟩
      refine ⟨_, rfl, rfl, _, rfl, eqF (by decide) ?_⟩
      refine ⟨_, rfl, rfl, _, rfl, eqF (by decide) ?_⟩
      refine ⟨_, rfl, rfl, _, rfl, eqF (by decide) ?_⟩
      exact ⟨_, rfl, a, dx, _, rfl, ha, rfl, _, rfl, g, _, _, _, rfl, rfl, G, atI_nat (j := 0) rfl, a, c, b, S, M, rfl, hS, q⟩
end
end TC
namespace TC
open PySem L2
def givenN (p : Int) : Option Nat := (PySq05.shape p).map (·.1)
structure Txt3 (K : PySem.W.Frag) (t : Adr) : Prop where
  given : ∀ (P : Program) (w : World) (h : Heap), K.In h → ∃ f, h.MapOf (intKind P w) t.a_given f ∧ ∀ p n, givenN p = some n → ∃ tok, f p = some (.int (n : Int) tok)
def tKd (ag : Addr) (F : Int → Option Nat) (td ty : TE) : TE := fun σ H Q => td σ H fun x H1 => ty σ H1 fun y H2 => ∃ p n, x = .ref ag ∧ y = .int p ∧ F p = some n ∧ Q (.int ((n : Nat) : Int)) H2
theorem pe_kdict {X : Cx} {o i : Expr} {td ty : TE} {pos : Pos} {ag : Addr} {F : Int → Option Nat} (hf : ∀ h : Heap, X.K.In h → ∃ f, h.MapOf (intKind X.prog X.w) ag f ∧ ∀ p n, F p = some n → ∃ tok, f p = some (.int (n : Int) tok)) (ho : PE X o td) (hi : PE X i ty) (hs : NoSl i) :
    PE X (.Subscript o i pos) (tKd ag F td ty) := by
  intro pins s σ H Q I h
  refine subD_of PySem.F.slot_dict_getitem.lookup hs (thn (ho pins s σ H _ I h) fun u s1 ⟨x, H1, I1, rx, q1⟩ => thn (hi pins s1 σ H1 _ I1 q1) fun iv s2 ⟨y, H2, I2, ry, p, n, ex, ey, hF, q2⟩ => ?_)
  subst ex ey
  obtain rfl : u = Value.ref ag := rx
  obtain ⟨tk, rfl⟩ := (show ∃ tk, iv = Value.int p tk from ry)
  obtain ⟨f, M, hfn⟩ := hf s2.heap fun b o e => I2.bk b o (I2.mod.kin b o e)
  obtain ⟨tok, hv⟩ := hfn p n hF
  exact ⟨M.typeIs, wpAny_getItem_of (knd := intKind X.prog X.w) (k := p) (by simp [intKind, Value.isInt]) M hv ⟨.int n, H2, I2.tok _, ⟨tok, rfl⟩, q2⟩⟩
theorem cut_eq {xs : List V} {i n : Nat} (h : i + 1 + n ≤ xs.length) : cutV xs (some ((i : Int) + 1)) (some ((i : Int) + 1 + (n : Int))) = (xs.drop (i + 1)).take n := by
  have e1 : (i : Int) + 1 = ((i + 1 : Nat) : Int) := by omega
  have e2 : ((i + 1 : Nat) : Int) + (n : Int) = ((i + 1 + n : Nat) : Int) := by omega
  unfold cutV
  rw [e1, e2, HT.sIx_nat, HT.sIx_nat, Nat.min_eq_left (by omega), Nat.min_eq_left (by omega)]
  congr 1
  omega
theorem StAt.frame {K : PySem.W.Frag} {t : Adr} {H H' : Hp} {M N : Addr → Prop} {a : Addr} {S : Sq05.State} {b : Nat} (s : StAt K t H M a S b) (kp : Keeps N H H') (h : ∀ c, M c → ¬ N c) : StAt K t H' M a S b := by
  obtain ⟨wl, kl, d, tp, wf, kf, C, h1, h2⟩ := s
  exact ⟨wl, kl, d, tp, wf, kf, C, h1.frame kp h, h2⟩
def atA (y : Nat) (σ : L2.St) : Nat := match (σ[3]? : Option (Option V)) with
  | some (some (V.int a)) => ((y : Int) - a).toNat
  | _ => 0
section
variable {P : Program} {w : World} {K : PySem.W.Frag} {mg : Str → Option Value} {base : Heap} {t : Adr}
def sp_fAns (K : PySem.W.Frag) : Sp := fun vs H Q _ => ∃ (ca : Addr) (ns : List Int), vs = [.ref ca] ∧ SqL K H ca (ns.map V.int) ∧ PySq05.answers_asked ns = true ∧ ∀ (p : Addr) (H' : Hp), H' p = some (.lst ((PySq05.answers ns).map V.int)) → Q (.ref p) H'
theorem sc_fAns : FnScope ["calls", "station", "answered", "at", "end", "answer"] ["calls"] (defScope st_fAns) := ⟨rfl, rfl, rfl, by decide +kernel, rfl, by decide +kernel, by decide +kernel⟩
theorem ok_fAns (T : Txt K mg t) (T2 : Txt2 K t) (T3 : Txt3 K t) : FnOk P w K mg base CX0 8 t.f_fAns t.d_fAns ["calls"] (sp_fAns K) := by
  refine T.F_fAns.ok sc_fAns (fun vs H Q E h => ?_) (fun cdv A outer s H vs Q E hr h => ?_)
  · obtain ⟨ca, ns, rfl, _⟩ := h
    rfl
  · obtain ⟨ca, ns, rfl, hca, hask, q⟩ := h
    have hr4 : Room 4 _ := hr.mono (by decide)
    refine ⟨_, pss_cons (ps_set (i := 1) sc_fAns.nd rfl (Or.inl rfl) (pe_make0 T.mkT (ok_tIni T T2) hr4 rfl T.mgT T.b_tIni .nil pass0))
      (pss_cons (ps_set (i := 2) sc_fAns.nd rfl (Or.inl rfl) (pe_lst pa_nil))
      (pss_cons (ps_set (i := 3) sc_fAns.nd rfl (Or.inl rfl) pe_int)
      (pss_cons (ps_while PassesOwn.never (pt_cmpR op_lt (pv 3) (pe_callB call_len_seq rfl T.b_len PySem.boot_len (pa_cons (pv 0) pa_nil)) (nomark _))
        (pss_cons (ps_set (i := 4) sc_fAns.nd rfl (Or.inl rfl) (pe_op op_add (pe_op op_add (pv 3) pe_int) (pe_kdict (ag := t.a_given) (F := givenN) (fun h hk => T3.given _ _ h hk) (pe_glob (v := .ref t.a_given) rfl T.g_given rfl) (pe_ix ix_list (pv 0) (pv 3) (fun _ _ => rfl)) (fun _ _ => rfl))))
        (pss_cons (ps_set (i := 5) sc_fAns.nd rfl (Or.inl rfl) (pe_call (ok_fAof T) hr rfl T.g_fAof T.F_fAof.kp T.b_fAof .nil pass0 (pa_cons (pv 1) (pa_cons (pe_ix ix_list (pv 0) (pv 3) (fun _ _ => rfl)) (pa_cons (pe_slice sl_list (pv 0) (po_some (pe_op op_add (pv 3) pe_int)) (po_some (pv 4))) pa_nil)))))
        (pss_cons (ps_expr (pe_bm PySem.F.plainAttrs_list PySem.F.slot_list_append PySem.F.type_list_append mt_append (pv 2) (pa_cons (pe_callB call_len_seq rfl T.b_len PySem.boot_len (pa_cons (pv 5) pa_nil)) pa_nil)))
        (pss_cons (ps_expr (pe_bm PySem.F.plainAttrs_list PySem.F.slot_list_extend PySem.F.type_list_extend mt_extend (pv 2) (pa_cons (pv 5) pa_nil)))
        (pss_one (ps_set (i := 3) sc_fAns.nd rfl (Or.inl rfl) (pv 4))))))))
      (pss_one (ps_ret (pv 2)))))), ?_⟩
    obtain ⟨cs0, hcs0, hmany, hall, houts, hans⟩ := asked_open hask
    have hfin : (PySq05.answers ns).length ≤ 1002000 := by
      rw [hans, told_length]
      omega
    have hbig : 1002000 < sizeLine := by decide
    intro x dx nx ndx nex
    have ex0 : Ext H (upd (upd H dx (.own x)) x (.ins t.cT dx [])) := Ext.trans (Keeps.new ndx) (Keeps.new (by rw [upd_ne nex.symm]; exact nx))
    have hpp : (upd (upd H dx (.own x)) x (.ins t.cT dx [])) x = some (.ins t.cT dx []) := upd_same
    generalize upd (upd H dx (.own x)) x (.ins t.cT dx []) = H0 at ex0 hpp
    refine ⟨x, dx, rfl, hpp, fun H1 M1 hSt kp1 sub1 => ⟨rfl, ?_⟩⟩
    have ex1 : Ext H H1 := ⟨fun u o h _ => kp1.kp _ _ (ex0.same h) (ne_of_none h nx), fun u h => ex0.dom _ (kp1.dom _ h)⟩
    have hM1 : ∀ u, M1 u → H u = none := fun u hu => by
      rcases sub1 u hu with h | h
      · rw [h]; exact nx
      · exact ex0.dom _ h
    refine ⟨(by show 0 ≤ sizeLine; decide), fun pa npa => ?_⟩
    have npa0 : H pa = none := ex1.dom _ npa
    refine while_by (fun σ H' => ∃ (i f b : Nat) (cs : List (List (List Int))) (S : Sq05.State) (M : Addr → Prop) (out : List Int) (v4 v5 : Option V), σ = [some (.ref ca), some (.ref x), some (.ref pa), some (.int i), v4, v5] ∧ i ≤ ns.length ∧ PyFlat.calls PySq05.shape f (ns.drop i) = some cs ∧ (∀ c ∈ cs, Sq05Neutral.asked1 c = true) ∧ b + cs.length ≤ 2000 ∧
        StAt K t H' M x S b ∧ H' pa = some (.lst (out.map V.int)) ∧ ¬ M pa ∧ Ext H H' ∧ (∀ u, M u → H u = none) ∧ out ++ PyFlat.told (PyFlat.played Sq05Neutral.step S cs) = PySq05.answers ns) (fun σ _ => atA ns.length σ)
      ⟨0, ns.length, 0, cs0, Sq05Neutral.start, M1, [], none, none, rfl, Nat.zero_le _, hcs0, hall, by omega, hSt.ext (Keeps.new npa) (Nat.le_refl _), upd_same, hSt.dom npa, Ext.trans ex1 (Keeps.new npa), hM1, hans.symm⟩ ?_ ?_
    · rintro σ H2 ⟨i, f, b, cs, S, M, out, v4, v5, rfl, hi, hcs, hcall, hb, hS, hpa, nMpa, ex2, hM, hout⟩
      have hca2 : SqL K H2 ca (ns.map V.int) := sqL_ext hca fun c o e _ => ex2.same e
      refine ⟨_, rfl, _, rfl, ca, _, rfl, .inl hca2, _, _, rfl, rfl, _, rfl, ite2 (fun hc => ?_) fun hc => ?_⟩
      · have hlt : i < ns.length := by
          have := of_decide_eq_true hc
          rw [List.length_map] at this
          omega
        obtain ⟨p, r, hpr⟩ : ∃ p r, ns.drop i = p :: r := ⟨ns[i], ns.drop (i + 1), List.drop_eq_getElem_cons hlt⟩
        have hget : ns[i]? = some p := by
          have := List.getElem?_drop (xs := ns) (i := i) (j := 0)
          rw [hpr] at this
          exact this.symm
        have hr1 : ns.drop (i + 1) = r := by
          rw [← List.drop_drop, hpr]
          rfl
        rw [hpr] at hcs
        obtain ⟨f', n, cs', hsh, hn, hcs', rfl⟩ := calls_step hcs
        obtain ⟨cl, hcl, hof⟩ := call_is (p := p) (args := r.take n) (hcall [p :: r.take n] (by simp))
        have hst := step_is (S := S) hof
        have hat : atI (ns.map V.int) (i : Int) = some (V.int p) := atI_nat (by rw [List.getElem?_map, hget]; rfl)
        have hgiv : givenN p = some n := by
          unfold givenN
          rw [hsh]
          rfl
        have hlen1 : i + 1 + n ≤ ns.length := by
          have : r.length = ns.length - (i + 1) := by rw [← hr1, List.length_drop]
          omega
        refine ⟨_, rfl, _, _, rfl, rfl, _, rfl, _, rfl, ca, _, _, _, rfl, rfl, hca2, hat, p, n, rfl, rfl, hgiv, _, _, rfl, rfl, ?_⟩
        refine ⟨_, rfl, _, rfl, _, rfl, ca, _, _, _, rfl, rfl, hca2, hat, _, rfl, _, rfl, _, _, rfl, rfl, _, rfl, _, rfl, _, rfl, ca, _, rfl, hca2, fun g ng => ?_⟩
        have ecut : cutV (ns.map V.int) (some ((i : Int) + 1)) (some ((i : Int) + 1 + (n : Int))) = (r.take n).map V.int := by
          rw [cut_eq (by rw [List.length_map]; exact hlen1), ← List.map_drop, hr1, List.map_take]
        have e3 : Ext H2 (upd H2 g (.lst (cutV (ns.map V.int) (some ((i : Int) + 1)) (some ((i : Int) + 1 + (n : Int)))))) := Keeps.new ng
        have hg3 : (upd H2 g (.lst (cutV (ns.map V.int) (some ((i : Int) + 1)) (some ((i : Int) + 1 + (n : Int)))))) g = some (.lst ((r.take n).map V.int)) := by rw [upd_same, ecut]
        generalize upd H2 g (.lst (cutV (ns.map V.int) (some ((i : Int) + 1)) (some ((i : Int) + 1 + (n : Int))))) = H3 at e3 hg3
        refine ⟨x, g, p, r.take n, cl, b, S, M, rfl, hg3, hcl, by simp only [List.length_cons] at hb; omega, hS.ext e3 (Nat.le_refl b), ?_⟩
        intro pq H4 M4 h1 h2 h3 h4 h5 h6
        have hpa4 : H4 pa = some (.lst (out.map V.int)) := h3.kp _ _ (e3.same hpa) nMpa
        have hpp : pq ≠ pa := (ne_of_none (e3.same hpa) h6).symm
        rw [show PyFlat.played Sq05Neutral.step S ([p :: r.take n] :: cs') = (Sq05Neutral.step S [p :: r.take n]).2 :: PyFlat.played Sq05Neutral.step (Sq05Neutral.step S [p :: r.take n]).1 cs' from rfl, hst, told_cons] at hout
        simp only at hout
        generalize eA : ((Sq05.step S cl).2.value :: (Sq05.step S cl).2.out) = ans at hout h1
        have hsz : out.length + (1 + ans.length) ≤ 1002000 := by
          have := congrArg List.length hout
          simp only [List.length_append, List.length_cons] at this
          omega
        have eL : ((ans.map V.int).length : Int) = (ans.length : Int) := by rw [List.length_map]
        refine ⟨_, rfl, .inl ⟨rfl, _, SqL.of hpa4⟩, _, rfl, pq, _, rfl, .inl (.inl (.inl h1)), pa, _, _, rfl, rfl, hpa4, (by rw [List.length_map]; omega), ?_⟩
        refine ⟨_, rfl, .inl ⟨rfl, _, SqL.of upd_same⟩, _, rfl, pa, pq, _, _, rfl, rfl, upd_same, (by rw [upd_ne hpp]; exact h1), (by rw [List.length_append, List.length_map, List.length_map, List.length_singleton]; omega), ?_⟩
        refine ⟨_, rfl, ?_⟩
        rw [upd_upd, eL]
        have e5 : out.map V.int ++ [V.int (ans.length : Int)] ++ ans.map V.int = (out ++ ((ans.length : Int) :: ans)).map V.int := by
          rw [List.map_append, List.append_assoc]
          rfl
        rw [e5]
        have nM4 : ¬ M4 pa := fun h => by
          rcases h4 pa h with h | h | h
          · exact nMpa h
          · rw [e3.same hpa] at h; cases h
          · exact h
        have kpa : Keeps (fun c => c = pa) H4 (upd H4 pa (.lst ((out ++ ((ans.length : Int) :: ans)).map V.int))) := Keeps.own (M := fun c => c = pa) rfl
        refine ⟨⟨i + 1 + n, f', b + 1, cs', (Sq05.step S cl).1, M4, out ++ ((ans.length : Int) :: ans), some (V.int ((i : Int) + 1 + (n : Int))), some (V.ref pq), ?_, hlen1, ?_, fun c hc => hcall c (by simp [hc]), ?_, h2.frame kpa fun c hc e => nM4 (e ▸ hc), upd_same, nM4, ⟨fun u o e _ => ?_, fun u e => ?_⟩, fun u hu => ?_, ?_⟩, ?_⟩
        · have ei : (i : Int) + 1 + (n : Int) = ((i + 1 + n : Nat) : Int) := by omega
          rw [← ei]
          rfl
        · rw [← List.drop_drop, hr1]
          exact hcs'
        · simp only [List.length_cons] at hb
          omega
        · have hne : u ≠ pa := ne_of_none e npa0
          rw [upd_ne hne]
          refine h3.kp _ _ (e3.same (ex2.same e)) fun hm => ?_
          rw [hM u hm] at e
          cases e
        · exact ex2.dom _ (e3.dom _ (h3.dom _ (kpa.dom _ e)))
        · rcases h4 u hu with h | h | h
          · exact hM u h
          · exact ex2.dom _ (e3.dom _ h)
          · exact h.elim
        · rw [← hout, List.append_assoc]
        · show ((ns.length : Int) - ((i : Int) + 1 + (n : Int))).toNat < ((ns.length : Int) - (i : Int)).toNat
          omega
      · have hge : i = ns.length := by
          have h0 : ¬ ((i : Int) < ((ns.map V.int).length : Int)) := fun e => hc (decide_eq_true e)
          rw [List.length_map] at h0
          omega
        rw [hge, List.drop_length] at hcs
        rw [calls_nil hcs] at hout
        have ho : out = PySq05.answers ns := by
          rw [← hout]
          show out = out ++ []
          rw [List.append_nil]
        rw [ho] at hpa
        exact ⟨_, rfl, q pa H2 hpa⟩
    · rintro σ H1 Q1 Q2 hQ ⟨v3, h3, v0, h0, p, ys, hvs, hsq, i, j, hi, hj, k, hk, hq⟩
      exact ⟨v3, h3, v0, h0, p, ys, hvs, hsq, i, j, hi, hj, k, hk, hQ _ _ hq⟩
end
end TC
namespace TC
open PySem PySem.W
abbrev RW0 : OpenSpec := PySem.Challenge.rw_trendcells_s01_answers
theorem pre_gen {r : OpenSpec} {args : List WData} (h : r.pre args = true) : ∃ a, Codec.decAll r.args args = some a ∧ Codec.app r.args r.asked a = true := by
  unfold OpenSpec.pre at h
  cases e : Codec.decAll r.args args with
  | none => rw [e] at h; cases h
  | some a =>
    rw [e] at h
    exact ⟨a, rfl, h⟩
theorem post_gen {r : OpenSpec} {args : List WData} {d : WData} {a : Codec.denoteAll r.args} (e : Codec.decAll r.args args = some a) (hd : d = r.ret.enc (Codec.app r.args r.f a)) : r.post args d = true := by
  unfold OpenSpec.post
  rw [e]
  exact same_iff.mpr hd
theorem pre_dec {args : List WData} (h : RW0.pre args = true) : ∃ ns : List Int, Codec.decAll RW0.args args = some (ns, ()) ∧ args = [WData.list (ns.map WData.int)] ∧ ns.length ≤ 16000 ∧ (∀ n ∈ ns, Int.negSucc 9223372036854775807 ≤ n ∧ n ≤ Int.ofNat 18446744073709551615) ∧ PySq05.answers_asked ns = true := by
  obtain ⟨a, e, h'⟩ := pre_gen h
  have q := Codec.encAll_of_decAll RW0.args args a e
  obtain ⟨ns, u⟩ := a
  have hw : (Codec.inList 0 16000 (Codec.inInt (Int.negSucc 9223372036854775807) (Int.ofNat 18446744073709551615)) ns && true) = true := q.2
  rw [Bool.and_true] at hw
  unfold Codec.inList at hw
  rw [Bool.and_eq_true, List.all_eq_true] at hw
  refine ⟨ns, e, q.1, ?_, fun n hn => Codec.inInt_iff.mp (hw.2 n hn), h'⟩
  exact (Codec.inNat_iff.mp hw.1).2
theorem int_inj : ∀ a b : List Int, a.map WData.int = b.map WData.int → a = b := Codec.map_inj WData.int fun _ _ h => WData.int.inj h
theorem post_open {ns : List Int} (h : RW0.pre [WData.list (ns.map WData.int)] = true) : RW0.post [WData.list (ns.map WData.int)] (.list ((PySq05.answers ns).map .int)) = true := by
  obtain ⟨ns', e, e2, _⟩ := pre_dec h
  have e3 : ns = ns' := int_inj _ _ (WData.list.inj (List.cons.inj e2).1)
  subst e3
  exact post_gen e rfl
end TC
namespace TC
open PySem L2
theorem given_mk {K : PySem.W.Frag} {ag : Addr} {ep : Nat} {g1 g2 g3 g4 g5 g6 v1 v2 v3 v4 v5 v6 : Tok} {h1 h2 h3 h4 h5 h6 : Int}
    (l : K.lookup ag = some ⟨.type "dict", none, .dict #[⟨h1, .int 1 g1, .int 8 v1⟩, ⟨h2, .int 2 g2, .int 4 v2⟩, ⟨h3, .int 3 g3, .int 3 v3⟩, ⟨h4, .int 4 g4, .int 4 v4⟩, ⟨h5, .int 5 g5, .int 1 v5⟩, ⟨h6, .int 6 g6, .int 1 v6⟩] ep, #[]⟩)
    (hh : h1 = hashInt 1 ∧ h2 = hashInt 2 ∧ h3 = hashInt 3 ∧ h4 = hashInt 4 ∧ h5 = hashInt 5 ∧ h6 = hashInt 6) :
    ∀ (P : Program) (w : World) (h : Heap), K.In h → ∃ f, h.MapOf (intKind P w) ag f ∧ ∀ p n, givenN p = some n → ∃ tok, f p = some (.int (n : Int) tok) := by
  intro P w h KX
  refine ⟨fun k => findBy (intKind P w).is #[⟨h1, .int 1 g1, .int 8 v1⟩, ⟨h2, .int 2 g2, .int 4 v2⟩, ⟨h3, .int 3 g3, .int 3 v3⟩, ⟨h4, .int 4 g4, .int 4 v4⟩, ⟨h5, .int 5 g5, .int 1 v5⟩, ⟨h6, .int 6 g6, .int 1 v6⟩] k, ⟨_, _, ep, KX _ _ l, ⟨rfl, rfl, rfl⟩, rfl, fun e he => ?_, fun k => rfl⟩, fun p n hp => ?_⟩
  · obtain ⟨e1, e2, e3, e4, e5, e6⟩ := hh
    have he' : e ∈ [(⟨h1, .int 1 g1, .int 8 v1⟩ : DictEntry), ⟨h2, .int 2 g2, .int 4 v2⟩, ⟨h3, .int 3 g3, .int 3 v3⟩, ⟨h4, .int 4 g4, .int 4 v4⟩, ⟨h5, .int 5 g5, .int 1 v5⟩, ⟨h6, .int 6 g6, .int 1 v6⟩] := by simpa using he
    simp only [List.mem_cons, List.not_mem_nil, or_false] at he'
    rcases he' with rfl | rfl | rfl | rfl | rfl | rfl
    · exact ⟨1, rfl, e1⟩
    · exact ⟨2, rfl, e2⟩
    · exact ⟨3, rfl, e3⟩
    · exact ⟨4, rfl, e4⟩
    · exact ⟨5, rfl, e5⟩
    · exact ⟨6, rfl, e6⟩
  · have hs : ∃ k, PySq05.shape p = some (n, k) := by
      unfold givenN at hp
      cases e : PySq05.shape p with
      | none => rw [e] at hp; cases hp
      | some q =>
        obtain ⟨m, k⟩ := q
        rw [e] at hp
        cases hp
        exact ⟨k, rfl⟩
    obtain ⟨k, hs⟩ := hs
    obtain ⟨_, hc⟩ := shape_eq hs
    rcases hc with ⟨rfl, rfl⟩ | ⟨rfl, rfl⟩ | ⟨rfl, rfl⟩ | ⟨rfl, rfl⟩ | ⟨rfl, rfl⟩ | ⟨rfl, rfl⟩
    · exact ⟨v1, rfl⟩
    · exact ⟨v2, rfl⟩
    · exact ⟨v3, rfl⟩
    · exact ⟨v4, rfl⟩
    · exact ⟨v5, rfl⟩
    · exact ⟨v6, rfl⟩
set_option maxHeartbeats 8000000 in
theorem all_mk {P : Program} {w : World} {K : PySem.W.Frag} {h : Heap} {mg : Str → Option Value} {fa : Addr} (X : K.In h) (G : h.Ns mainGlobals mg) (hfa : mg "answers" = some (.ref fa))
    {cS cL cR cC cT : Addr}
    {f_sIni f_sWv f_sTi f_sTv f_sMean f_sTold f_fOne f_fNear f_lIni f_lAdd f_lDrop f_lBeg f_lKeep f_lEnd f_lFrom f_lNum f_rIni f_rBeg f_rEnd f_rSto f_fCov f_fWid f_fNar f_cIni f_cAdd f_cRuns f_cTold f_fTr f_fTc f_fAns f_fAof f_tIni f_tSet f_tBeg f_tAdd f_tAsk f_tCells f_tKnown f_tForg f_fWfr f_fCbg f_fKr f_fCad f_fCask f_fIch f_fIlv f_fItm f_fIvl : Addr}
    {d_sIni d_sWv d_sTi d_sTv d_sMean d_sTold d_fOne d_fNear d_lIni d_lAdd d_lDrop d_lBeg d_lKeep d_lEnd d_lFrom d_lNum d_rIni d_rBeg d_rEnd d_rSto d_fCov d_fWid d_fNar d_cIni d_cAdd d_cRuns d_cTold d_fTr d_fTc d_fAns d_fAof d_tIni d_tSet d_tBeg d_tAdd d_tAsk d_tCells d_tKnown d_tForg d_fWfr d_fCbg d_fKr d_fCad d_fCask d_fIch d_fIlv d_fItm d_fIvl : FuncData}
    {a_times a_kept a_given : Addr}
    {k_NO_VALUE k_GREATEST k_BEGIN k_ADD k_ASK k_CELLS k_KNOWN k_NOT_IN_RANGE k_NOTHING_KNOWN k_BEFORE_THE_LAST k_FIRST_WIDTH k_WIDEST_WIDTH : Tok}
    {odT odK : Option Addr} {slT slK : Array (Option Value)} {nT nK ep : Nat} {t1 t2 t3 u1 u2 u3 u4 g1 g2 g3 g4 g5 g6 v1 v2 v3 v4 v5 v6 : Tok} {h1 h2 h3 h4 h5 h6 : Int}
    (acS : PySem.W.nsIn K mainGlobals "Summary" = some (some (.ref cS)))
    (pgS : PySem.W.plainGet K cS Str.empty = true)
    (hdS : PySem.W.hasDictIn K cS = true)
    (poS : PySem.W.plainOver K cS = true)
    (saS : PySem.W.findIn K (.ref cS) "__setattr__" = some (some (.builtin "object.__setattr__")))
    (mkS : PySem.W.makesIn K cS = true)
    (kcS : PySem.W.keepIn K (.ref cS) = true)
    (nS_many : PySem.W.findIn K (.ref cS) "many" = some none)
    (nS_nones : PySem.W.findIn K (.ref cS) "nones" = some none)
    (nS_least : PySem.W.findIn K (.ref cS) "least" = some none)
    (nS_greatest : PySem.W.findIn K (.ref cS) "greatest" = some none)
    (nS_total : PySem.W.findIn K (.ref cS) "total" = some none)
    (nS_first_time : PySem.W.findIn K (.ref cS) "first_time" = some none)
    (nS_first_value : PySem.W.findIn K (.ref cS) "first_value" = some none)
    (nS_last_time : PySem.W.findIn K (.ref cS) "last_time" = some none)
    (nS_last_value : PySem.W.findIn K (.ref cS) "last_value" = some none)
    (nS_marks : PySem.W.findIn K (.ref cS) "marks" = some none)
    (acL : PySem.W.nsIn K mainGlobals "Level" = some (some (.ref cL)))
    (pgL : PySem.W.plainGet K cL Str.empty = true)
    (hdL : PySem.W.hasDictIn K cL = true)
    (poL : PySem.W.plainOver K cL = true)
    (saL : PySem.W.findIn K (.ref cL) "__setattr__" = some (some (.builtin "object.__setattr__")))
    (mkL : PySem.W.makesIn K cL = true)
    (kcL : PySem.W.keepIn K (.ref cL) = true)
    (nL_width : PySem.W.findIn K (.ref cL) "width" = some none)
    (nL_kept : PySem.W.findIn K (.ref cL) "kept" = some none)
    (nL_oldest : PySem.W.findIn K (.ref cL) "oldest" = some none)
    (nL_summaries : PySem.W.findIn K (.ref cL) "summaries" = some none)
    (acR : PySem.W.nsIn K mainGlobals "Run" = some (some (.ref cR)))
    (pgR : PySem.W.plainGet K cR Str.empty = true)
    (hdR : PySem.W.hasDictIn K cR = true)
    (poR : PySem.W.plainOver K cR = true)
    (saR : PySem.W.findIn K (.ref cR) "__setattr__" = some (some (.builtin "object.__setattr__")))
    (mkR : PySem.W.makesIn K cR = true)
    (kcR : PySem.W.keepIn K (.ref cR) = true)
    (nR_level : PySem.W.findIn K (.ref cR) "level" = some none)
    (nR_number : PySem.W.findIn K (.ref cR) "number" = some none)
    (nR_many : PySem.W.findIn K (.ref cR) "many" = some none)
    (acC : PySem.W.nsIn K mainGlobals "Channel" = some (some (.ref cC)))
    (pgC : PySem.W.plainGet K cC Str.empty = true)
    (hdC : PySem.W.hasDictIn K cC = true)
    (poC : PySem.W.plainOver K cC = true)
    (saC : PySem.W.findIn K (.ref cC) "__setattr__" = some (some (.builtin "object.__setattr__")))
    (mkC : PySem.W.makesIn K cC = true)
    (kcC : PySem.W.keepIn K (.ref cC) = true)
    (nC_last : PySem.W.findIn K (.ref cC) "last" = some none)
    (nC_levels : PySem.W.findIn K (.ref cC) "levels" = some none)
    (acT : PySem.W.nsIn K mainGlobals "Station" = some (some (.ref cT)))
    (pgT : PySem.W.plainGet K cT Str.empty = true)
    (hdT : PySem.W.hasDictIn K cT = true)
    (poT : PySem.W.plainOver K cT = true)
    (saT : PySem.W.findIn K (.ref cT) "__setattr__" = some (some (.builtin "object.__setattr__")))
    (mkT : PySem.W.makesIn K cT = true)
    (kcT : PySem.W.keepIn K (.ref cT) = true)
    (nT_widths : PySem.W.findIn K (.ref cT) "widths" = some none)
    (nT_kept : PySem.W.findIn K (.ref cT) "kept" = some none)
    (nT_channels : PySem.W.findIn K (.ref cT) "channels" = some none)
    (a_sIni : PySem.W.findIn K (.ref cS) "__init__" = some (some (.ref f_sIni)))
    (i_sIni : PySem.W.isFn K (.ref f_sIni) = true)
    (F_sIni : Fun K "__init__" "Summary.__init__" st_sIni f_sIni d_sIni)
    (a_sWv : PySem.W.findIn K (.ref cS) "with_value" = some (some (.ref f_sWv)))
    (i_sWv : PySem.W.isFn K (.ref f_sWv) = true)
    (F_sWv : Fun K "with_value" "Summary.with_value" st_sWv f_sWv d_sWv)
    (a_sTi : PySem.W.findIn K (.ref cS) "take_in" = some (some (.ref f_sTi)))
    (i_sTi : PySem.W.isFn K (.ref f_sTi) = true)
    (F_sTi : Fun K "take_in" "Summary.take_in" st_sTi f_sTi d_sTi)
    (a_sTv : PySem.W.findIn K (.ref cS) "take_in_values" = some (some (.ref f_sTv)))
    (i_sTv : PySem.W.isFn K (.ref f_sTv) = true)
    (F_sTv : Fun K "take_in_values" "Summary.take_in_values" st_sTv f_sTv d_sTv)
    (a_sMean : PySem.W.findIn K (.ref cS) "mean" = some (some (.ref f_sMean)))
    (i_sMean : PySem.W.isFn K (.ref f_sMean) = true)
    (F_sMean : Fun K "mean" "Summary.mean" st_sMean f_sMean d_sMean)
    (a_sTold : PySem.W.findIn K (.ref cS) "told" = some (some (.ref f_sTold)))
    (i_sTold : PySem.W.isFn K (.ref f_sTold) = true)
    (F_sTold : Fun K "told" "Summary.told" st_sTold f_sTold d_sTold)
    (a_fOne : PySem.W.nsIn K mainGlobals "summary_of_one" = some (some (.ref f_fOne)))
    (F_fOne : Fun K "summary_of_one" "summary_of_one" st_fOne f_fOne d_fOne)
    (a_fNear : PySem.W.nsIn K mainGlobals "nearest" = some (some (.ref f_fNear)))
    (F_fNear : Fun K "nearest" "nearest" st_fNear f_fNear d_fNear)
    (a_lIni : PySem.W.findIn K (.ref cL) "__init__" = some (some (.ref f_lIni)))
    (i_lIni : PySem.W.isFn K (.ref f_lIni) = true)
    (F_lIni : Fun K "__init__" "Level.__init__" st_lIni f_lIni d_lIni)
    (a_lAdd : PySem.W.findIn K (.ref cL) "add" = some (some (.ref f_lAdd)))
    (i_lAdd : PySem.W.isFn K (.ref f_lAdd) = true)
    (F_lAdd : Fun K "add" "Level.add" st_lAdd f_lAdd d_lAdd)
    (a_lDrop : PySem.W.findIn K (.ref cL) "drop_before" = some (some (.ref f_lDrop)))
    (i_lDrop : PySem.W.isFn K (.ref f_lDrop) = true)
    (F_lDrop : Fun K "drop_before" "Level.drop_before" st_lDrop f_lDrop d_lDrop)
    (a_lBeg : PySem.W.findIn K (.ref cL) "beginning" = some (some (.ref f_lBeg)))
    (i_lBeg : PySem.W.isFn K (.ref f_lBeg) = true)
    (F_lBeg : Fun K "beginning" "Level.beginning" st_lBeg f_lBeg d_lBeg)
    (a_lKeep : PySem.W.findIn K (.ref cL) "keeps" = some (some (.ref f_lKeep)))
    (i_lKeep : PySem.W.isFn K (.ref f_lKeep) = true)
    (F_lKeep : Fun K "keeps" "Level.keeps" st_lKeep f_lKeep d_lKeep)
    (a_lEnd : PySem.W.findIn K (.ref cL) "end_of" = some (some (.ref f_lEnd)))
    (i_lEnd : PySem.W.isFn K (.ref f_lEnd) = true)
    (F_lEnd : Fun K "end_of" "Level.end_of" st_lEnd f_lEnd d_lEnd)
    (a_lFrom : PySem.W.findIn K (.ref cL) "summaries_from" = some (some (.ref f_lFrom)))
    (i_lFrom : PySem.W.isFn K (.ref f_lFrom) = true)
    (F_lFrom : Fun K "summaries_from" "Level.summaries_from" st_lFrom f_lFrom d_lFrom)
    (a_lNum : PySem.W.findIn K (.ref cL) "numbers_from" = some (some (.ref f_lNum)))
    (i_lNum : PySem.W.isFn K (.ref f_lNum) = true)
    (F_lNum : Fun K "numbers_from" "Level.numbers_from" st_lNum f_lNum d_lNum)
    (a_rIni : PySem.W.findIn K (.ref cR) "__init__" = some (some (.ref f_rIni)))
    (i_rIni : PySem.W.isFn K (.ref f_rIni) = true)
    (F_rIni : Fun K "__init__" "Run.__init__" st_rIni f_rIni d_rIni)
    (a_rBeg : PySem.W.findIn K (.ref cR) "begins" = some (some (.ref f_rBeg)))
    (i_rBeg : PySem.W.isFn K (.ref f_rBeg) = true)
    (F_rBeg : Fun K "begins" "Run.begins" st_rBeg f_rBeg d_rBeg)
    (a_rEnd : PySem.W.findIn K (.ref cR) "ends" = some (some (.ref f_rEnd)))
    (i_rEnd : PySem.W.isFn K (.ref f_rEnd) = true)
    (F_rEnd : Fun K "ends" "Run.ends" st_rEnd f_rEnd d_rEnd)
    (a_rSto : PySem.W.findIn K (.ref cR) "stored" = some (some (.ref f_rSto)))
    (i_rSto : PySem.W.isFn K (.ref f_rSto) = true)
    (F_rSto : Fun K "stored" "Run.stored" st_rSto f_rSto d_rSto)
    (a_fCov : PySem.W.nsIn K mainGlobals "cover" = some (some (.ref f_fCov)))
    (F_fCov : Fun K "cover" "cover" st_fCov f_fCov d_fCov)
    (a_fWid : PySem.W.nsIn K mainGlobals "widest_run" = some (some (.ref f_fWid)))
    (F_fWid : Fun K "widest_run" "widest_run" st_fWid f_fWid d_fWid)
    (a_fNar : PySem.W.nsIn K mainGlobals "narrowest_run" = some (some (.ref f_fNar)))
    (F_fNar : Fun K "narrowest_run" "narrowest_run" st_fNar f_fNar d_fNar)
    (a_cIni : PySem.W.findIn K (.ref cC) "__init__" = some (some (.ref f_cIni)))
    (i_cIni : PySem.W.isFn K (.ref f_cIni) = true)
    (F_cIni : Fun K "__init__" "Channel.__init__" st_cIni f_cIni d_cIni)
    (a_cAdd : PySem.W.findIn K (.ref cC) "add" = some (some (.ref f_cAdd)))
    (i_cAdd : PySem.W.isFn K (.ref f_cAdd) = true)
    (F_cAdd : Fun K "add" "Channel.add" st_cAdd f_cAdd d_cAdd)
    (a_cRuns : PySem.W.findIn K (.ref cC) "runs_of" = some (some (.ref f_cRuns)))
    (i_cRuns : PySem.W.isFn K (.ref f_cRuns) = true)
    (F_cRuns : Fun K "runs_of" "Channel.runs_of" st_cRuns f_cRuns d_cRuns)
    (a_cTold : PySem.W.findIn K (.ref cC) "told_levels" = some (some (.ref f_cTold)))
    (i_cTold : PySem.W.isFn K (.ref f_cTold) = true)
    (F_cTold : Fun K "told_levels" "Channel.told_levels" st_cTold f_cTold d_cTold)
    (a_fTr : PySem.W.nsIn K mainGlobals "told_runs" = some (some (.ref f_fTr)))
    (F_fTr : Fun K "told_runs" "told_runs" st_fTr f_fTr d_fTr)
    (a_fTc : PySem.W.nsIn K mainGlobals "told_cells" = some (some (.ref f_fTc)))
    (F_fTc : Fun K "told_cells" "told_cells" st_fTc f_fTc d_fTc)
    (a_fAns : PySem.W.nsIn K mainGlobals "answers" = some (some (.ref f_fAns)))
    (F_fAns : Fun K "answers" "answers" st_fAns f_fAns d_fAns)
    (a_fAof : PySem.W.nsIn K mainGlobals "answer_of" = some (some (.ref f_fAof)))
    (F_fAof : Fun K "answer_of" "answer_of" st_fAof f_fAof d_fAof)
    (a_tIni : PySem.W.findIn K (.ref cT) "__init__" = some (some (.ref f_tIni)))
    (i_tIni : PySem.W.isFn K (.ref f_tIni) = true)
    (F_tIni : Fun K "__init__" "Station.__init__" st_tIni f_tIni d_tIni)
    (a_tSet : PySem.W.findIn K (.ref cT) "set_anew" = some (some (.ref f_tSet)))
    (i_tSet : PySem.W.isFn K (.ref f_tSet) = true)
    (F_tSet : Fun K "set_anew" "Station.set_anew" st_tSet f_tSet d_tSet)
    (a_tBeg : PySem.W.findIn K (.ref cT) "begin" = some (some (.ref f_tBeg)))
    (i_tBeg : PySem.W.isFn K (.ref f_tBeg) = true)
    (F_tBeg : Fun K "begin" "Station.begin" st_tBeg f_tBeg d_tBeg)
    (a_tAdd : PySem.W.findIn K (.ref cT) "add" = some (some (.ref f_tAdd)))
    (i_tAdd : PySem.W.isFn K (.ref f_tAdd) = true)
    (F_tAdd : Fun K "add" "Station.add" st_tAdd f_tAdd d_tAdd)
    (a_tAsk : PySem.W.findIn K (.ref cT) "ask" = some (some (.ref f_tAsk)))
    (i_tAsk : PySem.W.isFn K (.ref f_tAsk) = true)
    (F_tAsk : Fun K "ask" "Station.ask" st_tAsk f_tAsk d_tAsk)
    (a_tCells : PySem.W.findIn K (.ref cT) "cells" = some (some (.ref f_tCells)))
    (i_tCells : PySem.W.isFn K (.ref f_tCells) = true)
    (F_tCells : Fun K "cells" "Station.cells" st_tCells f_tCells d_tCells)
    (a_tKnown : PySem.W.findIn K (.ref cT) "known" = some (some (.ref f_tKnown)))
    (i_tKnown : PySem.W.isFn K (.ref f_tKnown) = true)
    (F_tKnown : Fun K "known" "Station.known" st_tKnown f_tKnown d_tKnown)
    (a_tForg : PySem.W.findIn K (.ref cT) "forget" = some (some (.ref f_tForg)))
    (i_tForg : PySem.W.isFn K (.ref f_tForg) = true)
    (F_tForg : Fun K "forget" "Station.forget" st_tForg f_tForg d_tForg)
    (a_fWfr : PySem.W.nsIn K mainGlobals "widths_from" = some (some (.ref f_fWfr)))
    (F_fWfr : Fun K "widths_from" "widths_from" st_fWfr f_fWfr d_fWfr)
    (a_fCbg : PySem.W.nsIn K mainGlobals "can_begin" = some (some (.ref f_fCbg)))
    (F_fCbg : Fun K "can_begin" "can_begin" st_fCbg f_fCbg d_fCbg)
    (a_fKr : PySem.W.nsIn K mainGlobals "keeps_reach" = some (some (.ref f_fKr)))
    (F_fKr : Fun K "keeps_reach" "keeps_reach" st_fKr f_fKr d_fKr)
    (a_fCad : PySem.W.nsIn K mainGlobals "can_add" = some (some (.ref f_fCad)))
    (F_fCad : Fun K "can_add" "can_add" st_fCad f_fCad d_fCad)
    (a_fCask : PySem.W.nsIn K mainGlobals "can_ask" = some (some (.ref f_fCask)))
    (F_fCask : Fun K "can_ask" "can_ask" st_fCask f_fCask d_fCask)
    (a_fIch : PySem.W.nsIn K mainGlobals "is_channel" = some (some (.ref f_fIch)))
    (F_fIch : Fun K "is_channel" "is_channel" st_fIch f_fIch d_fIch)
    (a_fIlv : PySem.W.nsIn K mainGlobals "is_level" = some (some (.ref f_fIlv)))
    (F_fIlv : Fun K "is_level" "is_level" st_fIlv f_fIlv d_fIlv)
    (a_fItm : PySem.W.nsIn K mainGlobals "is_time" = some (some (.ref f_fItm)))
    (F_fItm : Fun K "is_time" "is_time" st_fItm f_fItm d_fItm)
    (a_fIvl : PySem.W.nsIn K mainGlobals "is_value" = some (some (.ref f_fIvl)))
    (F_fIvl : Fun K "is_value" "is_value" st_fIvl f_fIvl d_fIvl)
    (i_NO_VALUE : PySem.W.nsIn K mainGlobals "NO_VALUE" = some (some (.int (-9223372036854775808) k_NO_VALUE)))
    (i_GREATEST : PySem.W.nsIn K mainGlobals "GREATEST" = some (some (.int (4611686018427387904) k_GREATEST)))
    (i_BEGIN : PySem.W.nsIn K mainGlobals "BEGIN" = some (some (.int (1) k_BEGIN)))
    (i_ADD : PySem.W.nsIn K mainGlobals "ADD" = some (some (.int (2) k_ADD)))
    (i_ASK : PySem.W.nsIn K mainGlobals "ASK" = some (some (.int (3) k_ASK)))
    (i_CELLS : PySem.W.nsIn K mainGlobals "CELLS" = some (some (.int (4) k_CELLS)))
    (i_KNOWN : PySem.W.nsIn K mainGlobals "KNOWN" = some (some (.int (5) k_KNOWN)))
    (i_NOT_IN_RANGE : PySem.W.nsIn K mainGlobals "NOT_IN_RANGE" = some (some (.int (-1) k_NOT_IN_RANGE)))
    (i_NOTHING_KNOWN : PySem.W.nsIn K mainGlobals "NOTHING_KNOWN" = some (some (.int (-2) k_NOTHING_KNOWN)))
    (i_BEFORE_THE_LAST : PySem.W.nsIn K mainGlobals "BEFORE_THE_LAST" = some (some (.int (-4) k_BEFORE_THE_LAST)))
    (i_FIRST_WIDTH : PySem.W.nsIn K mainGlobals "FIRST_WIDTH" = some (some (.int (60000000) k_FIRST_WIDTH)))
    (i_WIDEST_WIDTH : PySem.W.nsIn K mainGlobals "WIDEST_WIDTH" = some (some (.int (1099511627776) k_WIDEST_WIDTH)))
    (b_min : PySem.W.nsIn K mainGlobals "min" = some none)
    (b_max : PySem.W.nsIn K mainGlobals "max" = some none)
    (b_abs : PySem.W.nsIn K mainGlobals "abs" = some none)
    (b_list : PySem.W.nsIn K mainGlobals "list" = some none)
    (b_len : PySem.W.nsIn K mainGlobals "len" = some none)
    (b_range : PySem.W.nsIn K mainGlobals "range" = some none)
    (b_reversed : PySem.W.nsIn K mainGlobals "reversed" = some none)
    (b_zip : PySem.W.nsIn K mainGlobals "zip" = some none)
    (b_sum : PySem.W.nsIn K mainGlobals "sum" = some none)
    (b_all : PySem.W.nsIn K mainGlobals "all" = some none)
    (g_times : PySem.W.nsIn K mainGlobals "FIRST_TIMES" = some (some (.ref a_times)))
    (l_times : K.lookup a_times = some ⟨.type "tuple", odT, .seq #[.int 60 t1, .int 24 t2, .int 30 t3] nT, slT⟩)
    (g_kept : PySem.W.nsIn K mainGlobals "FIRST_KEPT" = some (some (.ref a_kept)))
    (l_kept : K.lookup a_kept = some ⟨.type "tuple", odK, .seq #[.int 1440 u1, .int 720 u2, .int 400 u3, .int 120 u4] nK, slK⟩)
    (g_given : PySem.W.nsIn K mainGlobals "GIVEN" = some (some (.ref a_given)))
    (l_given : K.lookup a_given = some ⟨.type "dict", none, .dict #[⟨h1, .int 1 g1, .int 8 v1⟩, ⟨h2, .int 2 g2, .int 4 v2⟩, ⟨h3, .int 3 g3, .int 3 v3⟩, ⟨h4, .int 4 g4, .int 4 v4⟩, ⟨h5, .int 5 g5, .int 1 v5⟩, ⟨h6, .int 6 g6, .int 1 v6⟩] ep, #[]⟩)
    (hh : h1 = hashInt 1 ∧ h2 = hashInt 2 ∧ h3 = hashInt 3 ∧ h4 = hashInt 4 ∧ h5 = hashInt 5 ∧ h6 = hashInt 6) :
    ∃ fd : FuncData, (∀ (s : Shared) (u : Value), BindsTo s fd ⟨[u], []⟩ [("calls", u)]) ∧ ∀ base : Heap, K.In base → base.Ns mainGlobals mg → FnOk P w K mg base CX0 8 fa fd ["calls"] (sp_fAns K) := by
  have e := hfa.symm.trans (PySem.W.mg_of X G a_fAns)
  cases e
  have T : Txt K mg ⟨cS, cL, cR, cC, cT, f_sIni, d_sIni, f_sWv, d_sWv, f_sTi, d_sTi, f_sTv, d_sTv, f_sMean, d_sMean, f_sTold, d_sTold, f_fOne, d_fOne, f_fNear, d_fNear, f_lIni, d_lIni, f_lAdd, d_lAdd, f_lDrop, d_lDrop, f_lBeg, d_lBeg, f_lKeep, d_lKeep, f_lEnd, d_lEnd, f_lFrom, d_lFrom, f_lNum, d_lNum, f_rIni, d_rIni, f_rBeg, d_rBeg, f_rEnd, d_rEnd, f_rSto, d_rSto, f_fCov, d_fCov, f_fWid, d_fWid, f_fNar, d_fNar, f_cIni, d_cIni, f_cAdd, d_cAdd, f_cRuns, d_cRuns, f_cTold, d_cTold, f_fTr, d_fTr, f_fTc, d_fTc, fa, d_fAns, f_fAof, d_fAof, f_tIni, d_tIni, f_tSet, d_tSet, f_tBeg, d_tBeg, f_tAdd, d_tAdd, f_tAsk, d_tAsk, f_tCells, d_tCells, f_tKnown, d_tKnown, f_tForg, d_tForg, f_fWfr, d_fWfr, f_fCbg, d_fCbg, f_fKr, d_fKr, f_fCad, d_fCad, f_fCask, d_fCask, f_fIch, d_fIch, f_fIlv, d_fIlv, f_fItm, d_fItm, f_fIvl, d_fIvl, a_times, a_kept, a_given⟩ := {
    clS := ⟨pgS, hdS, poS, saS⟩
    mkS := ⟨mkS, a_sIni, i_sIni, kcS⟩
    mgS := PySem.W.mg_of X G acS
    nS_many := nS_many
    nS_nones := nS_nones
    nS_least := nS_least
    nS_greatest := nS_greatest
    nS_total := nS_total
    nS_first_time := nS_first_time
    nS_first_value := nS_first_value
    nS_last_time := nS_last_time
    nS_last_value := nS_last_value
    nS_marks := nS_marks
    clL := ⟨pgL, hdL, poL, saL⟩
    mkL := ⟨mkL, a_lIni, i_lIni, kcL⟩
    mgL := PySem.W.mg_of X G acL
    nL_width := nL_width
    nL_kept := nL_kept
    nL_oldest := nL_oldest
    nL_summaries := nL_summaries
    clR := ⟨pgR, hdR, poR, saR⟩
    mkR := ⟨mkR, a_rIni, i_rIni, kcR⟩
    mgR := PySem.W.mg_of X G acR
    nR_level := nR_level
    nR_number := nR_number
    nR_many := nR_many
    clC := ⟨pgC, hdC, poC, saC⟩
    mkC := ⟨mkC, a_cIni, i_cIni, kcC⟩
    mgC := PySem.W.mg_of X G acC
    nC_last := nC_last
    nC_levels := nC_levels
    clT := ⟨pgT, hdT, poT, saT⟩
    mkT := ⟨mkT, a_tIni, i_tIni, kcT⟩
    mgT := PySem.W.mg_of X G acT
    nT_widths := nT_widths
    nT_kept := nT_kept
    nT_channels := nT_channels
    F_sIni := F_sIni
    b_sIni := F_sIni.binds fun _ _ _ _ _ _ us hl => match us, hl with | [_], _ => rfl
    m_sIni := ⟨a_sIni, i_sIni, F_sIni.kp⟩
    F_sWv := F_sWv
    b_sWv := F_sWv.binds fun _ _ _ _ _ _ us hl => match us, hl with | [_], _ => rfl
    m_sWv := ⟨a_sWv, i_sWv, F_sWv.kp⟩
    F_sTi := F_sTi
    b_sTi := F_sTi.binds fun _ _ _ _ _ _ us hl => match us, hl with | [_, _], _ => rfl
    m_sTi := ⟨a_sTi, i_sTi, F_sTi.kp⟩
    F_sTv := F_sTv
    b_sTv := F_sTv.binds fun _ _ _ _ _ _ us hl => match us, hl with | [_, _], _ => rfl
    m_sTv := ⟨a_sTv, i_sTv, F_sTv.kp⟩
    F_sMean := F_sMean
    b_sMean := F_sMean.binds fun _ _ _ _ _ _ us hl => match us, hl with | [_], _ => rfl
    m_sMean := ⟨a_sMean, i_sMean, F_sMean.kp⟩
    F_sTold := F_sTold
    b_sTold := F_sTold.binds fun _ _ _ _ _ _ us hl => match us, hl with | [_], _ => rfl
    m_sTold := ⟨a_sTold, i_sTold, F_sTold.kp⟩
    F_fOne := F_fOne
    b_fOne := F_fOne.binds fun _ _ _ _ _ _ us hl => match us, hl with | [_, _, _], _ => rfl
    g_fOne := PySem.W.mg_of X G a_fOne
    F_fNear := F_fNear
    b_fNear := F_fNear.binds fun _ _ _ _ _ _ us hl => match us, hl with | [_, _], _ => rfl
    g_fNear := PySem.W.mg_of X G a_fNear
    F_lIni := F_lIni
    b_lIni := F_lIni.binds fun _ _ _ _ _ _ us hl => match us, hl with | [_, _, _], _ => rfl
    m_lIni := ⟨a_lIni, i_lIni, F_lIni.kp⟩
    F_lAdd := F_lAdd
    b_lAdd := F_lAdd.binds fun _ _ _ _ _ _ us hl => match us, hl with | [_, _, _], _ => rfl
    m_lAdd := ⟨a_lAdd, i_lAdd, F_lAdd.kp⟩
    F_lDrop := F_lDrop
    b_lDrop := F_lDrop.binds fun _ _ _ _ _ _ us hl => match us, hl with | [_, _], _ => rfl
    m_lDrop := ⟨a_lDrop, i_lDrop, F_lDrop.kp⟩
    F_lBeg := F_lBeg
    b_lBeg := F_lBeg.binds fun _ _ _ _ _ _ us hl => match us, hl with | [_], _ => rfl
    m_lBeg := ⟨a_lBeg, i_lBeg, F_lBeg.kp⟩
    F_lKeep := F_lKeep
    b_lKeep := F_lKeep.binds fun _ _ _ _ _ _ us hl => match us, hl with | [_, _], _ => rfl
    m_lKeep := ⟨a_lKeep, i_lKeep, F_lKeep.kp⟩
    F_lEnd := F_lEnd
    b_lEnd := F_lEnd.binds fun _ _ _ _ _ _ us hl => match us, hl with | [_, _], _ => rfl
    m_lEnd := ⟨a_lEnd, i_lEnd, F_lEnd.kp⟩
    F_lFrom := F_lFrom
    b_lFrom := F_lFrom.binds fun _ _ _ _ _ _ us hl => match us, hl with | [_, _, _], _ => rfl
    m_lFrom := ⟨a_lFrom, i_lFrom, F_lFrom.kp⟩
    F_lNum := F_lNum
    b_lNum := F_lNum.binds fun _ _ _ _ _ _ us hl => match us, hl with | [_, _, _], _ => rfl
    m_lNum := ⟨a_lNum, i_lNum, F_lNum.kp⟩
    F_rIni := F_rIni
    b_rIni := F_rIni.binds fun _ _ _ _ _ _ us hl => match us, hl with | [_, _, _, _], _ => rfl
    m_rIni := ⟨a_rIni, i_rIni, F_rIni.kp⟩
    F_rBeg := F_rBeg
    b_rBeg := F_rBeg.binds fun _ _ _ _ _ _ us hl => match us, hl with | [_], _ => rfl
    m_rBeg := ⟨a_rBeg, i_rBeg, F_rBeg.kp⟩
    F_rEnd := F_rEnd
    b_rEnd := F_rEnd.binds fun _ _ _ _ _ _ us hl => match us, hl with | [_], _ => rfl
    m_rEnd := ⟨a_rEnd, i_rEnd, F_rEnd.kp⟩
    F_rSto := F_rSto
    b_rSto := F_rSto.binds fun _ _ _ _ _ _ us hl => match us, hl with | [_], _ => rfl
    m_rSto := ⟨a_rSto, i_rSto, F_rSto.kp⟩
    F_fCov := F_fCov
    b_fCov := F_fCov.binds fun _ _ _ _ _ _ us hl => match us, hl with | [_, _, _], _ => rfl
    g_fCov := PySem.W.mg_of X G a_fCov
    F_fWid := F_fWid
    b_fWid := F_fWid.binds fun _ _ _ _ _ _ us hl => match us, hl with | [_, _, _], _ => rfl
    g_fWid := PySem.W.mg_of X G a_fWid
    F_fNar := F_fNar
    b_fNar := F_fNar.binds fun _ _ _ _ _ _ us hl => match us, hl with | [_, _], _ => rfl
    g_fNar := PySem.W.mg_of X G a_fNar
    F_cIni := F_cIni
    b_cIni := F_cIni.binds fun _ _ _ _ _ _ us hl => match us, hl with | [_, _, _], _ => rfl
    m_cIni := ⟨a_cIni, i_cIni, F_cIni.kp⟩
    F_cAdd := F_cAdd
    b_cAdd := F_cAdd.binds fun _ _ _ _ _ _ us hl => match us, hl with | [_, _, _, _], _ => rfl
    m_cAdd := ⟨a_cAdd, i_cAdd, F_cAdd.kp⟩
    F_cRuns := F_cRuns
    b_cRuns := F_cRuns.binds fun _ _ _ _ _ _ us hl => match us, hl with | [_, _, _], _ => rfl
    m_cRuns := ⟨a_cRuns, i_cRuns, F_cRuns.kp⟩
    F_cTold := F_cTold
    b_cTold := F_cTold.binds fun _ _ _ _ _ _ us hl => match us, hl with | [_], _ => rfl
    m_cTold := ⟨a_cTold, i_cTold, F_cTold.kp⟩
    F_fTr := F_fTr
    b_fTr := F_fTr.binds fun _ _ _ _ _ _ us hl => match us, hl with | [_], _ => rfl
    g_fTr := PySem.W.mg_of X G a_fTr
    F_fTc := F_fTc
    b_fTc := F_fTc.binds fun _ _ _ _ _ _ us hl => match us, hl with | [_, _, _], _ => rfl
    g_fTc := PySem.W.mg_of X G a_fTc
    F_fAns := F_fAns
    b_fAns := F_fAns.binds fun _ _ _ _ _ _ us hl => match us, hl with | [_], _ => rfl
    g_fAns := PySem.W.mg_of X G a_fAns
    F_fAof := F_fAof
    b_fAof := F_fAof.binds fun _ _ _ _ _ _ us hl => match us, hl with | [_, _, _], _ => rfl
    g_fAof := PySem.W.mg_of X G a_fAof
    F_tIni := F_tIni
    b_tIni := F_tIni.binds fun _ _ _ _ _ _ us hl => match us, hl with | [_], _ => rfl
    m_tIni := ⟨a_tIni, i_tIni, F_tIni.kp⟩
    F_tSet := F_tSet
    b_tSet := F_tSet.binds fun _ _ _ _ _ _ us hl => match us, hl with | [_, _, _, _], _ => rfl
    m_tSet := ⟨a_tSet, i_tSet, F_tSet.kp⟩
    F_tBeg := F_tBeg
    b_tBeg := F_tBeg.binds fun _ _ _ _ _ _ us hl => match us, hl with | [_, _, _, _], _ => rfl
    m_tBeg := ⟨a_tBeg, i_tBeg, F_tBeg.kp⟩
    F_tAdd := F_tAdd
    b_tAdd := F_tAdd.binds fun _ _ _ _ _ _ us hl => match us, hl with | [_, _, _, _, _], _ => rfl
    m_tAdd := ⟨a_tAdd, i_tAdd, F_tAdd.kp⟩
    F_tAsk := F_tAsk
    b_tAsk := F_tAsk.binds fun _ _ _ _ _ _ us hl => match us, hl with | [_, _, _, _], _ => rfl
    m_tAsk := ⟨a_tAsk, i_tAsk, F_tAsk.kp⟩
    F_tCells := F_tCells
    b_tCells := F_tCells.binds fun _ _ _ _ _ _ us hl => match us, hl with | [_, _, _, _, _], _ => rfl
    m_tCells := ⟨a_tCells, i_tCells, F_tCells.kp⟩
    F_tKnown := F_tKnown
    b_tKnown := F_tKnown.binds fun _ _ _ _ _ _ us hl => match us, hl with | [_, _], _ => rfl
    m_tKnown := ⟨a_tKnown, i_tKnown, F_tKnown.kp⟩
    F_tForg := F_tForg
    b_tForg := F_tForg.binds fun _ _ _ _ _ _ us hl => match us, hl with | [_, _], _ => rfl
    m_tForg := ⟨a_tForg, i_tForg, F_tForg.kp⟩
    F_fWfr := F_fWfr
    b_fWfr := F_fWfr.binds fun _ _ _ _ _ _ us hl => match us, hl with | [_, _], _ => rfl
    g_fWfr := PySem.W.mg_of X G a_fWfr
    F_fCbg := F_fCbg
    b_fCbg := F_fCbg.binds fun _ _ _ _ _ _ us hl => match us, hl with | [_, _, _], _ => rfl
    g_fCbg := PySem.W.mg_of X G a_fCbg
    F_fKr := F_fKr
    b_fKr := F_fKr.binds fun _ _ _ _ _ _ us hl => match us, hl with | [_, _], _ => rfl
    g_fKr := PySem.W.mg_of X G a_fKr
    F_fCad := F_fCad
    b_fCad := F_fCad.binds fun _ _ _ _ _ _ us hl => match us, hl with | [_, _, _, _], _ => rfl
    g_fCad := PySem.W.mg_of X G a_fCad
    F_fCask := F_fCask
    b_fCask := F_fCask.binds fun _ _ _ _ _ _ us hl => match us, hl with | [_, _, _], _ => rfl
    g_fCask := PySem.W.mg_of X G a_fCask
    F_fIch := F_fIch
    b_fIch := F_fIch.binds fun _ _ _ _ _ _ us hl => match us, hl with | [_], _ => rfl
    g_fIch := PySem.W.mg_of X G a_fIch
    F_fIlv := F_fIlv
    b_fIlv := F_fIlv.binds fun _ _ _ _ _ _ us hl => match us, hl with | [_], _ => rfl
    g_fIlv := PySem.W.mg_of X G a_fIlv
    F_fItm := F_fItm
    b_fItm := F_fItm.binds fun _ _ _ _ _ _ us hl => match us, hl with | [_], _ => rfl
    g_fItm := PySem.W.mg_of X G a_fItm
    F_fIvl := F_fIvl
    b_fIvl := F_fIvl.binds fun _ _ _ _ _ _ us hl => match us, hl with | [_], _ => rfl
    g_fIvl := PySem.W.mg_of X G a_fIvl
    i_NO_VALUE := ⟨k_NO_VALUE, PySem.W.mg_of X G i_NO_VALUE⟩
    i_GREATEST := ⟨k_GREATEST, PySem.W.mg_of X G i_GREATEST⟩
    i_BEGIN := ⟨k_BEGIN, PySem.W.mg_of X G i_BEGIN⟩
    i_ADD := ⟨k_ADD, PySem.W.mg_of X G i_ADD⟩
    i_ASK := ⟨k_ASK, PySem.W.mg_of X G i_ASK⟩
    i_CELLS := ⟨k_CELLS, PySem.W.mg_of X G i_CELLS⟩
    i_KNOWN := ⟨k_KNOWN, PySem.W.mg_of X G i_KNOWN⟩
    i_NOT_IN_RANGE := ⟨k_NOT_IN_RANGE, PySem.W.mg_of X G i_NOT_IN_RANGE⟩
    i_NOTHING_KNOWN := ⟨k_NOTHING_KNOWN, PySem.W.mg_of X G i_NOTHING_KNOWN⟩
    i_BEFORE_THE_LAST := ⟨k_BEFORE_THE_LAST, PySem.W.mg_of X G i_BEFORE_THE_LAST⟩
    i_FIRST_WIDTH := ⟨k_FIRST_WIDTH, PySem.W.mg_of X G i_FIRST_WIDTH⟩
    i_WIDEST_WIDTH := ⟨k_WIDEST_WIDTH, PySem.W.mg_of X G i_WIDEST_WIDTH⟩
    b_min := PySem.W.mg_none_of X G b_min
    b_max := PySem.W.mg_none_of X G b_max
    b_abs := PySem.W.mg_none_of X G b_abs
    b_list := PySem.W.mg_none_of X G b_list
    b_len := PySem.W.mg_none_of X G b_len
    b_range := PySem.W.mg_none_of X G b_range
    b_reversed := PySem.W.mg_none_of X G b_reversed
    b_zip := PySem.W.mg_none_of X G b_zip
    b_sum := PySem.W.mg_none_of X G b_sum
    b_all := PySem.W.mg_none_of X G b_all
    g_times := PySem.W.mg_of X G g_times
    g_kept := PySem.W.mg_of X G g_kept
    g_given := PySem.W.mg_of X G g_given }
  have T2 : Txt2 K ⟨cS, cL, cR, cC, cT, f_sIni, d_sIni, f_sWv, d_sWv, f_sTi, d_sTi, f_sTv, d_sTv, f_sMean, d_sMean, f_sTold, d_sTold, f_fOne, d_fOne, f_fNear, d_fNear, f_lIni, d_lIni, f_lAdd, d_lAdd, f_lDrop, d_lDrop, f_lBeg, d_lBeg, f_lKeep, d_lKeep, f_lEnd, d_lEnd, f_lFrom, d_lFrom, f_lNum, d_lNum, f_rIni, d_rIni, f_rBeg, d_rBeg, f_rEnd, d_rEnd, f_rSto, d_rSto, f_fCov, d_fCov, f_fWid, d_fWid, f_fNar, d_fNar, f_cIni, d_cIni, f_cAdd, d_cAdd, f_cRuns, d_cRuns, f_cTold, d_cTold, f_fTr, d_fTr, f_fTc, d_fTc, fa, d_fAns, f_fAof, d_fAof, f_tIni, d_tIni, f_tSet, d_tSet, f_tBeg, d_tBeg, f_tAdd, d_tAdd, f_tAsk, d_tAsk, f_tCells, d_tCells, f_tKnown, d_tKnown, f_tForg, d_tForg, f_fWfr, d_fWfr, f_fCbg, d_fCbg, f_fKr, d_fKr, f_fCad, d_fCad, f_fCask, d_fCask, f_fIch, d_fIch, f_fIlv, d_fIlv, f_fItm, d_fItm, f_fIvl, d_fIvl, a_times, a_kept, a_given⟩ := ⟨fun H => .inr ⟨_, _, nT, l_times, rfl, rfl, (by show 3 ≤ sizeLine; decide), .cons ⟨t1, rfl⟩ (.cons ⟨t2, rfl⟩ (.cons ⟨t3, rfl⟩ .nil))⟩,
    fun H => .inr ⟨_, _, nK, l_kept, rfl, rfl, (by show 4 ≤ sizeLine; decide), .cons ⟨u1, rfl⟩ (.cons ⟨u2, rfl⟩ (.cons ⟨u3, rfl⟩ (.cons ⟨u4, rfl⟩ .nil)))⟩⟩
  have T3 : Txt3 K ⟨cS, cL, cR, cC, cT, f_sIni, d_sIni, f_sWv, d_sWv, f_sTi, d_sTi, f_sTv, d_sTv, f_sMean, d_sMean, f_sTold, d_sTold, f_fOne, d_fOne, f_fNear, d_fNear, f_lIni, d_lIni, f_lAdd, d_lAdd, f_lDrop, d_lDrop, f_lBeg, d_lBeg, f_lKeep, d_lKeep, f_lEnd, d_lEnd, f_lFrom, d_lFrom, f_lNum, d_lNum, f_rIni, d_rIni, f_rBeg, d_rBeg, f_rEnd, d_rEnd, f_rSto, d_rSto, f_fCov, d_fCov, f_fWid, d_fWid, f_fNar, d_fNar, f_cIni, d_cIni, f_cAdd, d_cAdd, f_cRuns, d_cRuns, f_cTold, d_cTold, f_fTr, d_fTr, f_fTc, d_fTc, fa, d_fAns, f_fAof, d_fAof, f_tIni, d_tIni, f_tSet, d_tSet, f_tBeg, d_tBeg, f_tAdd, d_tAdd, f_tAsk, d_tAsk, f_tCells, d_tCells, f_tKnown, d_tKnown, f_tForg, d_tForg, f_fWfr, d_fWfr, f_fCbg, d_fCbg, f_fKr, d_fKr, f_fCad, d_fCad, f_fCask, d_fCask, f_fIch, d_fIch, f_fIlv, d_fIlv, f_fItm, d_fItm, f_fIvl, d_fIvl, a_times, a_kept, a_given⟩ := ⟨given_mk l_given hh⟩
  refine ⟨d_fAns, fun s u => ?_, fun base _ _ => ok_fAns T T2 T3⟩
  obtain ⟨oc, od, kV, doc, pm, an, cdv, ct, osl, rfl, lk, hcd⟩ := F_fAns.ex
  exact .of_eq rfl
end TC
-- these take the names of the twins that the head would lay for its largest tables (heap_426, heap_1, the trees 425, 364, 290, 264, 212, 154): it goes on without them, and the compiled text stays below 64 MiB
def PySem.W.Fast.tw11849838965923151218 : Nat := 0
def PySem.W.Fast.tw13038390138838825283 : Nat := 0
def PySem.W.Fast.tw12638645767310248956 : Nat := 0
def PySem.W.Fast.tw12411325988696883189 : Nat := 0
def PySem.W.Fast.tw4605659460737977828 : Nat := 0
def PySem.W.Fast.tw2533096252829532985 : Nat := 0
def PySem.W.Fast.tw16030322320734116348 : Nat := 0
def PySem.W.Fast.tw13945962429584338473 : Nat := 0
open PySem PySem.W PyProof.Rows
set_option maxRecDepth 100000 in
set_option maxHeartbeats 0 in
theorem PySem.Challenge.cw_trendcells_s01_answers_holds : PySem.Challenge.rw_trendcells_s01_answers.Holds := by
  w_on; k_headS
  (case hw => exact ⟨[.list [.int 5, .int 0]], by decide +kernel, by decide +kernel⟩)
  k_fillS
  refine TC.walk_spec (r := PySem.Challenge.rw_trendcells_s01_answers) (lo := Int.negSucc 9223372036854775807) (hi := Int.ofNat 18446744073709551615) (most := 16000) (k := 8) (x := "calls") (f := PySq05.answers) (as := PySq05.answers_asked) (sp := fun K => TC.sp_fAns K) rfl (by decide) ⟨rfl, by decide, by decide⟩
    (fun args h => let ⟨ns, _, h1, h2, h3, h4⟩ := TC.pre_dec h; ⟨ns, h1, h2, h3, h4⟩) (fun ns h => TC.post_open h) (fun w h Y => PySem.W.kIn_of Y) ?F (fun K H a ns _ _ has _ hS => ⟨a, ns, rfl, hS, has, fun p H' h => ⟨p, rfl, h⟩⟩)
  case F =>
    intro w mg fa h KX G hmg
    refine' TC.all_mk KX G hmg ?acS ?pgS ?hdS ?poS ?saS ?mkS ?kcS ?nS_many ?nS_nones ?nS_least ?nS_greatest ?nS_total ?nS_first_time ?nS_first_value ?nS_last_time ?nS_last_value ?nS_marks ?acL ?pgL ?hdL ?poL ?saL ?mkL ?kcL ?nL_width ?nL_kept ?nL_oldest ?nL_summaries ?acR ?pgR ?hdR ?poR ?saR ?mkR ?kcR ?nR_level ?nR_number ?nR_many ?acC ?pgC ?hdC ?poC ?saC ?mkC ?kcC ?nC_last ?nC_levels ?acT ?pgT ?hdT ?poT ?saT ?mkT ?kcT ?nT_widths ?nT_kept ?nT_channels ?a_sIni ?i_sIni ?F_sIni ?a_sWv ?i_sWv ?F_sWv ?a_sTi ?i_sTi ?F_sTi ?a_sTv ?i_sTv ?F_sTv ?a_sMean ?i_sMean ?F_sMean ?a_sTold ?i_sTold ?F_sTold ?a_fOne ?F_fOne ?a_fNear ?F_fNear ?a_lIni ?i_lIni ?F_lIni ?a_lAdd ?i_lAdd ?F_lAdd ?a_lDrop ?i_lDrop ?F_lDrop ?a_lBeg ?i_lBeg ?F_lBeg ?a_lKeep ?i_lKeep ?F_lKeep ?a_lEnd ?i_lEnd ?F_lEnd ?a_lFrom ?i_lFrom ?F_lFrom ?a_lNum ?i_lNum ?F_lNum ?a_rIni ?i_rIni ?F_rIni ?a_rBeg ?i_rBeg ?F_rBeg ?a_rEnd ?i_rEnd ?F_rEnd ?a_rSto ?i_rSto ?F_rSto ?a_fCov ?F_fCov ?a_fWid ?F_fWid ?a_fNar ?F_fNar ?a_cIni ?i_cIni ?F_cIni ?a_cAdd ?i_cAdd ?F_cAdd ?a_cRuns ?i_cRuns ?F_cRuns ?a_cTold ?i_cTold ?F_cTold ?a_fTr ?F_fTr ?a_fTc ?F_fTc ?a_fAns ?F_fAns ?a_fAof ?F_fAof ?a_tIni ?i_tIni ?F_tIni ?a_tSet ?i_tSet ?F_tSet ?a_tBeg ?i_tBeg ?F_tBeg ?a_tAdd ?i_tAdd ?F_tAdd ?a_tAsk ?i_tAsk ?F_tAsk ?a_tCells ?i_tCells ?F_tCells ?a_tKnown ?i_tKnown ?F_tKnown ?a_tForg ?i_tForg ?F_tForg ?a_fWfr ?F_fWfr ?a_fCbg ?F_fCbg ?a_fKr ?F_fKr ?a_fCad ?F_fCad ?a_fCask ?F_fCask ?a_fIch ?F_fIch ?a_fIlv ?F_fIlv ?a_fItm ?F_fItm ?a_fIvl ?F_fIvl ?i_NO_VALUE ?i_GREATEST ?i_BEGIN ?i_ADD ?i_ASK ?i_CELLS ?i_KNOWN ?i_NOT_IN_RANGE ?i_NOTHING_KNOWN ?i_BEFORE_THE_LAST ?i_FIRST_WIDTH ?i_WIDEST_WIDTH ?b_min ?b_max ?b_abs ?b_list ?b_len ?b_range ?b_reversed ?b_zip ?b_sum ?b_all ?g_times ?l_times ?g_kept ?l_kept ?g_given ?l_given ?hh
    (case acS => k_is)
    (case pgS => k_is)
    (case hdS => k_is)
    (case poS => k_is)
    (case saS => k_is)
    (case mkS => k_is)
    (case kcS => k_is)
    (case nS_many => k_is)
    (case nS_nones => k_is)
    (case nS_least => k_is)
    (case nS_greatest => k_is)
    (case nS_total => k_is)
    (case nS_first_time => k_is)
    (case nS_first_value => k_is)
    (case nS_last_time => k_is)
    (case nS_last_value => k_is)
    (case nS_marks => k_is)
    (case acL => k_is)
    (case pgL => k_is)
    (case hdL => k_is)
    (case poL => k_is)
    (case saL => k_is)
    (case mkL => k_is)
    (case kcL => k_is)
    (case nL_width => k_is)
    (case nL_kept => k_is)
    (case nL_oldest => k_is)
    (case nL_summaries => k_is)
    (case acR => k_is)
    (case pgR => k_is)
    (case hdR => k_is)
    (case poR => k_is)
    (case saR => k_is)
    (case mkR => k_is)
    (case kcR => k_is)
    (case nR_level => k_is)
    (case nR_number => k_is)
    (case nR_many => k_is)
    (case acC => k_is)
    (case pgC => k_is)
    (case hdC => k_is)
    (case poC => k_is)
    (case saC => k_is)
    (case mkC => k_is)
    (case kcC => k_is)
    (case nC_last => k_is)
    (case nC_levels => k_is)
    (case acT => k_is)
    (case pgT => k_is)
    (case hdT => k_is)
    (case poT => k_is)
    (case saT => k_is)
    (case mkT => k_is)
    (case kcT => k_is)
    (case nT_widths => k_is)
    (case nT_kept => k_is)
    (case nT_channels => k_is)
    (case a_sIni => k_is)
    (case i_sIni => k_is)
    (case F_sIni => refine' L2.fun_mk ?fl ?fc ?fk; (case fl => k_is); (case fc => k_is); (case fk => k_is))
    (case a_sWv => k_is)
    (case i_sWv => k_is)
    (case F_sWv => refine' L2.fun_mk ?fl ?fc ?fk; (case fl => k_is); (case fc => k_is); (case fk => k_is))
    (case a_sTi => k_is)
    (case i_sTi => k_is)
    (case F_sTi => refine' L2.fun_mk ?fl ?fc ?fk; (case fl => k_is); (case fc => k_is); (case fk => k_is))
    (case a_sTv => k_is)
    (case i_sTv => k_is)
    (case F_sTv => refine' L2.fun_mk ?fl ?fc ?fk; (case fl => k_is); (case fc => k_is); (case fk => k_is))
    (case a_sMean => k_is)
    (case i_sMean => k_is)
    (case F_sMean => refine' L2.fun_mk ?fl ?fc ?fk; (case fl => k_is); (case fc => k_is); (case fk => k_is))
    (case a_sTold => k_is)
    (case i_sTold => k_is)
    (case F_sTold => refine' L2.fun_mk ?fl ?fc ?fk; (case fl => k_is); (case fc => k_is); (case fk => k_is))
    (case a_fOne => k_is)
    (case F_fOne => refine' L2.fun_mk ?fl ?fc ?fk; (case fl => k_is); (case fc => k_is); (case fk => k_is))
    (case a_fNear => k_is)
    (case F_fNear => refine' L2.fun_mk ?fl ?fc ?fk; (case fl => k_is); (case fc => k_is); (case fk => k_is))
    (case a_lIni => k_is)
    (case i_lIni => k_is)
    (case F_lIni => refine' L2.fun_mk ?fl ?fc ?fk; (case fl => k_is); (case fc => k_is); (case fk => k_is))
    (case a_lAdd => k_is)
    (case i_lAdd => k_is)
    (case F_lAdd => refine' L2.fun_mk ?fl ?fc ?fk; (case fl => k_is); (case fc => k_is); (case fk => k_is))
    (case a_lDrop => k_is)
    (case i_lDrop => k_is)
    (case F_lDrop => refine' L2.fun_mk ?fl ?fc ?fk; (case fl => k_is); (case fc => k_is); (case fk => k_is))
    (case a_lBeg => k_is)
    (case i_lBeg => k_is)
    (case F_lBeg => refine' L2.fun_mk ?fl ?fc ?fk; (case fl => k_is); (case fc => k_is); (case fk => k_is))
    (case a_lKeep => k_is)
    (case i_lKeep => k_is)
    (case F_lKeep => refine' L2.fun_mk ?fl ?fc ?fk; (case fl => k_is); (case fc => k_is); (case fk => k_is))
    (case a_lEnd => k_is)
    (case i_lEnd => k_is)
    (case F_lEnd => refine' L2.fun_mk ?fl ?fc ?fk; (case fl => k_is); (case fc => k_is); (case fk => k_is))
    (case a_lFrom => k_is)
    (case i_lFrom => k_is)
    (case F_lFrom => refine' L2.fun_mk ?fl ?fc ?fk; (case fl => k_is); (case fc => k_is); (case fk => k_is))
    (case a_lNum => k_is)
    (case i_lNum => k_is)
    (case F_lNum => refine' L2.fun_mk ?fl ?fc ?fk; (case fl => k_is); (case fc => k_is); (case fk => k_is))
    (case a_rIni => k_is)
    (case i_rIni => k_is)
    (case F_rIni => refine' L2.fun_mk ?fl ?fc ?fk; (case fl => k_is); (case fc => k_is); (case fk => k_is))
    (case a_rBeg => k_is)
    (case i_rBeg => k_is)
    (case F_rBeg => refine' L2.fun_mk ?fl ?fc ?fk; (case fl => k_is); (case fc => k_is); (case fk => k_is))
    (case a_rEnd => k_is)
    (case i_rEnd => k_is)
    (case F_rEnd => refine' L2.fun_mk ?fl ?fc ?fk; (case fl => k_is); (case fc => k_is); (case fk => k_is))
    (case a_rSto => k_is)
    (case i_rSto => k_is)
    (case F_rSto => refine' L2.fun_mk ?fl ?fc ?fk; (case fl => k_is); (case fc => k_is); (case fk => k_is))
    (case a_fCov => k_is)
    (case F_fCov => refine' L2.fun_mk ?fl ?fc ?fk; (case fl => k_is); (case fc => k_is); (case fk => k_is))
    (case a_fWid => k_is)
    (case F_fWid => refine' L2.fun_mk ?fl ?fc ?fk; (case fl => k_is); (case fc => k_is); (case fk => k_is))
    (case a_fNar => k_is)
    (case F_fNar => refine' L2.fun_mk ?fl ?fc ?fk; (case fl => k_is); (case fc => k_is); (case fk => k_is))
    (case a_cIni => k_is)
    (case i_cIni => k_is)
    (case F_cIni => refine' L2.fun_mk ?fl ?fc ?fk; (case fl => k_is); (case fc => k_is); (case fk => k_is))
    (case a_cAdd => k_is)
    (case i_cAdd => k_is)
    (case F_cAdd => refine' L2.fun_mk ?fl ?fc ?fk; (case fl => k_is); (case fc => k_is); (case fk => k_is))
    (case a_cRuns => k_is)
    (case i_cRuns => k_is)
    (case F_cRuns => refine' L2.fun_mk ?fl ?fc ?fk; (case fl => k_is); (case fc => k_is); (case fk => k_is))
    (case a_cTold => k_is)
    (case i_cTold => k_is)
    (case F_cTold => refine' L2.fun_mk ?fl ?fc ?fk; (case fl => k_is); (case fc => k_is); (case fk => k_is))
    (case a_fTr => k_is)
    (case F_fTr => refine' L2.fun_mk ?fl ?fc ?fk; (case fl => k_is); (case fc => k_is); (case fk => k_is))
    (case a_fTc => k_is)
    (case F_fTc => refine' L2.fun_mk ?fl ?fc ?fk; (case fl => k_is); (case fc => k_is); (case fk => k_is))
    (case a_fAns => k_is)
    (case F_fAns => refine' L2.fun_mk ?fl ?fc ?fk; (case fl => k_is); (case fc => k_is); (case fk => k_is))
    (case a_fAof => k_is)
    (case F_fAof => refine' L2.fun_mk ?fl ?fc ?fk; (case fl => k_is); (case fc => k_is); (case fk => k_is))
    (case a_tIni => k_is)
    (case i_tIni => k_is)
    (case F_tIni => refine' L2.fun_mk ?fl ?fc ?fk; (case fl => k_is); (case fc => k_is); (case fk => k_is))
    (case a_tSet => k_is)
    (case i_tSet => k_is)
    (case F_tSet => refine' L2.fun_mk ?fl ?fc ?fk; (case fl => k_is); (case fc => k_is); (case fk => k_is))
    (case a_tBeg => k_is)
    (case i_tBeg => k_is)
    (case F_tBeg => refine' L2.fun_mk ?fl ?fc ?fk; (case fl => k_is); (case fc => k_is); (case fk => k_is))
    (case a_tAdd => k_is)
    (case i_tAdd => k_is)
    (case F_tAdd => refine' L2.fun_mk ?fl ?fc ?fk; (case fl => k_is); (case fc => k_is); (case fk => k_is))
    (case a_tAsk => k_is)
    (case i_tAsk => k_is)
    (case F_tAsk => refine' L2.fun_mk ?fl ?fc ?fk; (case fl => k_is); (case fc => k_is); (case fk => k_is))
    (case a_tCells => k_is)
    (case i_tCells => k_is)
    (case F_tCells => refine' L2.fun_mk ?fl ?fc ?fk; (case fl => k_is); (case fc => k_is); (case fk => k_is))
    (case a_tKnown => k_is)
    (case i_tKnown => k_is)
    (case F_tKnown => refine' L2.fun_mk ?fl ?fc ?fk; (case fl => k_is); (case fc => k_is); (case fk => k_is))
    (case a_tForg => k_is)
    (case i_tForg => k_is)
    (case F_tForg => refine' L2.fun_mk ?fl ?fc ?fk; (case fl => k_is); (case fc => k_is); (case fk => k_is))
    (case a_fWfr => k_is)
    (case F_fWfr => refine' L2.fun_mk ?fl ?fc ?fk; (case fl => k_is); (case fc => k_is); (case fk => k_is))
    (case a_fCbg => k_is)
    (case F_fCbg => refine' L2.fun_mk ?fl ?fc ?fk; (case fl => k_is); (case fc => k_is); (case fk => k_is))
    (case a_fKr => k_is)
    (case F_fKr => refine' L2.fun_mk ?fl ?fc ?fk; (case fl => k_is); (case fc => k_is); (case fk => k_is))
    (case a_fCad => k_is)
    (case F_fCad => refine' L2.fun_mk ?fl ?fc ?fk; (case fl => k_is); (case fc => k_is); (case fk => k_is))
    (case a_fCask => k_is)
    (case F_fCask => refine' L2.fun_mk ?fl ?fc ?fk; (case fl => k_is); (case fc => k_is); (case fk => k_is))
    (case a_fIch => k_is)
    (case F_fIch => refine' L2.fun_mk ?fl ?fc ?fk; (case fl => k_is); (case fc => k_is); (case fk => k_is))
    (case a_fIlv => k_is)
    (case F_fIlv => refine' L2.fun_mk ?fl ?fc ?fk; (case fl => k_is); (case fc => k_is); (case fk => k_is))
    (case a_fItm => k_is)
    (case F_fItm => refine' L2.fun_mk ?fl ?fc ?fk; (case fl => k_is); (case fc => k_is); (case fk => k_is))
    (case a_fIvl => k_is)
    (case F_fIvl => refine' L2.fun_mk ?fl ?fc ?fk; (case fl => k_is); (case fc => k_is); (case fk => k_is))
    (case i_NO_VALUE => k_is)
    (case i_GREATEST => k_is)
    (case i_BEGIN => k_is)
    (case i_ADD => k_is)
    (case i_ASK => k_is)
    (case i_CELLS => k_is)
    (case i_KNOWN => k_is)
    (case i_NOT_IN_RANGE => k_is)
    (case i_NOTHING_KNOWN => k_is)
    (case i_BEFORE_THE_LAST => k_is)
    (case i_FIRST_WIDTH => k_is)
    (case i_WIDEST_WIDTH => k_is)
    (case b_min => k_is)
    (case b_max => k_is)
    (case b_abs => k_is)
    (case b_list => k_is)
    (case b_len => k_is)
    (case b_range => k_is)
    (case b_reversed => k_is)
    (case b_zip => k_is)
    (case b_sum => k_is)
    (case b_all => k_is)
    (case g_times => k_is)
    (case l_times => k_is)
    (case g_kept => k_is)
    (case l_kept => k_is)
    (case g_given => k_is)
    (case l_given => k_is)
    (case hh => exact ⟨by decide +kernel, by decide +kernel, by decide +kernel, by decide +kernel, by decide +kernel, by decide +kernel⟩)
#print axioms PySem.Challenge.cw_trendcells_s01_answers_holds
