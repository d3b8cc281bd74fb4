import PyProof.Rows.All
import Wide.All
import OpenK.AllK
import Wide.FinOn
import PyProof.EqAt
import PyProof.EqKinds
import PyProof.TupleCall
import KE.BitLaws
import Open.SpecLaws
import KE.OsHead
import KE.OsGo
import PySem.Challenge.RW_twoaskedapart_s01_answers
-- CHANGE: your row's module here, as the last of these rows
set_option Elab.async false
set_option linter.all false
set_option maxRecDepth 100000
namespace L2
open PySem PySem.Spec PyProof.Rows
abbrev Key := Sum Int Str
def keyIs : Key → Value → Bool
  | .inl k, v => Value.isInt k v
  | .inr x, v => Value.isStrOf x v
def keyH (w : World) : Key → Int
  | .inl k => hashInt k
  | .inr x => hashStr w x
theorem keyIs_shape : ∀ {k : Key} {v : Value}, keyIs k v = true → (∃ i t, k = Sum.inl i ∧ v = Value.int i t) ∨ (∃ x t, k = Sum.inr x ∧ v = Value.str x t)
  | .inl i, v, h => by
    obtain ⟨t, e⟩ := Value.isInt_shape (k := i) (v := v) h
    exact .inl ⟨i, t, rfl, e⟩
  | .inr x, v, h => by
    obtain ⟨t, e⟩ := Value.isStrOf_shape (x := x) (v := v) h
    exact .inr ⟨x, t, rfl, e⟩
theorem keyIs_int (i : Int) (t : Tok) : keyIs (.inl i) (.int i t) = true := by simp [keyIs, Value.isInt]
theorem keyIs_str (x : Str) (t : Tok) : keyIs (.inr x) (.str x t) = true := by simp [keyIs, Value.isStrOf]
theorem key_ll (a b : Int) : decide ((Sum.inl a : Key) = Sum.inl b) = (a == b) := by
  by_cases e : a = b
  · subst e; simp
  · have h : ¬ (Sum.inl a : Key) = Sum.inl b := fun q => e (Sum.inl.inj q)
    rw [decide_eq_false h]
    exact (beq_eq_false_iff_ne.mpr e).symm
theorem key_rr (a b : Str) : decide ((Sum.inr a : Key) = Sum.inr b) = decide (a = b) := by
  by_cases e : a = b
  · subst e; simp
  · have h : ¬ (Sum.inr a : Key) = Sum.inr b := fun q => e (Sum.inr.inj q)
    rw [decide_eq_false h, decide_eq_false e]
theorem key_lr (a : Int) (b : Str) : decide ((Sum.inl a : Key) = Sum.inr b) = false := decide_eq_false (fun q => nomatch q)
theorem key_rl (a : Str) (b : Int) : decide ((Sum.inr a : Key) = Sum.inl b) = false := decide_eq_false (fun q => nomatch q)
def mixKind (prog : Program) (w : World) : PySem.KeyKind prog w Key where
  is := keyIs
  hash := keyH w
  inj := fun v a b ha hb => by
    rcases keyIs_shape ha with ⟨i, t, rfl, rfl⟩ | ⟨x, t, rfl, rfl⟩
    · rcases keyIs_shape hb with ⟨j, u, rfl, e⟩ | ⟨y, u, rfl, e⟩
      · injection e with e1 _; rw [e1]
      · exact nomatch e
    · rcases keyIs_shape hb with ⟨j, u, rfl, e⟩ | ⟨y, u, rfl, e⟩
      · exact nomatch e
      · injection e with e1 _; rw [e1]
  byValue := fun k v h => by
    rcases keyIs_shape h with ⟨i, t, rfl, rfl⟩ | ⟨x, t, rfl, rfl⟩ <;> rfl
  pyHash := fun hv h => by
    rcases keyIs_shape hv with ⟨i, t, rfl, rfl⟩ | ⟨x, t, rfl, rfl⟩
    · exact wpAny_pyHash_int h
    · exact wpAny_pyHash_str h
  eqBool := fun hu hv h => by
    rcases keyIs_shape hu with ⟨i, t, rfl, rfl⟩ | ⟨x, t, rfl, rfl⟩
    · rcases keyIs_shape hv with ⟨j, u, rfl, rfl⟩ | ⟨y, u, rfl, rfl⟩
      · rw [key_ll] at h; exact wpAny_eqBool_int h
      · rw [key_lr] at h; exact SeqAt.EqAt.int_str i t y u _ _ _ _ h
    · rcases keyIs_shape hv with ⟨j, u, rfl, rfl⟩ | ⟨y, u, rfl, rfl⟩
      · rw [key_rl] at h; exact SeqAt.EqAt.str_int x t j u _ _ _ _ h
      · rw [key_rr] at h; exact wpAny_eqBool_str h
  «strs» := fun k x t v h => by
    rcases keyIs_shape h with ⟨i, u, rfl, e⟩ | ⟨y, u, rfl, e⟩
    · exact nomatch e
    · injection e with e1 _
      subst e1
      cases v <;> rfl
theorem mixKind_int (prog : Program) (w : World) (i : Int) (t : Tok) : (mixKind prog w).is (.inl i) (.int i t) = true := keyIs_int i t
theorem mixKind_str (prog : Program) (w : World) (x : Str) (t : Tok) : (mixKind prog w).is (.inr x) (.str x t) = true := keyIs_str x t
end L2
namespace L2
open PySem PySem.Spec PyProof.Rows
inductive V where
  | non | bl (b : Bool) | int (i : Int) | str (x : Str) | byt (b : Array UInt8) | flt (b : UInt64) | ref (a : Addr) | ty (n : String)
  deriving DecidableEq
def RelV : V → Value → Prop
  | .non, u => u = Value.none
  | .bl b, u => u = Value.bool b
  | .int i, u => ∃ t, u = Value.int i t
  | .str x, u => ∃ t, u = Value.str x t
  | .byt b, u => ∃ t, u = Value.bytes b t
  | .flt b, u => ∃ t, u = Value.float b t
  | .ref a, u => u = Value.ref a
  | .ty n, u => u = Value.type n
abbrev Vals : List V → List Value → Prop := Paired RelV
theorem Vals.length {xs : List V} {us : List Value} (r : Vals xs us) : xs.length = us.length := Paired.length r
theorem Vals.get : ∀ {xs : List V} {us : List Value} {i : Nat} {x : V}, Vals xs us → xs[i]? = some x → ∃ u, us[i]? = some u ∧ RelV x u
  | _, _, _, _, .nil, e => by simp at e
  | _, _, 0, _, .cons r _, e => by simp at e; subst e; exact ⟨_, rfl, r⟩
  | _, _, i + 1, x, .cons _ t, e => by
    obtain ⟨u, h1, h2⟩ := Vals.get (i := i) (x := x) t (by simpa using e)
    exact ⟨u, by simpa using h1, h2⟩
theorem Vals.set {x : V} {u : Value} (r : RelV x u) : ∀ {xs : List V} {us : List Value} (i : Nat), Vals xs us → Vals (xs.set i x) (us.set i u)
  | _, _, _, .nil => .nil
  | _, _, 0, .cons _ t => .cons r t
  | _, _, i + 1, .cons q t => .cons q (Vals.set r i t)
theorem Vals.append : ∀ {xs ys : List V} {us ws : List Value}, Vals xs us → Vals ys ws → Vals (xs ++ ys) (us ++ ws)
  | _, _, _, _, .nil, s => s
  | _, _, _, _, .cons r t, s => .cons r (Vals.append t s)
theorem Vals.take : ∀ {xs : List V} {us : List Value} (n : Nat), Vals xs us → Vals (xs.take n) (us.take n)
  | _, _, 0, _ => .nil
  | _, _, _ + 1, .nil => .nil
  | _, _, n + 1, .cons r t => .cons r (Vals.take n t)
theorem Vals.drop : ∀ {xs : List V} {us : List Value} (n : Nat), Vals xs us → Vals (xs.drop n) (us.drop n)
  | _, _, 0, r => r
  | _, _, _ + 1, .nil => .nil
  | _, _, n + 1, .cons _ t => Vals.drop n t
theorem Vals.none_of : ∀ {xs : List V} {us : List Value} {i : Nat}, Vals xs us → xs[i]? = none → us[i]? = none := fun {xs us i} r e => by
  have h1 := r.length
  have h2 : xs.length ≤ i := List.getElem?_eq_none_iff.mp e
  exact List.getElem?_eq_none_iff.mpr (by omega)
def RelO : Option V → Option Value → Prop
  | some v, some u => RelV v u
  | none, none => True
  | _, _ => False
def KV {κ : Type} : List (κ × V) → List (κ × Value) → Prop := Paired fun (p : κ × V) (q : κ × Value) => p.1 = q.1 ∧ RelV p.2 q.2
def kV : Key → V
  | .inl i => .int i
  | .inr x => .str x
inductive HO where
  /-- a list -/
  | lst (xs : List V)
  /-- a tuple (never changes) -/
  | tup (xs : List V)
  /-- a dict whose keys are ints and texts; one whose keys are tuples of ints and texts (the empty one is both) -/
  | dK (kvs : List (Key × V)) | dT (kvs : List (List Key × V))
  /-- a set of ints: its members, its size -/
  | set (S : Int → Bool) (n : Nat)
  /-- an instance of the class at C, its dict at dx, its attributes -/
  | ins (C dx : Addr) (fs : List (Str × V))
  /-- the dict of the instance at x -/
  | own (x : Addr)
  /-- the dict of an exception -/
  | xd (fs : List (Str × V))
  /-- a bound method, f of x -/
  | met (f x : Addr)
  /-- a range object lo, lo + 1, .. below hi -/
  | rng (lo hi : Int)
  /-- a thing that is known to the object (the script; a dict while a loop walks it): read, never written while it is so -/
  | frz (o : Obj) (u : HO)
  /-- a code object's table -/
  | tbl (ps : Array Value)
  /-- any other thing, by what is true of its one object (a def of one's own: SetO a S n := HO.ext fun h => ..) -/
  | ext (φ : Heap → Prop)
abbrev Hp := Addr → Option HO
def upd (H : Hp) (a : Addr) (o : HO) : Hp := fun b => if b = a then some o else H b
theorem upd_same {H : Hp} {a : Addr} {o : HO} : upd H a o a = some o := by unfold upd; rw [if_pos rfl]
theorem upd_ne {H : Hp} {a b : Addr} {o : HO} (h : b ≠ a) : upd H a o b = H b := by unfold upd; rw [if_neg h]
theorem upd_upd {H : Hp} {a : Addr} {o u : HO} : upd (upd H a o) a u = upd H a u := by
  funext b; unfold upd; split <;> rfl
theorem ne_of {H : Hp} {a b : Addr} {o u : HO} (h : H a = some o) (h' : H b = some u) (d : o ≠ u) : a ≠ b := by
  intro e; subst e; rw [h] at h'; exact d (Option.some.inj h')
theorem ne_of_none {H : Hp} {a b : Addr} {o : HO} (h : H a = some o) (h' : H b = none) : a ≠ b := by
  intro e; subst e; rw [h] at h'; cases h'
section
variable (P : Program) (w : World)
def ObjOk (H : Hp) (h : Heap) (a : Addr) : HO → Prop
  | .lst xs => xs.length ≤ sizeLine ∧ ∃ (its : List Value) (n : Nat), Vals xs its ∧ h.get? a = some { cls := .type "list", data := .seq its.toArray n }
  | .tup xs => xs.length ≤ sizeLine ∧ ∃ its : List Value, Vals xs its ∧ IsTup h a its.toArray
  | .dK kvs => kvs.length ≤ sizeLine ∧ (a == sysModules) = false ∧ ∃ vs, KV kvs vs ∧ h.DictOf (mixKind P w) a vs
  | .dT kvs => kvs.length ≤ sizeLine ∧ (a == sysModules) = false ∧ ∃ xs : List (List Key × Addr × Value),
      Paired (fun (p : List Key × V) (q : List Key × Addr × Value) => p.1 = q.1 ∧ H q.2.1 = some (.tup (p.1.map kV)) ∧ RelV p.2 q.2.2) kvs xs ∧
      ∃ o es ep, h.get? a = some o ∧ o.ExactDict ∧ o.data = .dict es ep ∧ es.toList = xs.map (entryOfKey (tupleKind (mixKind P w))) ∧ (xs.map (·.1)).Nodup
  | .set S n => h.SetOf (intKind P w) a S n
  | .ins C dx fs => H dx = some (.own a) ∧ fs.length ≤ 1000 ∧ dx ≠ a ∧ h.get? a = some (PySem.W.instObj C dx) ∧
      ∃ mA, h.Ns1 dx mA ∧ (∀ f, RelO (fs.lookup f) (mA f)) ∧ PySem.Within mA (fs.map (·.1))
  | .own _ => ∃ o, h.get? a = some o
  | .xd fs => ∃ mA, h.Ns1 a mA ∧ ∀ f, RelO (fs.lookup f) (mA f)
  | .rng lo hi => ∃ t u v, h.get? a = some { cls := .type "range", data := .fields #[.int lo t, .int hi u, .int 1 v] }
  | .frz o u => h.get? a = some o ∧ ObjOk H h a u
  | .tbl ps => h.get? a = some { cls := .none, data := .fields ps }
  | .met f x => h.get? a = some (PySem.W.methodObj (.ref f) (.ref x))
  | .ext φ => φ h ∧ (∃ o, h.get? a = some o) ∧ ∀ h1 h2 : Heap, φ h1 → (∀ o, h1.get? a = some o → h2.get? a = some o) → φ h2
def HOk (H : Hp) (h : Heap) : Prop := ∀ a o, H a = some o → ObjOk P w H h a o
end
section
variable {P : Program} {w : World} {H H' : Hp} {h h' : Heap} {a : Addr} {o : HO}
theorem ObjOk.lt (x : ObjOk P w H h a o) : a < h.objs.size := by
  cases o with
  | lst xs => obtain ⟨_, _, _, _, e⟩ := x; exact Heap.lt_size e
  | tup xs => obtain ⟨_, _, _, p⟩ := x; exact p.lt
  | dK kvs => obtain ⟨_, _, _, _, o, _, _, e, _⟩ := x; exact Heap.lt_size e
  | dT kvs => obtain ⟨_, _, _, _, o, _, _, e, _⟩ := x; exact Heap.lt_size e
  | set S n => obtain ⟨o, _, _, _, e, _⟩ := x; exact Heap.lt_size e
  | ins C dx fs => obtain ⟨_, _, _, e, _⟩ := x; exact Heap.lt_size e
  | own y => obtain ⟨_, e⟩ := x; exact Heap.lt_size e
  | xd fs => obtain ⟨_, ⟨_, _, _, e, _⟩, _⟩ := x; exact Heap.lt_size e
  | rng lo hi => obtain ⟨_, _, _, e⟩ := x; exact Heap.lt_size e
  | frz ob u => obtain ⟨e, _⟩ := x; exact Heap.lt_size e
  | tbl ps => exact Heap.lt_size (show h.get? a = some _ from x)
  | met f y => exact Heap.lt_size (show h.get? a = some _ from x)
  | ext φ => obtain ⟨_, ⟨_, e⟩, _⟩ := x; exact Heap.lt_size e
theorem Paired.mapP {α β : Type} {F G : α → β → Prop} : ∀ {l₁ : List α} {l₂ : List β}, Paired F l₁ l₂ → (∀ a b, F a b → G a b) → Paired G l₁ l₂
  | _, _, .nil, _ => .nil
  | _, _, .cons r t, f => .cons (f _ _ r) (Paired.mapP t f)
theorem ObjOk.stay (x : ObjOk P w H h a o) (k : ∀ b u, (b = a ∨ H b = some (.own a)) → h.get? b = some u → h'.get? b = some u)
    (ho : ∀ b, H b = some (.own a) → H' b = some (.own a)) (ht : ∀ b xs, H b = some (.tup xs) → H' b = some (.tup xs)) : ObjOk P w H' h' a o := by
  induction o with
  | lst xs => obtain ⟨z, its, n, r, e⟩ := x; exact ⟨z, its, n, r, k _ _ (.inl rfl) e⟩
  | tup xs => obtain ⟨z, its, r, ob, e, c⟩ := x; exact ⟨z, its, r, ob, k _ _ (.inl rfl) e, c⟩
  | dK kvs => obtain ⟨z, y, vs, r, ob, es, ep, e, c⟩ := x; exact ⟨z, y, vs, r, ob, es, ep, k _ _ (.inl rfl) e, c⟩
  | dT kvs =>
    obtain ⟨z, y, xs, r, ob, es, ep, e, c⟩ := x
    exact ⟨z, y, xs, Paired.mapP r fun p q z => ⟨z.1, ht _ _ z.2.1, z.2.2⟩, ob, es, ep, k _ _ (.inl rfl) e, c⟩
  | set S n => obtain ⟨ob, es, ep, t, e, c⟩ := x; exact ⟨ob, es, ep, t, k _ _ (.inl rfl) e, c⟩
  | ins C dx fs =>
    obtain ⟨d, z, ne, e, mA, ⟨od, es, ep, e2, c⟩, r⟩ := x
    exact ⟨ho _ d, z, ne, k _ _ (.inl rfl) e, mA, ⟨od, es, ep, k _ _ (.inr d) e2, c⟩, r⟩
  | own y => obtain ⟨ob, e⟩ := x; exact ⟨ob, k _ _ (.inl rfl) e⟩
  | xd fs => obtain ⟨mA, ⟨od, es, ep, e, c⟩, r⟩ := x; exact ⟨mA, ⟨od, es, ep, k _ _ (.inl rfl) e, c⟩, r⟩
  | rng lo hi => obtain ⟨t, u, v, e⟩ := x; exact ⟨t, u, v, k _ _ (.inl rfl) e⟩
  | frz ob u ih => obtain ⟨e, q⟩ := x; exact ⟨k _ _ (.inl rfl) e, ih q⟩
  | tbl ps =>
    have e : h.get? a = some { cls := .none, data := .fields ps } := x
    show h'.get? a = some { cls := .none, data := .fields ps }
    exact k a _ (.inl rfl) e
  | met f y =>
    have e : h.get? a = some (PySem.W.methodObj (.ref f) (.ref y)) := x
    show h'.get? a = some (PySem.W.methodObj (.ref f) (.ref y))
    exact k a _ (.inl rfl) e
  | ext φ => obtain ⟨p, ⟨o, e⟩, st⟩ := x; exact ⟨st _ _ p fun o q => k _ _ (.inl rfl) q, ⟨o, k _ _ (.inl rfl) e⟩, st⟩
theorem HOk.lt (x : HOk P w H h) (e : H a = some o) : a < h.objs.size := (x a o e).lt
theorem HOk.fresh (x : HOk P w H h) (e : h.objs.size ≤ a) : H a = none := by
  cases q : H a with
  | none => rfl
  | some u => exact absurd (Nat.lt_of_lt_of_le (x.lt q) e) (Nat.lt_irrefl _)
theorem HOk.kept (x : HOk P w H h) (k : ∀ b u, h.get? b = some u → h'.get? b = some u) : HOk P w H h' := fun a o e =>
  (x a o e).stay (fun b u _ q => k b u q) (fun _ q => q) fun _ _ q => q
theorem HOk.laid (x : HOk P w H h) (k : ∀ b u, h.get? b = some u → h'.get? b = some u) (hp : h.objs.size ≤ a) (new : ObjOk P w (upd H a o) h' a o) : HOk P w (upd H a o) h' := fun b u e => by
  have hn := x.fresh hp
  by_cases hb : b = a
  · subst hb; rw [upd_same] at e; cases e; exact new
  · rw [upd_ne hb] at e
    exact (x b u e).stay (fun c v _ q => k c v q) (fun c q => by rw [upd_ne (ne_of_none q hn)]; exact q) fun c xs q => by rw [upd_ne (ne_of_none q hn)]; exact q
end
def Rd (H : Hp) (a : Addr) (u : HO) : Prop := H a = some u ∨ ∃ o, H a = some (.frz o u)
theorem Rd.of {H : Hp} {a : Addr} {u : HO} (h : H a = some u) : Rd H a u := .inl h
theorem Rd.ok {P : Program} {w : World} {H : Hp} {h : Heap} {a : Addr} {u : HO} (r : Rd H a u) (x : HOk P w H h) : ObjOk P w H h a u := by
  rcases r with r | ⟨o, r⟩
  · exact x a u r
  · obtain ⟨_, q⟩ := x a _ r
    exact q
def Mut : Option HO → Prop
  | some (.lst _) => True
  | some (.dK _) => True
  | some (.dT _) => True
  | some (.set _ _) => True
  | some (.ins _ _ _) => True
  | some (.ext _) => True
  | _ => False
section
variable {P : Program} {w : World} {H : Hp} {h h' : Heap} {x e : Addr} {o' : HO}
theorem HOk.write (ok : HOk P w H h) (mu : Mut (H x)) (he : e = x ∨ H e = some (.own x)) (k : ∀ b u, b ≠ e → h.get? b = some u → h'.get? b = some u) (heo : ∃ u, h'.get? e = some u)
    (new : ObjOk P w (upd H x o') h' x o') : HOk P w (upd H x o') h' := fun b u q => by
  have nown : ∀ c y, H c = some (.own y) → c ≠ x := fun c y r z => by subst z; rw [r] at mu; exact mu
  have ntup : ∀ c xs, H c = some (.tup xs) → c ≠ x := fun c xs r z => by subst z; rw [r] at mu; exact mu
  by_cases hb : b = x
  · subst hb; rw [upd_same] at q; cases q; exact new
  · rw [upd_ne hb] at q
    by_cases hbe : b = e
    · have q' : H b = some (.own x) := by
        rcases he with z | z
        · exact absurd (hbe.trans z) hb
        · rw [hbe]; exact z
      rw [q] at q'; cases q'
      obtain ⟨v, hv⟩ := heo
      exact ⟨v, by rw [hbe]; exact hv⟩
    · refine (ok b u q).stay (fun c v hc r => k c v ?_ r) (fun c r => by rw [upd_ne (nown c b r)]; exact r) fun c xs r => by rw [upd_ne (ntup c xs r)]; exact r
      rcases hc with rfl | hc
      · exact hbe
      · rintro rfl
        rcases he with z | z
        · exact nown c b hc z
        · rw [hc] at z; cases z; exact hb rfl
end
structure Un (fs ex : List Addr) (H H' : Hp) (h h' : Heap) : Prop where
  keep : ∀ b o, h.get? b = some o → H b = none → b ∉ fs → b ∉ ex → h'.get? b = some o
  slot : ∀ b o, h.get? b = some o → H b = none → b ∈ fs → b ∉ ex → ∃ sl, h'.get? b = some { o with slots := sl }
  free : ∀ b o, h.get? b = some o → H b = none → b ∉ ex → H' b = none
  there : ∀ b o, h.get? b = some o → b ∉ ex → ∃ o', h'.get? b = some o'
  tups : ∀ b xs, H b = some (.tup xs) → H' b = some (.tup xs)
  frzs : ∀ b o u, H b = some (.frz o u) → H' b = some (.frz o u)
  tbls : ∀ b ps, H b = some (.tbl ps) → ∃ more, H' b = some (.tbl (ps ++ more))
section
variable {fs fs' ex ex' : List Addr} {H H1 H2 : Hp} {h h1 h2 h' : Heap} {a x e : Addr} {o : HO}
theorem Un.any (u : Un fs ex H H1 h h1) {b : Addr} {ob : Obj} (q : h.get? b = some ob) (n : H b = none) (hx : b ∉ ex) : ∃ sl, h1.get? b = some { ob with slots := sl } := by
  by_cases hb : b ∈ fs
  · exact u.slot b ob q n hb hx
  · exact ⟨ob.slots, u.keep b ob q n hb hx⟩
theorem Un.trans (a : Un fs ex H H1 h h1) (b : Un fs ex H1 H2 h1 h2) : Un fs ex H H2 h h2 where
  keep := fun c ob q n hc hx => b.keep c ob (a.keep c ob q n hc hx) (a.free c ob q n hx) hc hx
  slot := fun c ob q n hc hx => by
    obtain ⟨sl, e1⟩ := a.slot c ob q n hc hx
    obtain ⟨sl', e2⟩ := b.slot c _ e1 (a.free c ob q n hx) hc hx
    exact ⟨sl', e2⟩
  free := fun c ob q n hx => by
    obtain ⟨o', e1⟩ := a.there c ob q hx
    exact b.free c o' e1 (a.free c ob q n hx) hx
  there := fun c ob q hx => by
    obtain ⟨o', e1⟩ := a.there c ob q hx
    exact b.there c o' e1 hx
  tups := fun c xs q => b.tups c xs (a.tups c xs q)
  frzs := fun c ob xs q => b.frzs c ob xs (a.frzs c ob xs q)
  tbls := fun c ps q => by
    obtain ⟨m1, e1⟩ := a.tbls c ps q
    obtain ⟨m2, e2⟩ := b.tbls c _ e1
    exact ⟨m1 ++ m2, by rw [e2, Array.append_assoc]⟩
theorem Un.kept (k : ∀ b u, h.get? b = some u → h'.get? b = some u) : Un fs ex H H h h' :=
  ⟨fun b ob q _ _ _ => k b ob q, fun b ob q _ _ _ => ⟨ob.slots, k b ob q⟩, fun _ _ _ n _ => n, fun b ob q _ => ⟨ob, k b ob q⟩, fun _ _ q => q, fun _ _ _ q => q, fun _ ps q => ⟨#[], by rw [q]; simp⟩⟩
theorem Un.refl : Un fs ex H H h h := Un.kept fun _ _ q => q
theorem Un.laid (k : ∀ b u, h.get? b = some u → h'.get? b = some u) (hp : h.objs.size ≤ a) (hn : H a = none) : Un fs ex H (upd H a o) h h' where
  keep := fun b u q _ _ _ => k b u q
  slot := fun b u q _ _ _ => ⟨u.slots, k b u q⟩
  free := fun b u q n _ => by rw [upd_ne (Nat.ne_of_lt (Nat.lt_of_lt_of_le (Heap.lt_size q) hp))]; exact n
  there := fun b u q _ => ⟨u, k b u q⟩
  tups := fun b xs q => by rw [upd_ne (ne_of_none q hn)]; exact q
  frzs := fun b u xs q => by rw [upd_ne (ne_of_none q hn)]; exact q
  tbls := fun b ps q => ⟨#[], by rw [upd_ne (ne_of_none q hn), q]; simp⟩
theorem Un.write (mu : Mut (H x)) (he : e = x ∨ H e = some (.own x)) (k : ∀ b u, b ≠ e → h.get? b = some u → h'.get? b = some u) (heo : ∃ u, h'.get? e = some u) : Un fs ex H (upd H x o) h h' := by
  have hx : ∀ b, H b = none → b ≠ x := fun b n z => by subst z; rw [n] at mu; exact mu
  have hb : ∀ b, H b = none → b ≠ e := fun b n z => by
    subst z
    rcases he with r | r
    · exact hx b n r
    · rw [n] at r; cases r
  have hm : ∀ b u, H b = some u → ¬ Mut (some u) → b ≠ x := fun b u q nm z => by subst z; rw [q] at mu; exact nm mu
  refine ⟨fun b u q n _ _ => k b u (hb b n) q, fun b u q n _ _ => ⟨u.slots, k b u (hb b n) q⟩, fun b u q n _ => by rw [upd_ne (hx b n)]; exact n, fun b u q _ => ?_,
    fun b xs q => by rw [upd_ne (hm b _ q fun z => z)]; exact q, fun b u xs q => by rw [upd_ne (hm b _ q fun z => z)]; exact q, fun b ps q => ⟨#[], by rw [upd_ne (hm b _ q fun z => z), q]; simp⟩⟩
  by_cases hbe : b = e
  · subst hbe; exact heo
  · exact ⟨u, k b u hbe q⟩
theorem Un.mono (u : Un fs ex H H1 h h1) (hs : ∀ b ∈ fs, b ∈ fs') (hx : ∀ b ∈ ex, b ∈ ex') : Un fs' ex' H H1 h h1 :=
  ⟨fun b ob q n hb he => u.keep b ob q n (fun z => hb (hs b z)) fun z => he (hx b z), fun _ _ q n _ he => u.any q n fun z => he (hx _ z), fun b ob q n he => u.free b ob q n fun z => he (hx b z), fun b ob q he => u.there b ob q fun z => he (hx b z), u.tups, u.frzs, u.tbls⟩
end
def trk (h : Heap) (H : Hp) : List Addr := (List.range h.objs.size).filter fun a => (H a).isSome
def hidT (h : Heap) (H : Hp) : Heap := PySem.W.hideAll h (trk h H)
theorem hidT_size (h : Heap) (H : Hp) : (hidT h H).objs.size = h.objs.size := PySem.W.hideAll_size _ _
theorem hidT_get {h : Heap} {H : Hp} {b : Addr} {o : Obj} (e : h.get? b = some o) (n : H b = none) : (hidT h H).get? b = some o :=
  PySem.W.hideAll_get _ e fun hm => by
    have q : (H b).isSome = true := (List.mem_filter.mp hm).2
    rw [n] at q; simp at q
theorem of_hidT {h : Heap} {H : Hp} {b : Addr} {o : Obj} (e : (hidT h H).get? b = some o) : h.get? b = some o ∧ H b = none := by
  have e' : h.get? b = some o := PySem.W.of_hideAll (trk h H) e
  refine ⟨e', ?_⟩
  cases q : H b with
  | none => rfl
  | some x =>
    have hm : b ∈ trk h H := List.mem_filter.mpr ⟨List.mem_range.mpr (Heap.lt_size e'), by simp [q]⟩
    have z : (hidT h H).get? b = none := PySem.W.hideAll_none (trk h H) hm
    rw [z] at e; cases e
def allNews (g h : Heap) (L : Addr) : List (Addr × Obj) := (List.range h.objs.size).filterMap fun a => if a = L ∨ (g.get? a).isSome = true then none else (h.get? a).map fun o => (a, o)
def rest (g h : Heap) (L d : Addr) : List (Addr × Obj) := (allNews g h L).filter fun p => decide (p.1 ≠ d)
end L2
namespace L2
open PySem PySem.Spec PyProof.Rows
structure Mod (K : PySem.W.Frag) (mg : Str → Option Value) (base : Heap) : Prop where
  kin : K.In base
  glob : base.Ns mainGlobals mg
  blt : ∃ mb, base.Ns builtinsNs mb ∧ ∀ x : Str, x ≠ "__name__" → mb x = bootBuiltins x
  nolimit : base.NoLimit
structure Cx where
  prog : Program
  w : World
  K : PySem.W.Frag
  mg : Str → Option Value
  base : Heap
  A : Around
  N : List Str
  s_0 : Shared
  H_0 : Hp
  env : Env
  outer : List Env
  stack : List Env
  ex : List Addr
  fn : Str → Bool
  calm : Bool
  pn : List (Addr × Obj)
  xe : Value → Shared → Prop
def frs (l : List Env) : List Addr := l.filterMap (·.frame)
abbrev Cx.fs (X : Cx) : List Addr := frs X.outer
def Vis (sc : Scope) (x : Str) : Prop := sc.names.lookup x = some .local ∨ sc.names.lookup x = some .cell ∨ sc.names.lookup x = some .free
def Loc (sc : Scope) (x : Str) : Prop := sc.names.lookup x = some .local ∨ sc.names.lookup x = some .cell
def Look (env : Env) (h : Heap) (m : Str → Option Value) (x : Str) (u : Value) : Prop :=
  (env.kindOf x = some .local ∧ m x = some u) ∨ ((env.kindOf x = some .cell ∨ env.kindOf x = some .free) ∧ ∃ c, env.cells.lookup x = some c ∧ h.IsCell c (some u))
structure Cx.Ok (X : Cx) : Prop where
  mod : Mod X.K X.mg X.base
  kind : X.env.scope.kind = .function
  glob : X.env.globals = mainGlobals
  blt : X.env.builtins = builtinsNs
  above : X.s_0.heap.objs.size ≤ X.env.locals
  inj : ∀ x y c, X.env.cells.lookup x = some c → X.env.cells.lookup y = some c → x = y
  has : ∀ x, (X.env.kindOf x = some .cell ∨ X.env.kindOf x = some .free) → ∃ c, X.env.cells.lookup x = some c
  cab : ∀ x c, X.fn x = true → X.env.cells.lookup x = some c → X.s_0.heap.objs.size ≤ c
  hd : X.calm = true → X.A.handled = none
  frames : X.A.frames = some X.stack
  stk : X.stack = X.outer ∨ (X.stack = X.env :: X.outer ∧ X.env.frame = some X.env.locals)
  exf : ∀ b ∈ X.ex, b ≠ X.env.locals ∧ ∀ x c, X.env.cells.lookup x = some c → c ≠ b
  bs : ∀ b o, X.base.get? b = some o → X.s_0.heap.get? b = some o ∧ X.H_0 b = none
  bsz : X.base.objs.size ≤ X.s_0.heap.objs.size
  noex : ∀ b o, X.base.get? b = some o → b ∉ X.ex
  exfs : ∀ b ∈ X.ex, b ∉ X.fs
  funs : X.s_0.heap.FunFrames X.base X.outer
  frf : ∀ b ∈ X.fs, X.H_0 b = none
structure Inv (X : Cx) (pins : List (Addr × Obj)) (σ : List (Option V)) (H : Hp) (s : Shared) : Prop where
  ok : X.Ok
  os : s.os = X.s_0.os
  bare : AllBare s.gens
  base : Un X.fs X.ex X.H_0 H X.s_0.heap s.heap
  loc : ∃ m, s.heap.Ns X.env.locals m ∧ ∀ (i : Nat) (x : Str) (v : V), X.N[i]? = some x → σ[i]? = some (some v) → Vis X.env.scope x → ∃ u, RelV v u ∧ Look X.env s.heap m x u
  cell : ∀ x c, X.env.cells.lookup x = some c → ∃ v, s.heap.IsCell c v
  free : H X.env.locals = none
  freeC : ∀ x c, X.env.cells.lookup x = some c → H c = none
  pin : ∀ p ∈ X.pn ++ pins, s.heap.get? p.1 = some p.2 ∧ H p.1 = none ∧ p.1 ≠ X.env.locals ∧ p.1 ∉ X.fs ∧ ∀ v, p.2.data ≠ .cell v
  hok : HOk X.prog X.w H s.heap
  len : σ.length = X.N.length
section
variable {X : Cx} {pins : List (Addr × Obj)} {σ : List (Option V)} {H H' : Hp} {s : Shared} {h' : Heap}
theorem Cx.Ok.nofr (ok : X.Ok) {b : Addr} {o : Obj} (e : X.base.get? b = some o) : b ∉ X.fs := fun hb => by
  have := (ok.funs.mem hb).1
  rw [e] at this; cases this
theorem Inv.bs (I : Inv X pins σ H s) : ∀ b o, X.base.get? b = some o → s.heap.get? b = some o ∧ H b = none := fun b o e =>
  ⟨I.base.keep b o (I.ok.bs b o e).1 (I.ok.bs b o e).2 (I.ok.nofr e) (I.ok.noex b o e), I.base.free b o (I.ok.bs b o e).1 (I.ok.bs b o e).2 (I.ok.noex b o e)⟩
theorem Inv.bk (I : Inv X pins σ H s) : ∀ b o, X.base.get? b = some o → s.heap.get? b = some o := fun b o e => (I.bs b o e).1
theorem Inv.mod (I : Inv X pins σ H s) : Mod X.K X.mg X.base := I.ok.mod
theorem Inv.kIn (I : Inv X pins σ H s) : X.K.In s.heap := I.ok.mod.kin.keeps I.bk
theorem Inv.nolimit (I : Inv X pins σ H s) : s.heap.NoLimit := I.ok.mod.nolimit.keeps I.bk
theorem Inv.fr (I : Inv X pins σ H s) : ∃ m, Fr X.base X.env.locals s.heap m :=
  let ⟨m, hn, _⟩ := I.loc
  ⟨m, hn, I.bk, Nat.le_trans I.ok.bsz I.ok.above⟩
theorem Inv.lt (I : Inv X pins σ H s) : X.env.locals < s.heap.objs.size := let ⟨_, hn, _⟩ := I.loc; hn.lt
theorem Inv.sz (I : Inv X pins σ H s) : X.s_0.heap.objs.size ≤ s.heap.objs.size := Nat.le_trans I.ok.above (Nat.le_of_lt I.lt)
theorem Inv.nofs (I : Inv X pins σ H s) {a : Addr} (h : s.heap.objs.size ≤ a) : a ∉ X.fs := fun hb => by
  obtain ⟨_, o, ho, _⟩ := I.ok.funs.mem hb
  exact absurd (Nat.lt_of_lt_of_le (Heap.lt_size ho) (Nat.le_trans I.sz h)) (Nat.lt_irrefl _)
theorem Inv.cne (I : Inv X pins σ H s) : ∀ x c, X.env.cells.lookup x = some c → c ≠ X.env.locals := fun x c e z => by
  obtain ⟨v, o, ho, hd⟩ := I.cell x c e
  obtain ⟨m, ⟨o', es, ep, ho', hd', _⟩, _⟩ := I.loc
  rw [z, ho'] at ho; cases ho; rw [hd'] at hd; cases hd
theorem Inv.funs (I : Inv X pins σ H s) : s.heap.FunFrames X.base X.outer := by
  have all : ∀ (l : List Env), (∀ b ∈ frs l, b ∈ X.fs) → X.s_0.heap.FunFrames X.base l → s.heap.FunFrames X.base l := by
    intro l
    induction l with
    | nil => intro _ _; trivial
    | cons env r ih =>
      intro hs hl
      obtain ⟨hk, ⟨L, o, hf, hn, ho, hd⟩, hr⟩ := hl
      have hL : L ∈ X.fs := hs L (by unfold frs; rw [List.filterMap_cons, hf]; exact List.mem_cons_self)
      obtain ⟨sl, e⟩ := I.base.slot L o ho (I.ok.frf L hL) hL fun z => I.ok.exfs L z hL
      exact ⟨hk, ⟨L, _, hf, hn, e, hd⟩, ih (fun b hb => hs b (by unfold frs; rw [List.filterMap_cons, hf]; exact List.mem_cons_of_mem _ hb)) hr⟩
  exact all X.outer (fun _ hb => hb) I.ok.funs
theorem Inv.stack (I : Inv X pins σ H s) : s.heap.FunFrames X.base X.stack := by
  rcases I.ok.stk with e | ⟨e, hf⟩
  · rw [e]; exact I.funs
  · rw [e]
    obtain ⟨m, hn, _⟩ := I.loc
    refine .cons (by rw [I.ok.kind]; decide) hf hn ?_ I.funs
    exact Heap.get?_none_of_le (Nat.le_trans I.ok.bsz I.ok.above)
theorem Inv.stkSub (I : Inv X pins σ H s) : ∀ b ∈ frs X.stack, b ∈ X.env.locals :: X.fs := fun b hb => by
  rcases I.ok.stk with e | ⟨e, hf⟩
  · rw [e] at hb; exact List.mem_cons_of_mem _ hb
  · rw [e] at hb
    unfold frs at hb
    rw [List.filterMap_cons, hf] at hb
    exact hb
theorem Inv.stkFree (I : Inv X pins σ H s) : ∀ b ∈ frs X.stack, H b = none := fun b hb => by
  rcases List.mem_cons.mp (I.stkSub b hb) with e | hb
  · rw [e]; exact I.free
  · obtain ⟨_, o, ho, _⟩ := I.ok.funs.mem hb
    exact I.base.free b o ho (I.ok.frf b hb) fun z => I.ok.exfs b z hb
theorem Inv.step {g' : Array GenState} {t' : Nat} {d' : Drawn} {ch : List Addr} (I : Inv X pins σ H s)
    (hch : ∀ b ∈ ch, (b ∈ X.ex ∨ X.s_0.heap.objs.size ≤ b) ∧ b ≠ X.env.locals ∧ (∀ x c, X.env.cells.lookup x = some c → c ≠ b) ∧ ∀ p ∈ X.pn ++ pins, p.1 ≠ b)
    (keep : ∀ b o, b ≠ X.env.locals → b ∉ X.fs → b ∉ ch → s.heap.get? b = some o → H b = none → h'.get? b = some o)
    (slot : ∀ b o, b ≠ X.env.locals → b ∈ X.fs → b ∉ ch → s.heap.get? b = some o → H b = none → ∃ sl, h'.get? b = some { o with slots := sl }) (free : ∀ b o, b ∉ ch → s.heap.get? b = some o → H b = none → H' b = none)
    (there : ∀ b o, b ∉ ch → s.heap.get? b = some o → ∃ o', h'.get? b = some o')
    (tups : ∀ b xs, H b = some (.tup xs) → H' b = some (.tup xs)) (frzs : ∀ b o u, H b = some (.frz o u) → H' b = some (.frz o u)) (tbls : ∀ b ps, H b = some (.tbl ps) → ∃ more, H' b = some (.tbl (ps ++ more)))
    (ns : ∀ m, s.heap.Ns X.env.locals m → h'.Ns X.env.locals m) (hok : HOk X.prog X.w H' h') (hg : AllBare g') :
    Inv X pins σ H' { s with heap := h', gens := g', drawn := d', toks := t' } := by
  have neL : ∀ b o, X.s_0.heap.get? b = some o → b ≠ X.env.locals := fun b o e => Nat.ne_of_lt (Nat.lt_of_lt_of_le (Heap.lt_size e) I.ok.above)
  have neC : ∀ b o, X.s_0.heap.get? b = some o → b ∉ X.ex → b ∉ ch := fun b o e hx hb => by
    rcases (hch b hb).1 with z | z
    · exact hx z
    · exact absurd (Nat.lt_of_lt_of_le (Heap.lt_size e) z) (Nat.lt_irrefl _)
  have cellK : ∀ x c, X.env.cells.lookup x = some c → ∀ v, s.heap.IsCell c v → h'.IsCell c v := fun x c e v ⟨o, ho, hd⟩ => by
    have nch : c ∉ ch := fun z => (hch c z).2.2.1 x c e rfl
    by_cases hc : c ∈ X.fs
    · obtain ⟨sl, q⟩ := slot c o (I.cne x c e) hc nch ho (I.freeC x c e)
      exact ⟨_, q, hd⟩
    · exact ⟨o, keep c o (I.cne x c e) hc nch ho (I.freeC x c e), hd⟩
  refine ⟨I.ok, I.os, hg, ⟨fun b o e n hb hx => ?_, fun b o e n hb hx => ?_, fun b o e n hx => ?_, fun b o e hx => ?_, fun b xs e => tups b xs (I.base.tups b xs e), fun b o xs e => frzs b o xs (I.base.frzs b o xs e), fun b ps e => ?_⟩, ?_, fun x c e => ?_, ?_, fun x c e => ?_, fun p hp => ?_, hok, I.len⟩
  · exact keep b o (neL b o e) hb (neC b o e hx) (I.base.keep b o e n hb hx) (I.base.free b o e n hx)
  · obtain ⟨sl, e1⟩ := I.base.slot b o e n hb hx
    obtain ⟨sl', e2⟩ := slot b _ (neL b o e) hb (neC b o e hx) e1 (I.base.free b o e n hx)
    exact ⟨sl', e2⟩
  · obtain ⟨o', e1⟩ := I.base.there b o e hx
    exact free b o' (neC b o e hx) e1 (I.base.free b o e n hx)
  · obtain ⟨o', e1⟩ := I.base.there b o e hx
    exact there b o' (neC b o e hx) e1
  · obtain ⟨m1, e1⟩ := I.base.tbls b ps e
    obtain ⟨m2, e2⟩ := tbls b _ e1
    exact ⟨m1 ++ m2, by rw [e2, Array.append_assoc]⟩
  · obtain ⟨m, hn, hl⟩ := I.loc
    refine ⟨m, ns m hn, fun i x v e1 e2 e3 => ?_⟩
    obtain ⟨u, r, l⟩ := hl i x v e1 e2 e3
    refine ⟨u, r, ?_⟩
    rcases l with l | ⟨k, c, e, z⟩
    · exact .inl l
    · exact .inr ⟨k, c, e, cellK x c e _ z⟩
  · obtain ⟨v, z⟩ := I.cell x c e
    exact ⟨v, cellK x c e v z⟩
  · obtain ⟨m, ⟨o, _, _, ho, _⟩, _⟩ := I.loc
    exact free _ o (fun z => (hch _ z).2.1 rfl) ho I.free
  · obtain ⟨v, o, ho, hd⟩ := I.cell x c e
    exact free c o (fun z => (hch c z).2.2.1 x c e rfl) ho (I.freeC x c e)
  · obtain ⟨e, n, ne, nf, d⟩ := I.pin p hp
    have nch : p.1 ∉ ch := fun z => (hch p.1 z).2.2.2 p hp rfl
    exact ⟨keep p.1 p.2 ne nf nch e n, free p.1 p.2 nch e n, ne, nf, d⟩
theorem Inv.un {t' : Nat} (I : Inv X pins σ H s) (u : Un X.fs [] H H' s.heap h') (hok : HOk X.prog X.w H' h') : Inv X pins σ H' { s with heap := h', toks := t' } := by
  obtain ⟨m, ⟨o, es, ep, ho, r⟩, _⟩ := id I.loc
  obtain ⟨sl, hL⟩ := u.any ho I.free (by simp)
  exact I.step (g' := s.gens) (d' := s.drawn) (ch := []) (fun _ z => nomatch z) (fun b o _ hb _ e n => u.keep b o e n hb (by simp)) (fun b o _ hb _ e n => u.slot b o e n hb (by simp)) (fun b o _ e n => u.free b o e n (by simp)) (fun b o _ e => u.there b o e (by simp)) u.tups u.frzs u.tbls (fun m' hm => by
    obtain ⟨o', es', ep', ho', r'⟩ := hm
    rw [ho] at ho'; cases ho'
    exact ⟨_, es', ep', hL, r'⟩) hok I.bare
theorem Inv.call {g' : Array GenState} {t' : Nat} {d' : Drawn} {ch : List Addr} (I : Inv X pins σ H s) (u : Un (frs X.stack) ch H H' s.heap h') (hok : HOk X.prog X.w H' h') (hg : AllBare g')
    (hch : ∀ b ∈ ch, (b ∈ X.ex ∨ X.s_0.heap.objs.size ≤ b) ∧ b ≠ X.env.locals ∧ (∀ x c, X.env.cells.lookup x = some c → c ≠ b) ∧ ∀ p ∈ X.pn ++ pins, p.1 ≠ b) :
    Inv X pins σ H' { s with heap := h', gens := g', drawn := d', toks := t' } := by
  obtain ⟨m, ⟨o, es, ep, ho, r⟩, _⟩ := id I.loc
  obtain ⟨sl, hL⟩ := u.any ho I.free fun z => (hch _ z).2.1 rfl
  exact I.step (ch := ch) hch (fun b o hL hb hc e n => u.keep b o e n (fun z => (List.mem_cons.mp (I.stkSub b z)).elim hL hb) hc) (fun b o _ _ hc e n => u.any e n hc) (fun b o hc e n => u.free b o e n hc) (fun b o hc e => u.there b o e hc) u.tups u.frzs u.tbls (fun m' hm => by
    obtain ⟨o', es', ep', ho', r'⟩ := hm
    rw [ho] at ho'; cases ho'
    exact ⟨_, es', ep', hL, r'⟩) hok hg
theorem Inv.turned {t' : Nat} {it : Addr} (I : Inv X pins σ H s) (k : ∀ b o, b ≠ it → s.heap.get? b = some o → h'.get? b = some o) (hn : H it = none) (hL : it ≠ X.env.locals)
    (h1 : it ∈ X.ex ∨ X.s_0.heap.objs.size ≤ it) (h2 : ∀ x c, X.env.cells.lookup x = some c → c ≠ it) (h3 : ∀ p ∈ X.pn ++ pins, p.1 ≠ it) : Inv X pins σ H { s with heap := h', toks := t' } := by
  have nit : ∀ b u, H b = some u → b ≠ it := fun b u e z => by rw [z, hn] at e; cases e
  refine I.step (g' := s.gens) (d' := s.drawn) (ch := [it]) (fun b hb => ?_) (fun b o _ _ hc e _ => k b o (fun z => hc (by simp [z])) e) (fun b o _ _ hc e _ => ⟨o.slots, k b o (fun z => hc (by simp [z])) e⟩) (fun _ _ _ _ n => n)
    (fun b o hc e => ⟨o, k b o (fun z => hc (by simp [z])) e⟩) (fun _ _ e => e) (fun _ _ _ e => e) (fun b ps e => ⟨#[], by rw [e]; simp⟩) (fun m hm => ?_) (fun b u e => ?_) I.bare
  · have e : b = it := by simpa using hb
    subst e
    exact ⟨h1, hL, h2, h3⟩
  · obtain ⟨o, es, ep, ho, r⟩ := hm
    exact ⟨o, es, ep, k _ o (Ne.symm hL) ho, r⟩
  · refine (I.hok b u e).stay (fun c v hc q => k c v ?_ q) (fun _ q => q) fun _ _ q => q
    rcases hc with z | z
    · rw [z]; exact nit b u e
    · exact nit c _ z
theorem Inv.tok (I : Inv X pins σ H s) (t : Nat) : Inv X pins σ H { s with toks := t } := I.un (h' := s.heap) (t' := t) Un.refl I.hok
theorem Inv.kept {t' : Nat} (I : Inv X pins σ H s) (k : ∀ b u, s.heap.get? b = some u → h'.get? b = some u) : Inv X pins σ H { s with heap := h', toks := t' } := I.un (Un.kept k) (I.hok.kept k)
theorem Inv.laid {a : Addr} {o : HO} {t' : Nat} (I : Inv X pins σ H s) (k : ∀ b u, s.heap.get? b = some u → h'.get? b = some u) (hp : s.heap.objs.size ≤ a) (new : ObjOk X.prog X.w (upd H a o) h' a o) :
    Inv X pins σ (upd H a o) { s with heap := h', toks := t' } := I.un (Un.laid k hp (I.hok.fresh hp)) (I.hok.laid k hp new)
theorem Inv.write {x e : Addr} {o : HO} {t' : Nat} (I : Inv X pins σ H s) (mu : Mut (H x)) (he : e = x ∨ H e = some (.own x)) (k : ∀ b u, b ≠ e → s.heap.get? b = some u → h'.get? b = some u) (heo : ∃ u, h'.get? e = some u)
    (new : ObjOk X.prog X.w (upd H x o) h' x o) : Inv X pins σ (upd H x o) { s with heap := h', toks := t' } := I.un (Un.write mu he k heo) (I.hok.write mu he k heo new)
theorem Inv.weak {σ' : List (Option V)} (I : Inv X pins σ H s) (hl : σ'.length = σ.length) (w : ∀ (i : Nat) v, σ'[i]? = some (some v) → σ[i]? = some (some v)) : Inv X pins σ' H s :=
  ⟨I.ok, I.os, I.bare, I.base, let ⟨m, hn, hl'⟩ := I.loc; ⟨m, hn, fun i x v e1 e2 e3 => hl' i x v e1 (w i v e2) e3⟩, I.cell, I.free, I.freeC, I.pin, I.hok, hl.trans I.len⟩
theorem Inv.pins_of {pins' : List (Addr × Obj)} (I : Inv X pins σ H s) (h : ∀ p ∈ pins', s.heap.get? p.1 = some p.2 ∧ H p.1 = none ∧ p.1 ≠ X.env.locals ∧ p.1 ∉ X.fs ∧ ∀ v, p.2.data ≠ .cell v) : Inv X pins' σ H s :=
  ⟨I.ok, I.os, I.bare, I.base, I.loc, I.cell, I.free, I.freeC, fun p hp => (List.mem_append.mp hp).elim (fun z => I.pin p (List.mem_append_left _ z)) (h p), I.hok, I.len⟩
theorem nodup_ix {N : List Str} (hN : N.Nodup) {i j : Nat} {x : Str} (a : N[i]? = some x) (b : N[j]? = some x) : i = j := by
  obtain ⟨h1, e1⟩ := List.getElem?_eq_some_iff.mp a
  obtain ⟨h2, e2⟩ := List.getElem?_eq_some_iff.mp b
  exact (List.getElem_inj hN).mp (e1.trans e2.symm)
theorem store_ok2 {M : Model} {A : Around} {E : Value → Shared → Prop} {i : Nat} {x : Str} {v : V} {u : Value} {Q : Unit → Shared → Prop} (I : Inv X pins σ H s) (hN : X.N.Nodup) (hi : X.N[i]? = some x) (hx : Loc X.env.scope x) (r : RelV v u)
    (h : ∀ s', Inv X pins (σ.set i (some v)) H s' → (∃ a, Heap.SameBut a s.heap s'.heap ∧ (a = X.env.locals ∨ X.env.cells.lookup x = some a)) → Q () s') (hf : X.fn x = true ∨ X.env.scope.names.lookup x = some .local := by first | exact .inl rfl | exact .inr rfl | assumption) : wpAny M A (storeName X.env x u) Q E s := by
  obtain ⟨m, hn, hl⟩ := id I.loc
  have hcls : (X.env.scope.kind == .class || (X.env.scope.kind == .module && X.env.locals != X.env.globals)) = false := by rw [I.ok.kind]; rfl
  have hiσ : i < σ.length := by rw [I.len]; exact (List.getElem?_eq_some_iff.mp hi).1
  have cne := I.cne
  have tracked : ∀ {a : Addr} {h' : Heap}, (∃ o, s.heap.get? a = some o ∧ H a = none) → Heap.SameBut a s.heap h' → HOk X.prog X.w H h' := fun {a h'} ha hs b ob e => by
    obtain ⟨_, _, hfree⟩ := ha
    refine (I.hok b ob e).stay (fun c w' hc q => (hs.2 c ?_).trans q) (fun _ q => q) fun _ _ q => q
    rintro rfl
    rcases hc with rfl | hc
    · rw [hfree] at e; cases e
    · rw [hfree] at hc; cases hc
  rcases hx with hk | hk
  · refine wpAny_storeName_local hk hn (fun h' hn' hs => ?_) hcls
    obtain ⟨oL, _, _, hoL, _⟩ := id hn
    refine h _ ⟨I.ok, I.os, I.bare, ⟨fun b o e n hb hx => ?_, fun b o e n hb hx => ?_, I.base.free, fun b o e hx => ?_, I.base.tups, I.base.frzs, I.base.tbls⟩, ⟨_, hn', fun j y v' e1 e2 e3 => ?_⟩, fun y c e => ?_, I.free, I.freeC, fun p hp => ?_, tracked ⟨oL, hoL, I.free⟩ hs, by simpa using I.len⟩ ⟨_, hs, .inl rfl⟩
    · exact (hs.2 b (Nat.ne_of_lt (Nat.lt_of_lt_of_le (Heap.lt_size e) I.ok.above))).trans (I.base.keep b o e n hb hx)
    · obtain ⟨sl, e1⟩ := I.base.slot b o e n hb hx
      exact ⟨sl, (hs.2 b (Nat.ne_of_lt (Nat.lt_of_lt_of_le (Heap.lt_size e) I.ok.above))).trans e1⟩
    · obtain ⟨o', e1⟩ := I.base.there b o e hx
      exact ⟨o', (hs.2 b (Nat.ne_of_lt (Nat.lt_of_lt_of_le (Heap.lt_size e) I.ok.above))).trans e1⟩
    · by_cases hj : j = i
      · subst hj
        rw [hi] at e1; cases e1
        rw [List.getElem?_set_self hiσ] at e2
        cases e2
        exact ⟨u, r, .inl ⟨hk, by simp⟩⟩
      · rw [List.getElem?_set_ne (Ne.symm hj)] at e2
        obtain ⟨u', r', q⟩ := hl j y v' e1 e2 e3
        refine ⟨u', r', ?_⟩
        rcases q with ⟨k, e⟩ | ⟨k, c, e, z⟩
        · refine .inl ⟨k, ?_⟩
          have : y ≠ x := fun e => hj (nodup_ix hN e1 (e ▸ hi))
          simp [this, e]
        · exact .inr ⟨k, c, e, z.sameBut hs (cne y c e)⟩
    · obtain ⟨w', z⟩ := I.cell y c e
      exact ⟨w', z.sameBut hs (cne y c e)⟩
    · obtain ⟨e, n, ne, nf, d⟩ := I.pin p hp
      exact ⟨(hs.2 p.1 ne).trans e, n, ne, nf, d⟩
  · have hfn : X.fn x = true := by
      rcases hf with z | z
      · exact z
      · rw [z] at hk; cases hk
    obtain ⟨c, hc⟩ := I.ok.has x (.inl hk)
    obtain ⟨w', z⟩ := I.cell x c hc
    refine wpAny_storeName_cell I.ok.kind hk hc z (fun h' hc' hs => ?_)
    obtain ⟨oc, hoc, hocd⟩ := id z
    refine h { s with heap := h' } ⟨I.ok, I.os, I.bare, ⟨fun b o e n hb hx => ?_, fun b o e n hb hx => ?_, I.base.free, fun b o e hx => ?_, I.base.tups, I.base.frzs, I.base.tbls⟩, ⟨m, hn.sameBut hs (Ne.symm (cne x c hc)), fun j y v' e1 e2 e3 => ?_⟩, fun y c' e => ?_, I.free, I.freeC, fun p hp => ?_, tracked ⟨oc, hoc, I.freeC x c hc⟩ hs, by simpa using I.len⟩ ⟨c, hs, .inr hc⟩
    · exact (hs.2 b (Nat.ne_of_lt (Nat.lt_of_lt_of_le (Heap.lt_size e) (I.ok.cab x c hfn hc)))).trans (I.base.keep b o e n hb hx)
    · obtain ⟨sl, e1⟩ := I.base.slot b o e n hb hx
      exact ⟨sl, (hs.2 b (Nat.ne_of_lt (Nat.lt_of_lt_of_le (Heap.lt_size e) (I.ok.cab x c hfn hc)))).trans e1⟩
    · obtain ⟨o', e1⟩ := I.base.there b o e hx
      exact ⟨o', (hs.2 b (Nat.ne_of_lt (Nat.lt_of_lt_of_le (Heap.lt_size e) (I.ok.cab x c hfn hc)))).trans e1⟩
    · by_cases hj : j = i
      · subst hj
        rw [hi] at e1; cases e1
        rw [List.getElem?_set_self hiσ] at e2
        cases e2
        exact ⟨u, r, .inr ⟨.inl hk, c, hc, hc'⟩⟩
      · rw [List.getElem?_set_ne (Ne.symm hj)] at e2
        obtain ⟨u', r', q⟩ := hl j y v' e1 e2 e3
        refine ⟨u', r', ?_⟩
        rcases q with q | ⟨k, c', e, z'⟩
        · exact .inl q
        · refine .inr ⟨k, c', e, z'.sameBut hs ?_⟩
          rintro rfl
          exact hj (nodup_ix hN e1 (I.ok.inj _ _ _ e hc ▸ hi))
    · by_cases hcc : c' = c
      · subst hcc; exact ⟨_, hc'⟩
      · obtain ⟨w2, z2⟩ := I.cell y c' e
        exact ⟨w2, z2.sameBut hs hcc⟩
    · obtain ⟨e, n, ne, nf, d⟩ := I.pin p hp
      refine ⟨(hs.2 p.1 ?_).trans e, n, ne, nf, d⟩
      intro q
      rw [q, hoc] at e
      have q' : oc = p.2 := Option.some.inj e
      exact d w' (by rw [← q']; exact hocd)
theorem store_ok {M : Model} {A : Around} {E : Value → Shared → Prop} {i : Nat} {x : Str} {v : V} {u : Value} {Q : Unit → Shared → Prop} (I : Inv X pins σ H s) (hN : X.N.Nodup) (hi : X.N[i]? = some x) (hx : Loc X.env.scope x) (r : RelV v u)
    (h : ∀ s', Inv X pins (σ.set i (some v)) H s' → Q () s') (hf : X.fn x = true ∨ X.env.scope.names.lookup x = some .local := by first | exact .inl rfl | exact .inr rfl | assumption) : wpAny M A (storeName X.env x u) Q E s :=
  store_ok2 I hN hi hx r (fun s' I' _ => h s' I') hf
theorem Inv.call' {s' : Shared} {ch : List Addr} (I : Inv X pins σ H s) (ho : s'.os = s.os) (u : Un (frs X.stack) ch H H' s.heap s'.heap) (hok : HOk X.prog X.w H' s'.heap) (hg : AllBare s'.gens)
    (hch : ∀ b ∈ ch, (b ∈ X.ex ∨ X.s_0.heap.objs.size ≤ b) ∧ b ≠ X.env.locals ∧ (∀ x c, X.env.cells.lookup x = some c → c ≠ b) ∧ ∀ p ∈ X.pn ++ pins, p.1 ≠ b) : Inv X pins σ H' s' := by
  obtain ⟨h', g', d', t', o'⟩ := s'
  have e : o' = s.os := ho
  subst e
  exact I.call (g' := g') (t' := t') (d' := d') u hok hg hch
end
abbrev XK := Value → Option Addr → Hp → Prop
abbrev St := List (Option V)
abbrev VK := V → Hp → Prop
abbrev TE := St → Hp → VK → Prop
abbrev TT := St → Hp → (Bool → Hp → Prop) → Prop
abbrev TA := St → Hp → (List V → Hp → Prop) → Prop
structure Ends where
  nx : St → Hp → Prop
  rt : VK
  bk : St → Hp → Prop := fun _ _ => False
  ct : St → Hp → Prop := fun _ _ => False
abbrev TS := Ends → St → Hp → Prop
def EP (X : Cx) (pins : List (Addr × Obj)) (σ : St) (Q : VK) (u : Value) (s' : Shared) : Prop := ∃ v H', Inv X pins σ H' s' ∧ RelV v u ∧ Q v H'
def TP (X : Cx) (pins : List (Addr × Obj)) (σ : St) (Q : Bool → Hp → Prop) (b : Bool) (s' : Shared) : Prop := ∃ H', Inv X pins σ H' s' ∧ Q b H'
def AP (X : Cx) (pins : List (Addr × Obj)) (σ : St) (Q : List V → Hp → Prop) (us : List Value) (s' : Shared) : Prop := ∃ vs H', Inv X pins σ H' s' ∧ Vals vs us ∧ Q vs H'
def SP (X : Cx) (pins : List (Addr × Obj)) (D : Ends) (f : Flow) (s' : Shared) : Prop :=
  match f with
  | .next => ∃ σ' H', Inv X pins σ' H' s' ∧ D.nx σ' H'
  | .brk => ∃ σ' H', Inv X pins σ' H' s' ∧ D.bk σ' H'
  | .cont => ∃ σ' H', Inv X pins σ' H' s' ∧ D.ct σ' H'
  | .ret u => ∃ v σ' H', Inv X pins σ' H' s' ∧ RelV v u ∧ D.rt v H'
def PE (X : Cx) (e : Expr) (t : TE) : Prop :=
  ∀ (pins : List (Addr × Obj)) (s : Shared) (σ : St) (H : Hp) (Q : VK), Inv X pins σ H s → t σ H Q → wpAny (model X.prog X.w) X.A (eval e X.env) (EP X pins σ Q) X.xe s
def PT (X : Cx) (e : Expr) (t : TT) : Prop :=
  ∀ (pins : List (Addr × Obj)) (s : Shared) (σ : St) (H : Hp) (Q : Bool → Hp → Prop), Inv X pins σ H s → t σ H Q → wpAny (model X.prog X.w) X.A (isTrue e X.env (eval e X.env)) (TP X pins σ Q) X.xe s
def PW (X : Cx) (e : Expr) (t : TT) : Prop :=
  ∀ (whole : Sem Value) (pins : List (Addr × Obj)) (s : Shared) (σ : St) (H : Hp) (Q : Bool → Hp → Prop), Inv X pins σ H s → t σ H Q → wpAny (model X.prog X.w) X.A (isTrue e X.env whole) (TP X pins σ Q) X.xe s
theorem PW.pt {X : Cx} {e : Expr} {t : TT} (h : PW X e t) : PT X e t := h _
def PA (X : Cx) (es : List Expr) (t : TA) : Prop :=
  ∀ (pos : Pos) (pins : List (Addr × Obj)) (s : Shared) (σ : St) (H : Hp) (Q : List V → Hp → Prop), Inv X pins σ H s → t σ H Q → wpAny (model X.prog X.w) X.A (spliced (backTo pos (starEach es X.env))) (AP X pins σ Q) X.xe s
def PS (X : Cx) (st : Stmt) (t : TS) : Prop :=
  ∀ (pins : List (Addr × Obj)) (s : Shared) (σ : St) (H : Hp) (D : Ends), Inv X pins σ H s → t D σ H → wpAny (model X.prog X.w) X.A (exec st X.env) (SP X pins D) X.xe s
def PSs (X : Cx) (st : List Stmt) (t : TS) : Prop :=
  ∀ (pins : List (Addr × Obj)) (s : Shared) (σ : St) (H : Hp) (D : Ends), Inv X pins σ H s → t D σ H → wpAny (model X.prog X.w) X.A (execs st X.env) (SP X pins D) X.xe s
theorem thn {α : Type} {t : Sem α} {Q Q' : α → Shared → Prop} {M : Model} {A : Around} {E : Value → Shared → Prop} {s : Shared} (h : wpAny M A t Q E s) (hQ : ∀ a s, Q a s → Q' a s) : wpAny M A t Q' E s := wpAny_mono h hQ fun _ _ x => x
end L2
namespace L2
open PySem PySem.Spec PyProof.Rows
section
variable {X : Cx}
def tVar (i : Nat) : TE := fun σ H Q => ∃ v, σ[i]? = some (some v) ∧ Q v H
def tC (v : V) : TE := fun _ H Q => Q v H
theorem pe_var {i : Nat} {x : Str} {pos : Pos} (hN : X.N[i]? = some x) (hv : Vis X.env.scope x) (hd : (x == ("__debug__" : Str)) = false := by decide) (hcd : (x == ("__classdict__" : Str)) = false := by decide) : PE X (.Name x pos) (tVar i) := by
  intro pins s σ H Q I h
  obtain ⟨v, e, h⟩ := h
  obtain ⟨m, hn, hl⟩ := I.loc
  obtain ⟨u, r, l⟩ := hl i x v hN e hv
  have fin : EP X pins σ Q u s := ⟨v, H, I, r, h⟩
  rcases l with ⟨hk, hm⟩ | ⟨hk, c, hc, hcell⟩
  · exact wpAny_Name (wpAny_loadName_local I.ok.kind hk hn hm fin) hd
  · rcases hk with hk | hk
    · exact wpAny_Name (wpAny_loadName_cell I.ok.kind hk hc hcell fin) hd
    · exact wpAny_Name (wpAny_loadName_free I.ok.kind hk hc hcell fin hcd) hd
theorem pe_int {i j pos} : PE X (.Constant (.int i) j pos) (tC (.int i)) := fun _ _ _ H _ I h => wpAny_Constant_int ⟨.int i, H, I.tok _, ⟨_, rfl⟩, h⟩
theorem pe_bl {b j pos} : PE X (.Constant (.bool b) j pos) (tC (.bl b)) := fun _ _ _ H _ I h => Constant_bool ⟨.bl b, H, I, rfl, h⟩
theorem pe_non {j pos} : PE X (.Constant .none j pos) (tC .non) := fun _ _ _ H _ I h => Constant_none ⟨.non, H, I, rfl, h⟩
def Gl (X : Cx) (x : Str) : Prop := X.env.kindOf x = some .globalImplicit
theorem ld_glob {E : Value → Shared → Prop} {pins : List (Addr × Obj)} {s : Shared} {σ : St} {H : Hp} {x : Str} {u : Value} {pos : Pos} {Q : Value → Shared → Prop} (I : Inv X pins σ H s) (hg : Gl X x) (hm : X.mg x = some u) (h : Q u s)
    (hd : (x == ("__debug__" : Str)) = false := by decide) : wpAny (model X.prog X.w) X.A (eval (.Name x pos) X.env) Q E s :=
  Calls.Name_function_global I.ok.kind hg (Calls.loadGlobal_global (by rw [I.ok.glob]; exact I.mod.glob.keeps I.bk) hm h) hd
theorem ld_blt {E : Value → Shared → Prop} {pins : List (Addr × Obj)} {s : Shared} {σ : St} {H : Hp} {x : Str} {u : Value} {pos : Pos} {Q : Value → Shared → Prop} (I : Inv X pins σ H s) (hg : Gl X x) (hm : X.mg x = none) (hv : bootBuiltins x = some u) (h : Q u s)
    (hn : x ≠ "__name__" := by decide) (hd : (x == ("__debug__" : Str)) = false := by decide) : wpAny (model X.prog X.w) X.A (eval (.Name x pos) X.env) Q E s := by
  obtain ⟨mb, h1, h2⟩ := I.mod.blt
  exact Calls.Name_function_global I.ok.kind hg (Calls.loadGlobal_builtin (by rw [I.ok.glob]; exact I.mod.glob.keeps I.bk) hm (by rw [I.ok.blt]; exact h1.keeps I.bk) ((h2 x hn).trans hv) h) hd
theorem pe_glob {x : Str} {v : V} {u : Value} {pos : Pos} (hg : Gl X x) (hm : X.mg x = some u) (r : RelV v u) (hd : (x == ("__debug__" : Str)) = false := by decide) : PE X (.Name x pos) (tC v) :=
  fun _ _ _ H _ I h => ld_glob I hg hm ⟨v, H, I, r, h⟩ hd
variable {a b : Expr} {ta tb : TE} {pos : Pos}
def PC (X : Cx) (op : CmpOp) (a b : Expr) (t : TE) : Prop :=
  ∀ (pins : List (Addr × Obj)) (s : Shared) (σ : St) (H : Hp) (Q : VK), Inv X pins σ H s → t σ H Q →
    wpAny (model X.prog X.w) X.A (eval a X.env) (fun v s₁ => wpAny (model X.prog X.w) X.A (eval b X.env) (fun u s₂ => wpAny (model X.prog X.w) X.A (compareOp op v u) (EP X pins σ Q) X.xe s₂) X.xe s₁) X.xe s
theorem nobehind (b : Expr) {op : CmpOp} (h : op ≠ .In) (h2 : op ≠ .NotIn) : behindInMarks op b = false := by
  have e1 : (op == CmpOp.In) = false := by cases op <;> first | rfl | exact absurd rfl h
  have e2 : (op == CmpOp.NotIn) = false := by cases op <;> first | rfl | exact absurd rfl h2
  cases b <;> simp [behindInMarks, e1, e2]
def tB (t : TE) : TT := fun σ H Q => t σ H fun x H1 => ∃ c, x = .bl c ∧ Q c H1
theorem pe_cmp {op : CmpOp} {t : TE} (h : PC X op a b t) (h1 : behindInMarks op b = false := by first | exact nobehind _ (by decide) (by decide) | rfl) : PE X (.Compare a [op] [b] pos) t := fun pins s σ H Q I hw => wpAny_Compare1 (h pins s σ H Q I hw) h1
theorem pt_cmp {op : CmpOp} {t : TE} (h : PC X op a b t) (h1 : behindInMarks op b = false := by first | exact nobehind _ (by decide) (by decide) | rfl) : PT X (.Compare a [op] [b] pos) (tB t) := by
  intro pins s σ H Q I hw
  refine wpAny_isTrue_Compare1 (thn (h pins s σ H _ I hw) fun v s1 h1 => thn h1 fun u s2 h2 => thn h2 fun c s3 ⟨x, H1, I1, r1, q1⟩ => ?_) h1
  obtain ⟨d, rfl, q⟩ := q1
  cases r1
  exact wpAny_truthy_bool ⟨H1, I1, q⟩
theorem pt_val {e : Expr} {t : TE} (h : PE X e t) (he : ∀ whole, isTrue e X.env whole = (do let v ← whole; standAt e.pos; holding [v] (truthy v)) := by intro _; rfl) : PT X e (tB t) := by
  intro pins s σ H Q I hw
  refine isTrue_plain (thn (h pins s σ H _ I hw) fun v s1 ⟨x, H1, I1, r1, q1⟩ => ?_) (he _)
  obtain ⟨d, rfl, q⟩ := q1
  cases r1
  exact wpAny_truthy_bool ⟨H1, I1, q⟩
variable {tA tB' : TT} {rest : List Expr}
def tOr (t u : TT) : TT := fun σ H Q => t σ H fun c H1 => if c = true then Q true H1 else u σ H1 Q
def tNot (t : TT) : TT := fun σ H Q => t σ H fun c H1 => Q (!c) H1
theorem pw_or1 (ha : PT X a tA) : PW X (.BoolOp .Or [a] pos) tA := by
  intro wh pins s σ H Q I h
  refine isTrue_or (thn (ha pins s σ H Q I h) fun c s1 e => ?_)
  cases c with
  | false => exact isTrue_or_nil e
  | true => exact e
theorem pw_or (ha : PT X a tA) (hb : PW X (.BoolOp .Or (b :: rest) pos) tB') : PW X (.BoolOp .Or (a :: b :: rest) pos) (tOr tA tB') := by
  intro wh pins s σ H Q I h
  refine isTrue_or (thn (ha pins s σ H _ I h) fun c s1 ⟨H1, I1, q1⟩ => ?_)
  cases c with
  | true => exact ⟨H1, I1, q1⟩
  | false => exact hb wh pins s1 σ H1 Q I1 q1
theorem pt_not (ha : PT X a tA) : PT X (.UnaryOp .Not a pos) (tNot tA) := by
  intro pins s σ H Q I h
  exact isTrue_not (ha pins s σ H (fun c H1 => Q (!c) H1) I h)
def tAndV (ta tb : TE) : TE := fun σ H Q => ta σ H fun x H1 => ∃ c, x = .bl c ∧ if c = true then tb σ H1 Q else Q (.bl false) H1
theorem pe_one {op} {t : TE} (h : PE X a t) : PE X (.BoolOp op [a] pos) t := fun pins s σ H Q I hw => BoolOp_one (h pins s σ H Q I hw)
theorem pe_and (ha : PE X a ta) (hb : PE X (.BoolOp .And (b :: rest) pos) tb) : PE X (.BoolOp .And (a :: b :: rest) pos) (tAndV ta tb) := by
  intro pins s σ H Q I h
  refine BoolOp_and (thn (ha pins s σ H _ I h) fun v s1 ⟨x, H1, I1, r1, q1⟩ => ?_)
  obtain ⟨c, rfl, q1⟩ := q1
  cases r1
  refine wpAny_truthy_bool ?_
  cases c with
  | true => exact hb pins s1 σ H1 Q I1 q1
  | false => exact ⟨.bl false, H1, I1, rfl, q1⟩
def tIf (t : TT) (ta tb : TE) : TE := fun σ H Q => t σ H fun c H1 => if c = true then ta σ H1 Q else tb σ H1 Q
theorem pe_ifExp {c : Expr} (hc : PT X c tA) (ha : PE X a ta) (hb : PE X b tb) : PE X (.IfExp c a b pos) (tIf tA ta tb) := by
  intro pins s σ H Q I h
  refine wpAny_IfExp (thn (hc pins s σ H _ I h) fun d s1 ⟨H1, I1, q1⟩ => ?_)
  cases d with
  | true => exact ha pins s1 σ H1 Q I1 q1
  | false => exact hb pins s1 σ H1 Q I1 q1
end
end L2
namespace L2
open PySem PySem.Spec PyProof.Rows
def SqL (K : PySem.W.Frag) (H : Hp) (a : Addr) (xs : List V) : Prop :=
  Rd H a (.lst xs) ∨
    ∃ (o : Obj) (its : Array Value) (n : Nat), K.lookup a = some o ∧ o.cls = .type "list" ∧ o.dict = none ∧ o.data = .seq its n ∧ its.size ≤ sizeLine ∧ Vals xs its.toList
def SqT (K : PySem.W.Frag) (H : Hp) (a : Addr) (xs : List V) : Prop :=
  Rd H a (.tup xs) ∨
    ∃ (o : Obj) (its : Array Value) (n : Nat), K.lookup a = some o ∧ o.cls = .type "tuple" ∧ o.data = .seq its n ∧ its.size ≤ sizeLine ∧ Vals xs its.toList
def absV : Value → Option V
  | .none => some .non
  | .bool b => some (.bl b)
  | .int i _ => some (.int i)
  | .str x _ => some (.str x)
  | .bytes b _ => some (.byt b)
  | .float b _ => some (.flt b)
  | .ref a => some (.ref a)
  | .type n => some (.ty n)
  | _ => none
theorem RelV.abs {x : V} {u : Value} (r : RelV x u) : absV u = some x := by
  cases x with
  | non => cases r; rfl
  | bl _ => cases r; rfl
  | int _ => obtain ⟨t, rfl⟩ := r; rfl
  | str _ => obtain ⟨t, rfl⟩ := r; rfl
  | byt _ => obtain ⟨t, rfl⟩ := r; rfl
  | flt _ => obtain ⟨t, rfl⟩ := r; rfl
  | ref _ => cases r; rfl
  | ty _ => cases r; rfl
theorem RelV.inj {x y : V} {u : Value} (r : RelV x u) (q : RelV y u) : x = y := Option.some.inj (r.abs.symm.trans q.abs)
theorem Vals.inj : ∀ {xs ys : List V} {us : List Value}, Vals xs us → Vals ys us → xs = ys
  | _, _, _, .nil, .nil => rfl
  | _, _, _, .cons r t, .cons r' t' => by rw [r.inj r', Vals.inj t t']
section
variable {X : Cx} {pins : List (Addr × Obj)} {σ : St} {H : Hp} {s : Shared} {a : Addr} {xs ys : List V}
theorem SqL.of {K : PySem.W.Frag} (h : H a = some (.lst xs)) : SqL K H a xs := .inl (.inl h)
theorem SqT.of {K : PySem.W.Frag} (h : H a = some (.tup xs)) : SqT K H a xs := .inl (.inl h)
theorem Inv.list (I : Inv X pins σ H s) (h : SqL X.K H a xs) : ∃ its : List Value, Vals xs its ∧ PlainL s.heap a its.toArray ∧ xs.length ≤ sizeLine := by
  rcases h with h | ⟨o, its, n, hk, hc, hd, hs, hz, r⟩
  · obtain ⟨z, its, n, r, e⟩ := h.ok I.hok
    exact ⟨its, r, ⟨_, n, e, rfl, rfl, rfl⟩, z⟩
  · refine ⟨its.toList, r, ⟨o, n, I.kIn a o hk, hc, hd, by simpa using hs⟩, ?_⟩
    have e := r.length
    simp only [Array.length_toList] at e
    omega
theorem Inv.tuple (I : Inv X pins σ H s) (h : SqT X.K H a xs) : ∃ its : List Value, Vals xs its ∧ IsTup s.heap a its.toArray ∧ xs.length ≤ sizeLine := by
  rcases h with h | ⟨o, its, n, hk, hc, hs, hz, r⟩
  · obtain ⟨z, its, r, p⟩ := h.ok I.hok
    exact ⟨its, r, p, z⟩
  · refine ⟨its.toList, r, ⟨o, I.kIn a o hk, hc, n, by simpa using hs⟩, ?_⟩
    have e := r.length
    simp only [Array.length_toList] at e
    omega
theorem Inv.list_inj (I : Inv X pins σ H s) (h : SqL X.K H a xs) (h' : SqL X.K H a ys) : xs = ys := by
  obtain ⟨its, r, ⟨o, n, e, _, _, d⟩, _⟩ := I.list h
  obtain ⟨its', r', ⟨o', n', e', _, _, d'⟩, _⟩ := I.list h'
  rw [e] at e'; cases e'
  rw [d] at d'
  injection d' with d1 _
  have : its = its' := by simpa using congrArg Array.toList d1
  subst this
  exact r.inj r'
end
abbrev Cx.wish (X : Cx) (E : Value → Shared → Prop) : Cx := { X with xe := E }
abbrev Cx.nox (X : Cx) : Cx := X.wish fun _ _ => False
theorem Cx.Ok.wish {X : Cx} (ok : X.Ok) (E : Value → Shared → Prop) : (X.wish E).Ok :=
  ⟨ok.mod, ok.kind, ok.glob, ok.blt, ok.above, ok.inj, ok.has, ok.cab, ok.hd, ok.frames, ok.stk, ok.exf, ok.bs, ok.bsz, ok.noex, ok.exfs, ok.funs, ok.frf⟩
theorem Cx.Ok.unwish {X : Cx} {E : Value → Shared → Prop} (ok : (X.wish E).Ok) : X.Ok :=
  ⟨ok.mod, ok.kind, ok.glob, ok.blt, ok.above, ok.inj, ok.has, ok.cab, ok.hd, ok.frames, ok.stk, ok.exf, ok.bs, ok.bsz, ok.noex, ok.exfs, ok.funs, ok.frf⟩
section
variable {X : Cx} {pins : List (Addr × Obj)} {σ : St} {H : Hp} {s : Shared} {E : Value → Shared → Prop}
theorem Inv.wish (I : Inv X pins σ H s) (E : Value → Shared → Prop) : Inv (X.wish E) pins σ H s := ⟨I.ok.wish E, I.os, I.bare, I.base, I.loc, I.cell, I.free, I.freeC, I.pin, I.hok, I.len⟩
theorem Inv.unwish (I : Inv (X.wish E) pins σ H s) : Inv X pins σ H s := ⟨I.ok.unwish, I.os, I.bare, I.base, I.loc, I.cell, I.free, I.freeC, I.pin, I.hok, I.len⟩
theorem SP.unwish {D : Ends} {f : Flow} {s' : Shared} (h : SP (X.wish E) pins D f s') : SP X pins D f s' := by
  cases f with
  | next => obtain ⟨σ', H', I, q⟩ := h; exact ⟨σ', H', I.unwish, q⟩
  | brk => obtain ⟨σ', H', I, q⟩ := h; exact ⟨σ', H', I.unwish, q⟩
  | cont => obtain ⟨σ', H', I, q⟩ := h; exact ⟨σ', H', I.unwish, q⟩
  | ret u => obtain ⟨v, σ', H', I, r, q⟩ := h; exact ⟨v, σ', H', I.unwish, r, q⟩
theorem PE.nox {e : Expr} {t : TE} (h : PE X.nox e t) : PE X e t := fun pins s σ H Q I hw =>
  wpAny_mono (h pins s σ H Q (I.wish _) hw) (fun _ _ ⟨v, H', I', r, q⟩ => ⟨v, H', I'.unwish, r, q⟩) fun _ _ z => False.elim z
theorem PT.nox {e : Expr} {t : TT} (h : PT X.nox e t) : PT X e t := fun pins s σ H Q I hw =>
  wpAny_mono (h pins s σ H Q (I.wish _) hw) (fun _ _ ⟨H', I', q⟩ => ⟨H', I'.unwish, q⟩) fun _ _ z => False.elim z
theorem PSs.nox {st : List Stmt} {t : TS} (h : PSs X.nox st t) : PSs X st t := fun pins s σ H D I hw =>
  wpAny_mono (h pins s σ H D (I.wish _) hw) (fun _ _ q => q.unwish) fun _ _ z => False.elim z
end
section
variable {X : Cx} {st : Stmt} {rest : List Stmt} {t u : TS} {e : Expr} {te : TE} {pos : Pos}
def tNext : TS := fun D σ H => D.nx σ H
def tSeq (t u : TS) : TS := fun D σ H => t { D with nx := u D } σ H
theorem pss_nil : PSs X [] tNext := fun _ _ σ H _ I h => wpAny_execs_nil ⟨σ, H, I, h⟩
theorem pss_cons (h1 : PS X st t) (h2 : PSs X rest u) : PSs X (st :: rest) (tSeq t u) := by
  intro pins s σ H D I h
  refine wpAny_execs_cons (thn (h1 pins s σ H { D with nx := u D } I h) fun f s1 q => ?_)
  cases f with
  | next =>
    obtain ⟨σ', H', I', q⟩ := q
    exact h2 pins s1 σ' H' D I' q
  | ret v => exact q
  | brk => exact q
  | cont => exact q
theorem pss_one (h1 : PS X st t) : PSs X [st] t := by
  intro pins s σ H D I h
  refine wpAny_execs_cons (thn (h1 pins s σ H D I h) fun f s1 q => ?_)
  cases f with
  | next => exact wpAny_execs_nil q
  | ret v => exact q
  | brk => exact q
  | cont => exact q
theorem Inv.quiet {pins : List (Addr × Obj)} {σ : St} {H : Hp} {s : Shared} (I : Inv X pins σ H s) : interactive X.env = false := by simp [interactive, I.ok.kind]
def tDrop (te : TE) : TS := fun D σ H => te σ H fun _ H1 => D.nx σ H1
theorem ps_expr (he : PE X e te) (hs : swapsWith e none pos.line X.env = pure false := by rfl) : PS X (.Expr e pos) (tDrop te) := by
  intro pins s σ H D I h
  exact wpAny_Expr_any (thn (he pins s σ H _ I h) fun v s1 ⟨x, H1, I1, r1, q1⟩ => ⟨σ, H1, I1, q1⟩) I.quiet hs
def tRet (te : TE) : TS := fun D σ H => te σ H D.rt
theorem ps_ret (he : PE X e te) : PS X (.Return (some e) pos) (tRet te) := by
  intro pins s σ H D I h
  exact wpAny_Return_some (thn (he pins s σ H _ I h) fun v s1 ⟨x, H1, I1, r1, q1⟩ => ⟨x, σ, H1, I1, r1, q1⟩)
def tIfS (c : TT) (t u : TS) : TS := fun D σ H => c σ H fun b H1 => if b = true then t D σ H1 else u D σ H1
theorem ps_if {c : Expr} {a b : List Stmt} {tc : TT} (hc : PT X c tc) (ha : PSs X a t) (hb : PSs X b u) : PS X (.If c a b pos) (tIfS tc t u) := by
  intro pins s σ H D I h
  refine wpAny_If (thn (hc pins s σ H _ I h) fun d s1 ⟨H1, I1, q1⟩ => ?_)
  cases d with
  | true => exact ha pins s1 σ H1 D I1 q1
  | false => exact hb pins s1 σ H1 D I1 q1
end
abbrev TG := V → St → Hp → (St → Hp → Prop) → Prop
abbrev TGs := List V → St → Hp → (St → Hp → Prop) → Prop
def PG (X : Cx) (target : Expr) (t : TG) : Prop :=
  ∀ (pins : List (Addr × Obj)) (s : Shared) (σ : St) (H : Hp) (v : V) (u : Value) (Q : St → Hp → Prop), Inv X pins σ H s → RelV v u → t v σ H Q →
    wpAny (model X.prog X.w) X.A (assign target X.env u) (fun _ s' => ∃ σ' H', Inv X pins σ' H' s' ∧ Q σ' H') X.xe s
def PGs (X : Cx) (ts : List Expr) (t : TGs) : Prop :=
  ∀ (pins : List (Addr × Obj)) (s : Shared) (σ : St) (H : Hp) (vs : List V) (us : List Value) (Q : St → Hp → Prop), Inv X pins σ H s → Vals vs us → t vs σ H Q →
    wpAny (model X.prog X.w) X.A (assignInOrder ((assignEach ts X.env).map (·.2)) us) (fun _ s' => ∃ σ' H', Inv X pins σ' H' s' ∧ Q σ' H') X.xe s
abbrev TSet := V → V → V → Hp → (Hp → Prop) → Prop
def PSet (X : Cx) (t : TSet) : Prop :=
  ∀ (pins : List (Addr × Obj)) (s : Shared) (σ : St) (H : Hp) (o i v : V) (ov iv u : Value) (Q : Hp → Prop), Inv X pins σ H s → RelV o ov → RelV i iv → RelV v u → t o i v H Q →
    wpAny (model X.prog X.w) X.A (setItem ov iv u) (fun _ s' => ∃ H', Inv X pins σ H' s' ∧ Q H') X.xe s
abbrev TIp := V → V → Hp → VK → Prop
def PIp (X : Cx) (op : Operator) (t : TIp) : Prop :=
  ∀ (pins : List (Addr × Obj)) (s : Shared) (σ : St) (H : Hp) (x y : V) (v u : Value) (Q : VK), Inv X pins σ H s → RelV x v → RelV y u → t x y H Q →
    wpAny (model X.prog X.w) X.A (inplaceOp op v u) (EP X pins σ Q) X.xe s
section
variable {X : Cx} {pos : Pos}
def gName (i : Nat) : TG := fun v σ H Q => Q (σ.set i (some v)) H
theorem pg_name {i : Nat} {x : Str} (hN : X.N.Nodup) (hi : X.N[i]? = some x) (hx : Loc X.env.scope x) (hf : X.fn x = true ∨ X.env.scope.names.lookup x = some .local := by first | exact .inl rfl | exact .inr rfl | assumption) : PG X (.Name x pos) (gName i) := by
  intro pins s σ H v u Q I r h
  exact wpAny_assign_Name (store_ok I hN hi hx r (fun s' I' => ⟨_, H, I', h⟩) hf)
def gNil : TGs := fun vs σ H Q => vs = [] ∧ Q σ H
def gCons (t : TG) (u : TGs) : TGs := fun vs σ H Q => ∃ v r, vs = v :: r ∧ t v σ H fun σ' H' => u r σ' H' Q
theorem pgs_nil : PGs X [] gNil := by
  intro pins s σ H vs us Q I r h
  obtain ⟨e, h⟩ := h
  subst e
  cases r
  exact assignInOrder_nil ⟨σ, H, I, h⟩
theorem pgs_cons {e : Expr} {es : List Expr} {t : TG} {u : TGs} (h1 : PG X e t) (h2 : PGs X es u)
    (hs : (assignEach (e :: es) X.env).map (·.2) = assign e X.env :: (assignEach es X.env).map (·.2) := by rfl) : PGs X (e :: es) (gCons t u) := by
  intro pins s σ H vs us Q I r h
  obtain ⟨v, vr, e1, h⟩ := h
  subst e1
  cases r with
  | cons r rr =>
    rw [hs]
    refine assignInOrder_cons (thn (h1 pins s σ H _ _ _ I r h) fun _ s1 ⟨σ1, H1, I1, q1⟩ => ?_)
    exact h2 pins s1 σ1 H1 _ _ Q I1 rr q1
def gTup (K : PySem.W.Frag) (n : Nat) (t : TGs) : TG := fun v σ H Q => ∃ a xs, v = .ref a ∧ SqT K H a xs ∧ xs.length = n ∧ t xs σ H Q
theorem pg_tup {es : List Expr} {k : Nat} {t : TGs} {n : Nat} (hc : X.calm = true) (h : PGs X es t)
    (hn : (assignEach es X.env).length = n := by rfl) (hst : (assignEach es X.env).findIdx? (·.1) = none := by rfl) : PG X (.Tuple es k pos) (gTup X.K n t) := by
  intro pins s σ H v u Q I r hw
  obtain ⟨a, xs, e1, hq, hl, hw⟩ := hw
  subst e1
  cases r
  obtain ⟨its, rv, ht, hz⟩ := I.tuple hq
  refine assign_Tuple_tuple (I.ok.hd hc) ht (by simp [hn, ← hl, rv.length]) hst fun h' hx => ?_
  have I1 : Inv X pins σ H { s with heap := h' } := I.kept (t' := s.toks) fun b o e => hx b o (Nat.ne_of_lt (Heap.lt_size e)) e
  exact h pins _ σ H xs _ Q I1 (by simpa using rv) hw
def tAsg (te : TE) (g : TG) : TS := fun D σ H => te σ H fun x H1 => g x σ H1 D.nx
theorem ps_set {i : Nat} {x : Str} {e : Expr} {te : TE} {pos' : Pos} (hN : X.N.Nodup) (hi : X.N[i]? = some x) (hx : Loc X.env.scope x) (he : PE X e te) (hs : swapsWith e (some (.Name x pos')) pos.line X.env = pure false := by rfl) (hf : X.fn x = true ∨ X.env.scope.names.lookup x = some .local := by first | exact .inl rfl | exact .inr rfl | assumption) :
    PS X (.Assign [.Name x pos'] e pos) (tAsg te (gName i)) := by
  intro pins s σ H D I h
  refine wpAny_Assign_Name (thn (he pins s σ H _ I h) fun v s1 ⟨y, H1, I1, r1, q1⟩ => ?_) hs
  exact store_ok I1 hN hi hx r1 (fun s2 I2 => ⟨_, H1, I2, q1⟩) hf
def tAug (i : Nat) (te : TE) (ti : TIp) : TS := fun D σ H => ∃ x, σ[i]? = some (some x) ∧ te σ H fun y H1 => ti x y H1 fun z H2 => D.nx (σ.set i (some z)) H2
theorem ps_aug {i : Nat} {x : Str} {e : Expr} {te : TE} {op : Operator} {ti : TIp} {pos' : Pos} (hN : X.N.Nodup) (hi : X.N[i]? = some x) (hx : Loc X.env.scope x) (he : PE X e te) (ho : PIp X op ti) (hf : X.fn x = true ∨ X.env.scope.names.lookup x = some .local := by first | exact .inl rfl | exact .inr rfl | assumption) :
    PS X (.AugAssign (.Name x pos') op e pos) (tAug i te ti) := by
  intro pins s σ H D I h
  obtain ⟨v, e1, h⟩ := h
  obtain ⟨m, hn, hl⟩ := I.loc
  have vis : Vis X.env.scope x := by rcases hx with k | k; exact .inl k; exact .inr (.inl k)
  obtain ⟨u, r, l⟩ := hl i x v hi e1 vis
  refine wpAny_AugAssign_Name ?_
  have go : wpAny (model X.prog X.w) X.A (eval e X.env) (fun w s₂ => wpAny (model X.prog X.w) X.A (inplaceOp op u w) (fun r s₃ => wpAny (model X.prog X.w) X.A (storeName X.env x r) (fun _ => SP X pins D .next) X.xe s₃) X.xe s₂) X.xe s := by
    refine thn (he pins s σ H _ I h) fun w s1 ⟨y, H1, I1, r1, q1⟩ => ?_
    refine thn (ho pins s1 σ H1 v y u w _ I1 r r1 q1) fun z s2 ⟨zv, H2, I2, r2, q2⟩ => ?_
    exact store_ok I2 hN hi hx r2 (fun s3 I3 => ⟨_, H2, I3, q2⟩) hf
  rcases l with ⟨hk, hm⟩ | ⟨hk, c, hc, hcell⟩
  · exact wpAny_loadName_local I.ok.kind hk hn hm go
  · rcases hk with hk | hk
    · exact wpAny_loadName_cell I.ok.kind hk hc hcell go
    · rcases hx with k | k
      · have : X.env.scope.names.lookup x = some .free := hk
        rw [k] at this; cases this
      · have : X.env.scope.names.lookup x = some .free := hk
        rw [k] at this; cases this
def tAugS (to ti te : TE) (tget : V → V → Hp → VK → Prop) (tip : TIp) (tset : TSet) : TS := fun D σ H => to σ H fun o H1 => ti σ H1 fun i H2 => tget o i H2 fun x H3 => te σ H3 fun y H4 => tip x y H4 fun z H5 => tset o i z H5 fun H6 => D.nx σ H6
def PGet (X : Cx) (t : V → V → Hp → VK → Prop) : Prop :=
  ∀ (pins : List (Addr × Obj)) (s : Shared) (σ : St) (H : Hp) (o i : V) (ov iv : Value) (Q : VK), Inv X pins σ H s → RelV o ov → RelV i iv → t o i H Q →
    wpAny (model X.prog X.w) X.A (getItem ov iv) (EP X pins σ Q) X.xe s
theorem ps_augS {o i e : Expr} {to ti te : TE} {tget : V → V → Hp → VK → Prop} {tip : TIp} {tset : TSet} {op : Operator} {tpos : Pos} (ho : PE X o to) (hi : PE X i ti) (hg : PGet X tget) (he : PE X e te) (hp : PIp X op tip) (hs : PSet X tset)
    (ha : ∀ ov iv new, augStore i ov iv new = (do holding [new, ov, iv] (setItem ov iv new); release [new, ov, iv] []; pure .next) := by intros; rfl) : PS X (.AugAssign (.Subscript o i tpos) op e pos) (tAugS to ti te tget tip tset) := by
  intro pins s σ H D I h
  refine wpAny_AugAssign_SubscriptAny (thn (ho pins s σ H _ I h) fun ov s1 ⟨x1, H1, I1, r1, q1⟩ => ?_) ha
  refine thn (hi pins s1 σ H1 _ I1 q1) fun iv s2 ⟨x2, H2, I2, r2, q2⟩ => ?_
  refine thn (hg pins s2 σ H2 x1 x2 ov iv _ I2 r1 r2 q2) fun old s3 ⟨x3, H3, I3, r3, q3⟩ => ?_
  refine thn (he pins s3 σ H3 _ I3 q3) fun v s4 ⟨x4, H4, I4, r4, q4⟩ => ?_
  refine thn (hp pins s4 σ H4 x3 x4 old v _ I4 r3 r4 q4) fun new s5 ⟨x5, H5, I5, r5, q5⟩ => ?_
  exact thn (hs pins s5 σ H5 x1 x2 x5 ov iv new _ I5 r1 r2 r5 q5) fun _ s6 ⟨H6, I6, q6⟩ => ⟨σ, H6, I6, q6⟩
def ipI (f : Int → Int → Int) : TIp := fun x y H Q => ∃ i j, x = .int i ∧ y = .int j ∧ Q (.int (f i j)) H
theorem ip_add : PIp X .Add (ipI fun i j => i + j) := by
  intro pins s σ H x y v u Q I r1 r2 h
  obtain ⟨i, j, e1, e2, q⟩ := h
  subst e1; subst e2
  obtain ⟨t, rfl⟩ := r1
  obtain ⟨t', rfl⟩ := r2
  exact iadd_int ⟨.int _, H, I.tok _, ⟨_, rfl⟩, q⟩
end
section
variable {X : Cx} {pos : Pos}
def tWhile (c : TT) (tb : TS) : TS := fun D σ H => ∃ W : Nat → St → Hp → Prop, (∃ m, W m σ H) ∧ ∀ m σ H, W m σ H →
  c σ H fun b H1 => if b = true then ∃ N : St → Hp → Prop, (∀ σ' H', N σ' H' → ∃ m', m' < m ∧ W m' σ' H') ∧ tb { D with nx := N, ct := N, bk := D.nx } σ H1 else D.nx σ H1
theorem ps_while {c : Expr} {body : List Stmt} {tc : TT} {tb : TS} (hp : PassesOwn (model X.prog X.w) X.A X.env X.xe) (hc : PT X c tc) (hb : PSs X body tb) : PS X (.While c body [] pos) (tWhile tc tb) := by
  intro pins s σ H D I h
  obtain ⟨W, ⟨m0, w0⟩, turn⟩ := h
  refine wpAny_While (codeAny_whileLoop (fun n s' => ∃ σ' H', Inv X pins σ' H' s' ∧ W n σ' H') ?_ m0 ⟨σ, H, I, w0⟩)
  rintro n s1 ⟨σ1, H1, I1, w1⟩
  refine wpAny_passesOwn hp (thn (hc pins s1 σ1 H1 _ I1 (turn n σ1 H1 w1)) fun b s2 ⟨H2, I2, q2⟩ => ?_)
  cases b with
  | true =>
    obtain ⟨N, hN, q2⟩ := q2
    rw [if_pos rfl]
    refine wpAny_passesOwn hp (thn (hb pins s2 σ1 H2 _ I2 q2) fun f s3 q3 => ?_)
    cases f with
    | next =>
      obtain ⟨σ3, H3, I3, n3⟩ := q3
      obtain ⟨m', hm, w3⟩ := hN σ3 H3 n3
      exact ⟨m', hm, σ3, H3, I3, w3⟩
    | cont =>
      obtain ⟨σ3, H3, I3, n3⟩ := q3
      obtain ⟨m', hm, w3⟩ := hN σ3 H3 n3
      exact ⟨m', hm, σ3, H3, I3, w3⟩
    | brk => exact q3
    | ret v => exact q3
  | false =>
    rw [if_neg Bool.false_ne_true]
    exact wpAny_execs_nil ⟨σ1, H2, I2, q2⟩
end
structure It where
  go : Nat → Hp → Prop
  yld : Nat → Hp → V → Hp → Prop
  stop : Nat → Hp → Prop
def FpOk (X : Cx) (pins : List (Addr × Obj)) (H : Hp) (b : Addr) : Prop :=
  H b = none ∧ b ≠ X.env.locals ∧ b ∉ X.fs ∧ (b ∈ X.ex ∨ X.s_0.heap.objs.size ≤ b) ∧ (∀ x c, X.env.cells.lookup x = some c → c ≠ b) ∧ ∀ p ∈ X.pn ++ pins, p.1 ≠ b
theorem Inv.fpOk {X : Cx} {pins : List (Addr × Obj)} {σ : St} {H H' : Hp} {s : Shared} {b : Addr} (I : Inv X pins σ H s) (hb : s.heap.objs.size ≤ b) (hn : H' b = none) : FpOk X pins H' b := by
  refine ⟨hn, Nat.ne_of_gt (Nat.lt_of_lt_of_le I.lt hb), I.nofs hb, .inr (Nat.le_trans I.sz hb), fun x c e z => ?_, fun p hp z => ?_⟩
  · obtain ⟨v, q⟩ := I.cell x c e
    exact absurd (Nat.lt_of_lt_of_le q.lt (by rw [z]; exact hb)) (Nat.lt_irrefl _)
  · exact absurd (Nat.lt_of_lt_of_le (Heap.lt_size (I.pin p hp).1) (by rw [z]; exact hb)) (Nat.lt_irrefl _)
structure Turn (P : Program) (w : World) (K : PySem.W.Frag) (tg : Expr) (J : It) (fp : List Addr) (it : Addr) (tn : Nat → Heap → Prop) : Prop where
  mem : it ∈ fp
  obj : ∀ i h, tn i h → ∀ b ∈ fp, ∃ o, h.get? b = some o ∧ ∀ v, o.data ≠ .cell v
  keep : ∀ i h h', tn i h → (∀ b ∈ fp, ∀ o, h.get? b = some o → h'.get? b = some o) → tn i h'
  item : ∀ (X : Cx), X.prog = P → X.w = w → X.K = K → X.calm = true → ∀ (i : Nat) (pins : List (Addr × Obj)) (s : Shared) (σ : St) (H : Hp) (E : Value → Shared → Prop), Inv X pins σ H s → (∀ b ∈ fp, FpOk X pins H b) → tn i s.heap → J.go i H →
    wpAny (model P w) X.A (pyNext (.ref it)) (fun r s1 => ∃ u, r = some u ∧
      wpAny (model P w) X.A (letOwnedTupleGo tg (.ref it) u) (fun _ s2 => ∃ x H', Inv X pins σ H' s2 ∧ RelV x u ∧ J.yld i H x H' ∧ tn (i + 1) s2.heap ∧ ∀ b ∈ fp, H' b = none) E s1) E s
  done : ∀ (X : Cx), X.prog = P → X.w = w → X.K = K → X.calm = true → ∀ (i : Nat) (pins : List (Addr × Obj)) (s : Shared) (σ : St) (H : Hp) (E : Value → Shared → Prop), Inv X pins σ H s → (∀ b ∈ fp, FpOk X pins H b) → tn i s.heap → J.stop i H →
    wpAny (model P w) X.A (pyNext (.ref it)) (fun r s1 => r = none ∧ Inv X pins σ H s1) E s
  self : ∀ (A : Around) (i : Nat) (s : Shared) (Q : Value → Shared → Prop) (E : Value → Shared → Prop), tn i s.heap → Q (.ref it) s → wpAny (model P w) A (pyIter (.ref it)) Q E s
abbrev TI := St → Hp → (It → Hp → Prop) → Prop
def PIE (X : Cx) (pins : List (Addr × Obj)) (σ : St) (tg : Expr) (R : It → Hp → Prop) (itv : Value) (s2 : Shared) : Prop :=
  ∃ (it : Addr) (fp : List Addr) (tn : Nat → Heap → Prop) (J : It) (H' : Hp), itv = .ref it ∧ Inv X pins σ H' s2 ∧ Turn X.prog X.w X.K tg J fp it tn ∧ tn 0 s2.heap ∧ (∀ b ∈ fp, FpOk X pins H' b) ∧ R J H'
def PI (X : Cx) (tg iter : Expr) (wi : TI) : Prop :=
  ∀ (pins : List (Addr × Obj)) (s : Shared) (σ : St) (H : Hp) (R : It → Hp → Prop), Inv X pins σ H s → wi σ H R →
    wpAny (model X.prog X.w) X.A (eval iter X.env) (fun v s1 => wpAny (model X.prog X.w) X.A (pyIter v) (PIE X pins σ tg R) X.xe s1) X.xe s
theorem go_of {M : Model} {A : Around} {E : Value → Shared → Prop} {s : Shared} {tg : Expr} {it : Addr} {u : Value} {o : Obj} {n : String} {vs : Array Value} {Q : Unit → Shared → Prop} (ho : s.heap.get? it = some o) (hc : o.cls = .type n) (hd : o.data = .fields vs)
    (hn : ["enumerate", "zip", "dict_itemiterator", "dict_reverseitemiterator", "odict_iterator", "itertools.zip_longest", "itertools.pairwise"].contains n = false) (hQ : Q () s) : wpAny M A (letOwnedTupleGo tg (.ref it) u) Q E s := by
  unfold letOwnedTupleGo
  cases tg <;> first
    | exact wpAny_pure hQ
    | (cases u <;> first
        | exact wpAny_pure hQ
        | (refine wpAny_bind (wpAny_load ho ?_)
           rw [hc, hd]
           show wpAny M A (if (["enumerate", "zip", "dict_itemiterator", "dict_reverseitemiterator", "odict_iterator", "itertools.zip_longest", "itertools.pairwise"].contains n && vs[0]? == some (rawInt _)) = true then _ else _) Q E s
           rw [if_neg (by intro h; rw [hn, Bool.false_and] at h; cases h)]
           exact wpAny_pure hQ))
def Itl (K : PySem.W.Frag) (a : Addr) : It :=
  ⟨fun i H => ∃ xs x, SqL K H a xs ∧ xs[i]? = some x, fun i H x H' => H' = H ∧ ∀ xs, SqL K H a xs → xs[i]? = some x, fun i H => ∃ xs, SqL K H a xs ∧ xs.length ≤ i⟩
def Itr (lo : Int) (n : Nat) : It := ⟨fun i _ => i < n, fun i H x H' => H' = H ∧ x = .int (lo + i), fun i _ => n ≤ i⟩
theorem turn_list {P : Program} {w : World} {K : PySem.W.Frag} {tg : Expr} (a it : Addr) : Turn P w K tg (Itl K a) [it] it (fun i h => h.IsListIter it a i) where
  mem := by simp
  obj := fun i h st b hb => by
    have e : b = it := by simpa using hb
    subst e
    obtain ⟨o, e, c, d⟩ := st
    exact ⟨o, e, fun v z => by rw [d] at z; cases z⟩
  keep := fun i h h' st k => st.at fun o e => k it (by simp) o e
  item := by
    intro X hP hw hK hc i pins s σ H E I hf st hg
    subst hP hw hK
    obtain ⟨xs, x, hq, hx⟩ := hg
    obtain ⟨its, rv, p, hz⟩ := I.list hq
    obtain ⟨u, hu, ru⟩ := rv.get hx
    obtain ⟨f0, f1, f2, f3, f4, f5⟩ := hf it (by simp)
    refine wpAny_pyNext_list_item st p.isList (x := u) (by simpa using hu) fun h' st' sb => ?_
    have I1 : Inv X pins σ H { s with heap := h' } := I.turned (t' := s.toks) (fun b o hb e => (sb.2 b hb).trans e) f0 f1 f3 f4 f5
    obtain ⟨o, e, c, d⟩ := id st'
    exact ⟨u, rfl, go_of (s := { s with heap := h' }) e c d (by decide) ⟨x, H, I1, ru, ⟨rfl, fun ys hy => by rw [I.list_inj hy hq]; exact hx⟩, st', fun b hb => (hf b hb).1⟩⟩
  done := by
    intro X hP hw hK hc i pins s σ H E I hf st hg
    subst hP hw hK
    obtain ⟨xs, hq, hx⟩ := hg
    obtain ⟨its, rv, p, hz⟩ := I.list hq
    obtain ⟨f0, f1, f2, f3, f4, f5⟩ := hf it (by simp)
    have hl := rv.length
    exact wpAny_pyNext_list_end (I.ok.hd hc) st p.isList (by simp; omega) fun h' eb => ⟨rfl, I.turned (t' := s.toks) (fun b o hb e => eb b o hb e) f0 f1 f3 f4 f5⟩
  self := fun _ _ _ _ _ st h => wpAny_pyIter_listiter st h
theorem turn_range {P : Program} {w : World} {K : PySem.W.Frag} {tg : Expr} (it : Addr) (lo : Int) (n : Nat) : Turn P w K tg (Itr lo n) [it] it (fun i h => IsRangeIter h it (lo + (i : Nat) * 1) ((n : Int) - (i : Nat)) 1) where
  mem := by simp
  obj := fun i h st b hb => by
    have e : b = it := by simpa using hb
    subst e
    exact ⟨_, st, fun v z => by
      have z' : Data.fields _ = Data.cell v := z
      cases z'⟩
  keep := fun i h h' st k => k it (by simp) _ st
  item := by
    intro X hP hw hK hc i pins s σ H E I hf st hg
    subst hP hw hK
    obtain ⟨f0, f1, f2, f3, f4, f5⟩ := hf it (by simp)
    have W := Walks.range (prog := X.prog) (w := X.w) (I.ok.hd hc) it lo 1 n
    refine W.item i s _ _ hg st fun v h' tk hv st' kk => ?_
    obtain ⟨t, rfl⟩ := hv
    have I1 : Inv X pins σ H { s with heap := h', toks := tk } := I.turned (fun b o hb e => kk b o (by simpa using hb) e) f0 f1 f3 f4 f5
    refine ⟨_, rfl, go_of (s := { s with heap := h', toks := tk }) (n := "range_iterator") st' rfl rfl (by decide) ⟨.int (lo + i), H, I1, ⟨t, ?_⟩, ⟨rfl, rfl⟩, st', fun b hb => (hf b hb).1⟩⟩
    rw [Int.mul_one]
  done := by
    intro X hP hw hK hc i pins s σ H E I hf st hg
    subst hP hw hK
    obtain ⟨f0, f1, f2, f3, f4, f5⟩ := hf it (by simp)
    exact wpAny_pyNext_range_end (I.ok.hd hc) st (by have : n ≤ i := hg; omega) fun h' eb => ⟨rfl, I.turned (t' := s.toks) (fun b o hb e => eb b o hb e) f0 f1 f3 f4 f5⟩
  self := fun _ _ _ _ _ st h => wpAny_pyIter_rangeiter st h
end L2
namespace L2
open PySem PySem.Spec PyProof.Rows
section
variable {X : Cx} {tg : Expr}
def iList (K : PySem.W.Frag) (tl : TE) : TI := fun σ H R => tl σ H fun x H1 => ∃ a, x = .ref a ∧ (∃ xs, SqL K H1 a xs) ∧ R (Itl K a) H1
theorem pi_list {l : Expr} {tl : TE} (hl : PE X l tl) : PI X tg l (iList X.K tl) := by
  intro pins s σ H R I h
  refine thn (hl pins s σ H _ I h) fun v s1 ⟨x, H1, I1, r1, q1⟩ => ?_
  obtain ⟨a, e, ⟨xs, hq⟩, q⟩ := q1
  subst e
  cases r1
  obtain ⟨its, rv, p, hz⟩ := I1.list hq
  refine wpAny_pyIter_list p.isList ?_
  refine ⟨s1.heap.objs.size, [s1.heap.objs.size], _, _, H1, rfl, I1.kept (t' := s1.toks) fun b o e => Heap.get?_push_of_some _ e, turn_list a _, ⟨_, Heap.get?_push_size _ rfl, rfl, rfl⟩, fun b hb => ?_, q⟩
  have e : b = s1.heap.objs.size := by simpa using hb
  subst e
  exact I1.fpOk (Nat.le_refl _) (I1.hok.fresh (Nat.le_refl _))
theorem range_it {pins : List (Addr × Obj)} {σ : St} {H : Hp} {s : Shared} {R : It → Hp → Prop} {E : Value → Shared → Prop} {lo hi : Int} {t u v : Tok} {tk : Nat} (I : Inv X pins σ H s) (h1 : -(2 ^ 62) ≤ lo) (h2 : lo < 2 ^ 62) (h3 : -(2 ^ 62) ≤ hi) (h4 : hi < 2 ^ 62)
    (q : R (Itr lo (hi - lo).toNat) H) : wpAny (model X.prog X.w) X.A (pyIter (.ref s.heap.objs.size)) (PIE X pins σ tg R) E { s with heap := s.heap.push { cls := .type "range", data := .fields #[.int lo t, .int hi u, .int 1 v] }, toks := tk } := by
  refine wpAny_pyIter_range (IsRange.new ..) (small_one h1 h2 h3 h4) ?_
  have I1 : Inv X pins σ H { s with heap := s.heap.push { cls := .type "range", data := .fields #[.int lo t, .int hi u, .int 1 v] }, toks := tk } := I.kept fun b o e => Heap.get?_push_of_some _ e
  refine ⟨(s.heap.push { cls := .type "range", data := .fields #[.int lo t, .int hi u, .int 1 v] }).objs.size, [(s.heap.push { cls := .type "range", data := .fields #[.int lo t, .int hi u, .int 1 v] }).objs.size], _, _, H, rfl,
    I1.kept (t' := tk) fun b o e => Heap.get?_push_of_some _ e, turn_range _ lo (hi - lo).toNat, ?_, fun b hb => ?_, q⟩
  · have e1 : lo + ((0 : Nat) : Int) * 1 = lo := by simp
    have e2 : (((hi - lo).toNat : Nat) : Int) - ((0 : Nat) : Int) = Builtin.Range.rangeSize lo hi 1 := by rw [rangeSize_one]; split <;> omega
    show IsRangeIter _ _ (lo + ((0 : Nat) : Int) * 1) ((((hi - lo).toNat : Nat) : Int) - ((0 : Nat) : Int)) 1
    rw [e1, e2]
    exact Heap.get?_push_size _ rfl
  · have e : b = (s.heap.push { cls := .type "range", data := .fields #[.int lo t, .int hi u, .int 1 v] }).objs.size := by simpa using hb
    subst e
    exact I1.fpOk (Nat.le_refl _) (I1.hok.fresh (Nat.le_refl _))
def iRng1 (ta : TA) : TI := fun σ H R => ta σ H fun vs H1 => ∃ j : Int, vs = [.int j] ∧ -(2 ^ 62) ≤ j ∧ j < 2 ^ 62 ∧ R (Itr 0 j.toNat) H1
theorem pi_range1 {a : Expr} {ta : TA} {p pos : Pos} (hg : Gl X "range") (hm : X.mg "range" = none) (ha : PA X [a] ta) (hs : starEach [a] X.env = [(false, eval a X.env)] := by rfl) : PI X tg (.Call (.Name "range" p) [a] [] pos) (iRng1 ta) := by
  intro pins s σ H R I h
  refine Call_ (ld_blt I hg hm boot_range (PyProof.Rows.callWith_type1 (thn (ha pos pins s σ H _ I h) fun us s1 ⟨vs, H1, I1, r1, q1⟩ => ?_) hs rfl))
  obtain ⟨j, e, q1, q2, q⟩ := q1
  subst e
  cases r1 with
  | cons r rr =>
    cases rr
    obtain ⟨t, rfl⟩ := r
    exact call_range_1 (range_it I1 (by omega) (by omega) q1 q2 (by simpa using q))
def tFor (wi : TI) (g : TG) (tb : TS) : TS := fun D σ H => wi σ H fun J H1 => ∃ W : Nat → Nat → St → Hp → Prop, (∃ m, W 0 m σ H1) ∧ ∀ i m σ H, W i m σ H →
  (J.stop i H ∧ D.nx σ H) ∨ (J.go i H ∧ ∃ N : St → Hp → Prop, (∀ σ' H', N σ' H' → ∃ m', m' < m ∧ W (i + 1) m' σ' H') ∧ ∀ x H', J.yld i H x H' → g x σ H' fun σ2 H2 => tb { D with nx := N, ct := N, bk := D.nx } σ2 H2)
def pinsAt (fp : List Addr) (h : Heap) : List (Addr × Obj) := fp.filterMap fun b => (h.get? b).map fun o => (b, o)
theorem mem_pinsAt {fp : List Addr} {h : Heap} {b : Addr} {o : Obj} (hb : b ∈ fp) (e : h.get? b = some o) : (b, o) ∈ pinsAt fp h := List.mem_filterMap.mpr ⟨b, hb, by rw [e]; rfl⟩
theorem of_pinsAt {fp : List Addr} {h : Heap} {p : Addr × Obj} (hp : p ∈ pinsAt fp h) : p.1 ∈ fp ∧ h.get? p.1 = some p.2 := by
  obtain ⟨b, hb, e⟩ := List.mem_filterMap.mp hp
  cases q : h.get? b with
  | none => rw [q] at e; cases e
  | some o =>
    rw [q] at e
    have e' : (b, o) = p := Option.some.inj e
    subst e'
    exact ⟨hb, q⟩
theorem Inv.pinned {pins : List (Addr × Obj)} {σ : St} {H : Hp} {s : Shared} {fp : List Addr} (I : Inv X pins σ H s) (hf : ∀ b ∈ fp, FpOk X pins H b) (ho : ∀ b ∈ fp, ∃ o, s.heap.get? b = some o ∧ ∀ v, o.data ≠ .cell v) : Inv X (pins ++ pinsAt fp s.heap) σ H s :=
  I.pins_of fun p hp => (List.mem_append.mp hp).elim (fun z => I.pin p (List.mem_append_right _ z)) fun z => by
    obtain ⟨hb, e⟩ := of_pinsAt z
    obtain ⟨f0, f1, f2, _⟩ := hf p.1 hb
    obtain ⟨o, e', d⟩ := ho p.1 hb
    rw [e] at e'; cases e'
    exact ⟨e, f0, f1, f2, d⟩
theorem Inv.unpinned {pins pl : List (Addr × Obj)} {σ : St} {H : Hp} {s : Shared} (I : Inv X (pins ++ pl) σ H s) : Inv X pins σ H s := I.pins_of fun p hp => I.pin p (List.mem_append_right _ (List.mem_append_left _ hp))
theorem ps_for {iter : Expr} {body : List Stmt} {wi : TI} {g : TG} {tb : TS} {pos : Pos} (hp : PassesOwn (model X.prog X.w) X.A X.env X.xe) (hc : X.calm = true) (hi : PI X tg iter wi) (hg : PG X tg g) (hb : PSs X body tb)
    (hs : ∀ x, foldedSetIterable iter X.env x = pure x := by intro _; rfl) : PS X (.For tg iter body [] pos) (tFor wi g tb) := by
  intro pins s σ H D I h
  refine wpAny_For (thn (hi pins s σ H _ I h) fun v s1 h1 => thn h1 fun itv s2 h2 => ?_) hs
  obtain ⟨it, fp, tn, J, H2, e, I2, T, st2, f2, W, ⟨m0, w0⟩, turn⟩ := h2
  subst e
  -- what stays true of the iterator's objects through the loop
  have stat : ∀ {H' : Hp}, (∀ b ∈ fp, H' b = none) → ∀ b ∈ fp, FpOk X pins H' b := fun hn b hb => ⟨hn b hb, (f2 b hb).2⟩
  refine codeAny_forLoop_any (fun n s' => ∃ i σ' H', Inv X pins σ' H' s' ∧ tn i s'.heap ∧ (∀ b ∈ fp, H' b = none) ∧ W i n σ' H') ?_ m0 ⟨0, σ, H2, I2, st2, fun b hb => (f2 b hb).1, w0⟩
  rintro n s3 ⟨i, σ3, H3, I3, st3, fr3, w3⟩
  rcases turn i n σ3 H3 w3 with ⟨stop, qn⟩ | ⟨go, N, hN, step⟩
  · refine wpAny_passesOwn hp (thn (T.done X rfl rfl rfl hc i pins s3 σ3 H3 X.xe I3 (stat fr3) st3 stop) fun r s4 ⟨hr, I4⟩ => ?_)
    subst hr
    exact wpAny_execs_nil ⟨σ3, H3, I4, qn⟩
  · refine wpAny_passesOwn hp (thn (T.item X rfl rfl rfl hc i pins s3 σ3 H3 X.xe I3 (stat fr3) st3 go) fun r s4 ⟨u, hr, h4⟩ => ?_)
    subst hr
    refine wpAny_passesOwn hp (thn h4 fun _ s5 ⟨x, H5, I5, r5, y5, st5, fr5⟩ => ?_)
    have I5' := I5.pinned (stat fr5) (T.obj _ _ st5)
    refine wpAny_passesOwn hp (thn (hg _ s5 σ3 H5 x u _ I5' r5 (step x H5 y5)) fun _ s6 ⟨σ6, H6, I6, q6⟩ => ?_)
    refine wpAny_passesOwn hp (thn (hb _ s6 σ6 H6 _ I6 q6) fun f s7 q7 => ?_)
    have again : ∀ {σ7 : St} {H7 : Hp}, Inv X (pins ++ pinsAt fp s5.heap) σ7 H7 s7 → N σ7 H7 → ∃ m, m < n ∧ ∃ i σ' H', Inv X pins σ' H' s7 ∧ tn i s7.heap ∧ (∀ b ∈ fp, H' b = none) ∧ W i m σ' H' := fun {σ7 H7} I7 n7 => by
      obtain ⟨m', hm, w7⟩ := hN σ7 H7 n7
      refine ⟨m', hm, i + 1, σ7, H7, I7.unpinned, T.keep _ _ _ st5 fun b hb o e => (I7.pin (b, o) (List.mem_append_right _ (List.mem_append_right _ (mem_pinsAt hb e)))).1, fun b hb => ?_, w7⟩
      obtain ⟨o, e, d⟩ := T.obj _ _ st5 b hb
      exact (I7.pin (b, o) (List.mem_append_right _ (List.mem_append_right _ (mem_pinsAt hb e)))).2.1
    cases f with
    | next => obtain ⟨σ7, H7, I7, n7⟩ := q7; exact again I7 n7
    | cont => obtain ⟨σ7, H7, I7, n7⟩ := q7; exact again I7 n7
    | brk => obtain ⟨σ7, H7, I7, q7⟩ := q7; exact ⟨σ7, H7, I7.unpinned, q7⟩
    | ret v => obtain ⟨x7, σ7, H7, I7, r7, q7⟩ := q7; exact ⟨x7, σ7, H7, I7.unpinned, r7, q7⟩
end
theorem for_list {K : PySem.W.Frag} {a : Addr} {xs : List V} {g : TG} {tb : TS} {D : Ends} {σ : St} {H : Hp} (Pv : Nat → St → Hp → Prop) (h0 : Pv 0 σ H) (hl : ∀ i σ H, i ≤ xs.length → Pv i σ H → SqL K H a xs)
    (hs : ∀ i x σ H, xs[i]? = some x → Pv i σ H → g x σ H fun σ2 H2 => tb { D with nx := Pv (i + 1), ct := Pv (i + 1), bk := D.nx } σ2 H2) (hd : ∀ σ H, Pv xs.length σ H → D.nx σ H) :
    ∃ W : Nat → Nat → St → Hp → Prop, (∃ m, W 0 m σ H) ∧ ∀ i m σ H, W i m σ H →
      ((Itl K a).stop i H ∧ D.nx σ H) ∨ ((Itl K a).go i H ∧ ∃ N : St → Hp → Prop, (∀ σ' H', N σ' H' → ∃ m', m' < m ∧ W (i + 1) m' σ' H') ∧ ∀ x H', (Itl K a).yld i H x H' → g x σ H' fun σ2 H2 => tb { D with nx := N, ct := N, bk := D.nx } σ2 H2) := by
  refine ⟨fun i m σ H => m = xs.length - i ∧ i ≤ xs.length ∧ Pv i σ H, ⟨xs.length, by simp, Nat.zero_le _, h0⟩, ?_⟩
  rintro i m σ H ⟨rfl, hi, p⟩
  have q := hl i σ H hi p
  by_cases hlt : i < xs.length
  · refine .inr ⟨⟨xs, xs[i], q, by simp [hlt]⟩, Pv (i + 1), fun σ' H' p' => ⟨xs.length - (i + 1), by omega, rfl, hlt, p'⟩, fun x H' y => ?_⟩
    obtain ⟨e, y⟩ := y
    subst e
    exact hs i x σ _ (y xs q) p
  · have e : i = xs.length := by omega
    subst e
    exact .inl ⟨⟨xs, q, Nat.le_refl _⟩, hd σ H p⟩
theorem for_range {lo : Int} {n : Nat} {g : TG} {tb : TS} {D : Ends} {σ : St} {H : Hp} (Pv : Nat → St → Hp → Prop) (h0 : Pv 0 σ H)
    (hs : ∀ i σ H, i < n → Pv i σ H → g (.int (lo + i)) σ H fun σ2 H2 => tb { D with nx := Pv (i + 1), ct := Pv (i + 1), bk := D.nx } σ2 H2) (hd : ∀ σ H, Pv n σ H → D.nx σ H) :
    ∃ W : Nat → Nat → St → Hp → Prop, (∃ m, W 0 m σ H) ∧ ∀ i m σ H, W i m σ H →
      ((Itr lo n).stop i H ∧ D.nx σ H) ∨ ((Itr lo n).go i H ∧ ∃ N : St → Hp → Prop, (∀ σ' H', N σ' H' → ∃ m', m' < m ∧ W (i + 1) m' σ' H') ∧ ∀ x H', (Itr lo n).yld i H x H' → g x σ H' fun σ2 H2 => tb { D with nx := N, ct := N, bk := D.nx } σ2 H2) := by
  refine ⟨fun i m σ H => m = n - i ∧ i ≤ n ∧ Pv i σ H, ⟨n, by simp, Nat.zero_le _, h0⟩, ?_⟩
  rintro i m σ H ⟨rfl, hi, p⟩
  by_cases hlt : i < n
  · refine .inr ⟨hlt, Pv (i + 1), fun σ' H' p' => ⟨n - (i + 1), by omega, rfl, hlt, p'⟩, fun x H' y => ?_⟩
    obtain ⟨e, y⟩ := y
    subst e y
    exact hs i σ _ hlt p
  · have e : i = n := by omega
    subst e
    exact .inl ⟨Nat.le_refl _, hd σ H p⟩
end L2
namespace L2
open PySem PySem.Spec PyProof.Rows
abbrev R2 := V → V → Hp → VK → Prop
def OpR (X : Cx) (f : Value → Value → Sem Value) (r : R2) : Prop :=
  ∀ (pins : List (Addr × Obj)) (s : Shared) (σ : St) (H : Hp) (x y : V) (v u : Value) (Q : VK), Inv X pins σ H s → RelV x v → RelV y u → r x y H Q →
    wpAny (model X.prog X.w) X.A (f v u) (EP X pins σ Q) X.xe s
def UnR (X : Cx) (f : Value → Sem Value) (r : V → Hp → VK → Prop) : Prop :=
  ∀ (pins : List (Addr × Obj)) (s : Shared) (σ : St) (H : Hp) (x : V) (v : Value) (Q : VK), Inv X pins σ H s → RelV x v → r x H Q →
    wpAny (model X.prog X.w) X.A (f v) (EP X pins σ Q) X.xe s
def CallR (X : Cx) (f : Value) (r : List V → Hp → VK → Prop) : Prop :=
  ∀ (pins : List (Addr × Obj)) (s : Shared) (σ : St) (H : Hp) (xs : List V) (us : List Value) (Q : VK), Inv X pins σ H s → Vals xs us → r xs H Q →
    wpAny (model X.prog X.w) X.A (call f us) (EP X pins σ Q) X.xe s
def tOp (r : R2) (ta tb : TE) : TE := fun σ H Q => ta σ H fun x H1 => tb σ H1 fun y H2 => r x y H2 Q
def tUn (r : V → Hp → VK → Prop) (ta : TE) : TE := fun σ H Q => ta σ H fun x H1 => r x H1 Q
def rI (C : Int → Int → Prop) (g : Int → Int → V) : R2 := fun x y H Q => ∃ i j, x = .int i ∧ y = .int j ∧ C i j ∧ Q (g i j) H
def rI0 (g : Int → Int → V) : R2 := fun x y H Q => ∃ i j, x = .int i ∧ y = .int j ∧ Q (g i j) H
def rU (g : Int → V) : V → Hp → VK → Prop := fun x H Q => ∃ i, x = .int i ∧ Q (g i) H
section
variable {X : Cx} {a b c : Expr} {ta tb tc : TE} {pos : Pos}
theorem binT (ha : PE X a ta) (hb : PE X b tb) {pins : List (Addr × Obj)} {s : Shared} {σ : St} {H : Hp} {R : V → V → Hp → Prop} (I : Inv X pins σ H s)
    (h : ta σ H fun x H1 => tb σ H1 fun y H2 => R x y H2) {Q : Value → Shared → Prop} {f : Value → Value → Sem Value}
    (hf : ∀ v u s2 x y H2, Inv X pins σ H2 s2 → RelV x v → RelV y u → R x y H2 → wpAny (model X.prog X.w) X.A (f v u) Q X.xe s2) :
    wpAny (model X.prog X.w) X.A (eval a X.env) (fun v s₁ => wpAny (model X.prog X.w) X.A (eval b X.env) (fun u s₂ => wpAny (model X.prog X.w) X.A (f v u) Q X.xe s₂) X.xe s₁) X.xe s := by
  refine thn (ha pins s σ H _ I h) fun v s1 ⟨x, H1, I1, r1, q1⟩ => ?_
  refine thn (hb pins s1 σ H1 _ I1 q1) fun u s2 ⟨y, H2, I2, r2, q2⟩ => ?_
  exact hf v u s2 x y H2 I2 r1 r2 q2
theorem pe_op {op : Operator} {r : R2} (ho : OpR X (binaryOp op) r) (ha : PE X a ta) (hb : PE X b tb) : PE X (.BinOp a op b pos) (tOp r ta tb) := by
  intro pins s σ H Q I h
  exact wpAny_BinOp (binT ha hb I h fun v u s2 x y H2 I2 rx ry q => ho pins s2 σ H2 x y v u Q I2 rx ry q)
theorem pe_un {op : UnaryOp} {r : V → Hp → VK → Prop} (ho : UnR X (unaryOp op) r) (ha : PE X a ta) : PE X (.UnaryOp op a pos) (tUn r ta) := by
  intro pins s σ H Q I h
  exact UnaryOp_ (thn (ha pins s σ H _ I h) fun v s1 ⟨x, H1, I1, r1, q1⟩ => ho pins s1 σ H1 x v Q I1 r1 q1)
theorem opI {f : Value → Value → Sem Value} {C : Int → Int → Prop} {g : Int → Int → Int}
    (rule : ∀ (i j : Int) (t u : Tok) (s : Shared) (Q : Value → Shared → Prop) (E : Value → Shared → Prop), C i j → Q (.int (g i j) s.toks) { s with toks := s.toks + 1 } → wpAny (model X.prog X.w) X.A (f (.int i t) (.int j u)) Q E s) :
    OpR X f (rI C fun i j => .int (g i j)) := by
  intro pins s σ H x y v u Q I rx ry h
  obtain ⟨i, j, rfl, rfl, hc, q⟩ := h
  obtain ⟨t, rfl⟩ := rx
  obtain ⟨t', rfl⟩ := ry
  exact rule i j t t' s _ _ hc ⟨.int (g i j), H, I.tok _, ⟨_, rfl⟩, q⟩
theorem opI0 {f : Value → Value → Sem Value} {g : Int → Int → Int}
    (rule : ∀ (i j : Int) (t u : Tok) (s : Shared) (Q : Value → Shared → Prop) (E : Value → Shared → Prop), Q (.int (g i j) s.toks) { s with toks := s.toks + 1 } → wpAny (model X.prog X.w) X.A (f (.int i t) (.int j u)) Q E s) :
    OpR X f (rI0 fun i j => .int (g i j)) := by
  intro pins s σ H x y v u Q I rx ry h
  obtain ⟨i, j, rfl, rfl, q⟩ := h
  obtain ⟨t, rfl⟩ := rx
  obtain ⟨t', rfl⟩ := ry
  exact rule i j t t' s _ _ ⟨.int (g i j), H, I.tok _, ⟨_, rfl⟩, q⟩
theorem opB0 {f : Value → Value → Sem Value} {g : Int → Int → Bool}
    (rule : ∀ (i j : Int) (t u : Tok) (s : Shared) (Q : Value → Shared → Prop) (E : Value → Shared → Prop), Q (.bool (g i j)) s → wpAny (model X.prog X.w) X.A (f (.int i t) (.int j u)) Q E s) :
    OpR X f (rI0 fun i j => .bl (g i j)) := by
  intro pins s σ H x y v u Q I rx ry h
  obtain ⟨i, j, rfl, rfl, q⟩ := h
  obtain ⟨t, rfl⟩ := rx
  obtain ⟨t', rfl⟩ := ry
  exact rule i j t t' s _ _ ⟨.bl (g i j), H, I, rfl, q⟩
def CDiv (i j : Int) : Prop := 0 < j ∧ j < 1073741824
def CMul (i j : Int) : Prop := (-(2 ^ 64) < i ∧ i < 2 ^ 64) ∨ (-(2 ^ 64) < j ∧ j < 2 ^ 64)
theorem CMul.ok {i j : Int} (h : CMul i j) : IntMulOk i j := by
  rcases h with ⟨h1, h2⟩ | ⟨h1, h2⟩
  · exact .of_left (intBits_le_64 h1 h2)
  · exact .of_right (intBits_le_64 h1 h2)
theorem op_add : OpR X (binaryOp .Add) (rI0 fun i j => .int (i + j)) := opI0 fun _ _ _ _ _ _ _ q => add_int q
theorem op_mul : OpR X (binaryOp .Mult) (rI CMul fun i j => .int (i * j)) := opI fun _ _ _ _ _ _ _ hc q => mul_int q hc.ok
theorem op_fdiv : OpR X (binaryOp .FloorDiv) (rI CDiv fun i j => .int (i / j)) := opI fun i j _ _ _ _ _ hc q => by
  have h1 : (0 : Int) < j := hc.1
  have h2 : j < 1073741824 := hc.2
  exact floordiv_int (by omega) (by rw [Int.fdiv_eq_ediv_of_nonneg i (by omega)]; exact q) (.inl (PyProof.noPylong_small (by omega)))
theorem op_mod : OpR X (binaryOp .Mod) (rI (fun _ j => 0 < j) fun i j => .int (i % j)) := opI fun i j _ _ _ _ _ hc q => by
  have h1 : (0 : Int) < j := hc
  exact mod_int' (by omega) (by rw [Int.fmod_eq_emod_of_nonneg i (by omega)]; exact q)
theorem op_and : OpR X (binaryOp .BitAnd) (rI0 fun i j => .int (Builtin.bitAnd i j)) := opI0 fun _ _ _ _ _ _ _ q => and_int q
theorem unI {f : Value → Sem Value} {g : Int → Int}
    (rule : ∀ (i : Int) (t : Tok) (s : Shared) (Q : Value → Shared → Prop) (E : Value → Shared → Prop), Q (.int (g i) s.toks) { s with toks := s.toks + 1 } → wpAny (model X.prog X.w) X.A (f (.int i t)) Q E s) :
    UnR X f (rU fun i => .int (g i)) := by
  intro pins s σ H x v Q I rx h
  obtain ⟨i, rfl, q⟩ := h
  obtain ⟨t, rfl⟩ := rx
  exact rule i t s _ _ ⟨.int (g i), H, I.tok _, ⟨_, rfl⟩, q⟩
theorem un_neg : UnR X (unaryOp .USub) (rU fun i => .int (-i)) := unI fun _ _ _ _ _ q => neg_int q
end
def scal : V → V → Bool
  | .non, .non => true | .non, .int _ => true | .int _, .non => true | .non, .bl _ => true | .bl _, .non => true | .non, .str _ => true | .str _, .non => true
  | .int _, .int _ => true | .bl _, .bl _ => true | .str _, .str _ => true | .byt _, .byt _ => true
  | .int _, .str _ => true | .str _, .int _ => true | .bl _, .str _ => true | .str _, .bl _ => true
  | _, _ => false
def rEq : R2 := fun x y H Q => scal x y = true ∧ Q (.bl (decide (x = y))) H
theorem dec_int {i j : Int} : decide (V.int i = V.int j) = (i == j) := by
  rw [Bool.eq_iff_iff]
  simp
theorem dec_bl {i j : Bool} : decide (V.bl i = V.bl j) = (i == j) := by
  rw [Bool.eq_iff_iff]
  simp
theorem dec_str {i j : Str} : decide (V.str i = V.str j) = (i == j) := by
  rw [Bool.eq_iff_iff]
  simp
theorem dec_byt {i j : Array UInt8} : decide (V.byt i = V.byt j) = (i.toList == j.toList) := by
  rw [Bool.eq_iff_iff]
  cases i
  cases j
  simp
section
variable {X : Cx} {a b c : Expr} {ta tb tc : TE} {pos : Pos}
theorem fin_bl {pins : List (Addr × Obj)} {σ : St} {H : Hp} {s : Shared} {Q : VK} {k k' : Bool} (I : Inv X pins σ H s) (q : Q (.bl k) H) (e : k = k') : EP X pins σ Q (.bool k') s := by
  subst e
  exact ⟨.bl k, H, I, rfl, q⟩
theorem op_eq : OpR X (compareOp .Eq) rEq := by
  intro pins s σ H x y v u Q I rx ry h
  obtain ⟨hs, q⟩ := h
  cases x with
  | non =>
    cases rx
    cases y with
    | non => cases ry; exact PySem.EqNone.eq_none_none (fin_bl I q (by simp))
    | bl j => cases ry; exact PySem.EqNone.eq_none_bool (fin_bl I q (by simp))
    | int j => obtain ⟨t', rfl⟩ := ry; exact PySem.EqNone.eq_none_int (fin_bl I q (by simp))
    | str j => obtain ⟨t', rfl⟩ := ry; exact PySem.EqNone.eq_none_str (fin_bl I q (by simp))
    | _ => exact absurd (show false = true from hs) Bool.false_ne_true
  | bl i =>
    cases rx
    cases y with
    | non => cases ry; exact PySem.EqNone.eq_bool_none (fin_bl I q (by simp))
    | bl j => cases ry; exact eq_bool (fin_bl I q dec_bl)
    | str j => obtain ⟨t', rfl⟩ := ry; exact PySem.EqMixed.eq_bool_str (fin_bl I q (by simp))
    | _ => exact absurd (show false = true from hs) Bool.false_ne_true
  | int i =>
    obtain ⟨t, rfl⟩ := rx
    cases y with
    | non => cases ry; exact PySem.EqNone.eq_int_none (fin_bl I q (by simp))
    | int j => obtain ⟨t', rfl⟩ := ry; exact eq_int (fin_bl I q dec_int)
    | str j => obtain ⟨t', rfl⟩ := ry; exact PySem.EqMixed.eq_int_str (fin_bl I q (by simp))
    | _ => exact absurd (show false = true from hs) Bool.false_ne_true
  | str i =>
    obtain ⟨t, rfl⟩ := rx
    cases y with
    | non => cases ry; exact PySem.EqNone.eq_str_none (fin_bl I q (by simp))
    | bl j => cases ry; exact PySem.EqMixed.eq_str_bool (fin_bl I q (by simp))
    | int j => obtain ⟨t', rfl⟩ := ry; exact PySem.EqMixed.eq_str_int (fin_bl I q (by simp))
    | str j => obtain ⟨t', rfl⟩ := ry; exact eq_str (fin_bl I q dec_str)
    | _ => exact absurd (show false = true from hs) Bool.false_ne_true
  | byt i =>
    obtain ⟨t, rfl⟩ := rx
    cases y with
    | byt j => obtain ⟨t', rfl⟩ := ry; exact PySem.W.eq_bytes (fin_bl I q dec_byt)
    | _ => exact absurd (show false = true from hs) Bool.false_ne_true
  | _ => cases y <;> exact absurd (show false = true from hs) Bool.false_ne_true
theorem op_lt : OpR X (compareOp .Lt) (rI0 fun i j => .bl (decide (i < j))) := opB0 fun _ _ _ _ _ _ _ q => lt_int q
theorem op_le : OpR X (compareOp .LtE) (rI0 fun i j => .bl (decide (i ≤ j))) := opB0 fun _ _ _ _ _ _ _ q => le_int q
theorem op_gt : OpR X (compareOp .Gt) (rI0 fun i j => .bl (decide (j < i))) := opB0 fun _ _ _ _ _ _ _ q => gt_int q
theorem op_ge : OpR X (compareOp .GtE) (rI0 fun i j => .bl (decide (j ≤ i))) := opB0 fun _ _ _ _ _ _ _ q => ge_int q
theorem op_isN : OpR X (compareOp .Is) (fun x y H Q => y = .non ∧ Q (.bl (decide (x = .non))) H) := by
  intro pins s σ H x y v u Q I rx ry h
  obtain ⟨rfl, q⟩ := h
  cases ry
  refine is_none_gen (fin_bl I q ?_)
  cases x <;> first
    | (cases rx; rfl)
    | (obtain ⟨t, rfl⟩ := rx; rfl)
theorem OpR.or {f : Value → Value → Sem Value} {r r' : R2} (h : OpR X f r) (h' : OpR X f r') : OpR X f (fun x y H Q => r x y H Q ∨ r' x y H Q) := by
  intro pins s σ H x y v u Q I rx ry q
  rcases q with q | q
  · exact h pins s σ H x y v u Q I rx ry q
  · exact h' pins s σ H x y v u Q I rx ry q
theorem nomark (b : Expr) {op : CmpOp} (h : op ≠ .In := by decide) (h2 : op ≠ .NotIn := by decide) : behindInMarks op b = false := by
  have e1 : (op == CmpOp.In) = false := by cases op <;> first | rfl | exact absurd rfl h
  have e2 : (op == CmpOp.NotIn) = false := by cases op <;> first | rfl | exact absurd rfl h2
  cases b <;> simp [behindInMarks, e1, e2]
theorem pe_cmpR {op : CmpOp} {r : R2} (ho : OpR X (compareOp op) r) (ha : PE X a ta) (hb : PE X b tb) (hm : behindInMarks op b = false) : PE X (.Compare a [op] [b] pos) (tOp r ta tb) := by
  intro pins s σ H Q I h
  exact wpAny_Compare1 (binT ha hb I h fun v u s2 x y H2 I2 rx ry q => ho pins s2 σ H2 x y v u Q I2 rx ry q) hm
def tTest (t : TE) : TT := fun σ H Q => t σ H fun x H' => ∃ k, x = .bl k ∧ Q k H'
theorem pt_cmpR {op : CmpOp} {r : R2} (ho : OpR X (compareOp op) r) (ha : PE X a ta) (hb : PE X b tb) (hm : behindInMarks op b = false) : PT X (.Compare a [op] [b] pos) (tTest (tOp r ta tb)) := by
  intro pins s σ H Q I h
  refine wpAny_isTrue_Compare1 (thn (ha pins s σ H _ I h) fun v s1 ⟨x, H1, I1, r1, q1⟩ => thn (hb pins s1 σ H1 _ I1 q1) fun u s2 ⟨y, H2, I2, r2, q2⟩ =>
    thn (ho pins s2 σ H2 x y v u _ I2 r1 r2 q2) fun c s3 ⟨z, H3, I3, r3, k, e, q3⟩ => ?_) hm
  subst e
  cases r3
  exact wpAny_truthy_bool ⟨H3, I3, q3⟩
theorem line63 : (sizeLine : Nat) < 2 ^ 63 := by rw [sizeLine_eq]; decide
theorem vals1 {x : V} {us : List Value} (r : Vals [x] us) : ∃ u, us = [u] ∧ RelV x u := by
  cases r with
  | cons r1 r2 => cases r2; exact ⟨_, rfl, r1⟩
theorem vals2 {x y : V} {us : List Value} (r : Vals [x, y] us) : ∃ u w', us = [u, w'] ∧ RelV x u ∧ RelV y w' := by
  cases r with
  | cons r1 r2 =>
    cases r2 with
    | cons r3 r4 => cases r4; exact ⟨_, _, rfl, r1, r3⟩
theorem call_max2 (hc : X.calm = true) : CallR X (.builtin "max") (fun xs H Q => ∃ i j, xs = [.int i, .int j] ∧ Q (.int (if j > i then j else i)) H) := by
  intro pins s σ H xs us Q I r h
  obtain ⟨i, j, rfl, q⟩ := h
  obtain ⟨u, w', rfl, ⟨t, rfl⟩, ⟨t', rfl⟩⟩ := vals2 r
  refine max_two_ints (I.ok.hd hc) fun h' tk k => ⟨_, H, I.kept k, ?_, q⟩
  by_cases hj : j > i
  · rw [if_pos hj, if_pos hj]; exact ⟨_, rfl⟩
  · rw [if_neg hj, if_neg hj]; exact ⟨_, rfl⟩
end
end L2
namespace L2
open PySem PySem.Spec PyProof.Rows
structure ObjM (h : Heap) (x dx C : Addr) (mA : Str → Option Value) : Prop where
  obj : h.get? x = some (PySem.W.instObj C dx)
  ns : h.Ns1 dx mA
  ne : dx ≠ x
theorem lookIn_ns {h : Heap} {dx : Addr} {mA : Str → Option Value} (n : h.Ns1 dx mA) : ∃ od, h.get? dx = some od ∧ ∀ name, PySem.W.lookIn name od = some (mA name) := by
  obtain ⟨o, es, ep, ho, hd, hk, _, hm⟩ := n
  refine ⟨o, ho, fun name => ?_⟩
  have e := hm name
  unfold nsFind findBy at e
  rw [← Array.find?_toList] at e
  unfold PySem.W.lookIn
  rw [hd]
  dsimp only
  split
  · rename_i y q
    rw [q] at e
    exact congrArg some e
  · rename_i q
    rw [q] at e
    have a : es.toList.any (·.refKey) = false := by
      rw [List.any_eq_false]
      intro y hy
      obtain ⟨z, t, hkey⟩ := hk y (Array.mem_toList_iff.mp hy)
      simp [DictEntry.refKey, hkey]
    have a' : ¬ es.toList.any (·.refKey) = true := by rw [a]; exact Bool.false_ne_true
    rw [if_neg a']
    exact congrArg some e
theorem ObjM.look {h : Heap} {x dx C : Addr} {mA : Str → Option Value} (I : ObjM h x dx C mA) : ∃ od, PySem.W.InstAt h x (PySem.W.instObj C dx) C (some od) ∧ ∀ name, PySem.W.lookIn name od = some (mA name) :=
  let ⟨od, ho, hl⟩ := lookIn_ns I.ns
  ⟨od, ⟨I.obj, rfl, rfl, ho⟩, hl⟩
section
variable {prog : Program} {w : World} {A : Around} {E : Value → Shared → Prop} {s : Shared} {K : PySem.W.Frag} {x dx C f : Addr} {mA : Str → Option Value} {name : Str} {v : Value}
theorem get_map {expr : Bool} {Q : Value → Shared → Prop} (X : K.In s.heap) (I : ObjM s.heap x dx C mA) (hg : PySem.W.plainGet K C name = true) (hh : PySem.W.hasDictIn K C = true)
    (ha : PySem.W.findIn K (.ref C) name = some none) (hv : mA name = some v) (hv' : PySem.W.handedIn v = true) (h : Q v { s with toks := s.toks + 1 }) :
    wpAny (model prog w) A (getAttr (.ref x) name expr) Q E s := by
  obtain ⟨od, J, hl⟩ := I.look
  exact PySem.W.get_value X J (PySem.W.plainGet_of hg).1 (PySem.W.findObj_own hh ha rfl (by rw [hl, hv])) hv' h
theorem get_meth {pl : Sem Bool} {Q : Value × List Value → Shared → Prop} (X : K.In s.heap) (I : ObjM s.heap x dx C mA) (hg : PySem.W.plainGet K C name = true)
    (hf : PySem.W.findIn K (.ref C) name = some (some (.ref f))) (ht : PySem.W.isFn K (.ref f) = true) (hv : mA name = none) (h : Q (.ref f, [.ref x]) s) :
    wpAny (model prog w) A (getMethod (.ref x) name pl) Q E s := by
  obtain ⟨od, J, hl⟩ := I.look
  exact PySem.W.method_fn X J (PySem.W.plainGet_of hg).1 (PySem.W.plainGet_of hg).2 hf (beq_iff_eq.mp ht) (by show (PySem.W.lookIn name od).map (·.isSome) = some false; rw [hl, hv]; rfl) h
theorem set_map {ns : List Str} {Q : Unit → Shared → Prop} (X : K.In s.heap) (I : ObjM s.heap x dx C mA)
    (hs : PySem.W.findIn K (.ref C) "__setattr__" = some (some (.builtin "object.__setattr__"))) (hp : PySem.W.plainOver K C = true) (ht : PySem.W.takerIn K C name = some none) (hh : PySem.W.hasDictIn K C = true)
    (hw : PySem.Within mA ns) (hsz : ns.length ≤ sizeLine)
    (h : ∀ h', ObjM h' x dx C (fun y => if y = name then some v else mA y) → Heap.SameBut dx s.heap h' → Q () { s with heap := h', toks := s.toks + 2 }) :
    wpAny (model prog w) A (setAttr (.ref x) name v) Q E s := by
  obtain ⟨od, J, hl⟩ := I.look
  refine PySem.W.set_plain X J hs (PySem.W.osa_open (s := { s with toks := s.toks + 1 }) (r := none) X J hp ht fun b => ?_)
  obtain ⟨cd, hc, hd'⟩ := PySem.W.any_some hh
  have hx : s.heap.get? x = some ⟨.ref C, some dx, .plain, #[]⟩ := I.obj
  refine wpAny_bind (wpAny_pure (wpAny_bind (wpAny_bind (wpAny_loadPart hx (wpAny_bind (PySem.W.Looks.here (s := { s with toks := s.toks + 1 }) (PySem.W.looks_clsIn X hc) ?_))))))
  rw [hd']
  refine wpAny_pure (a := some dx) (wpAny_bind (wpAny_pure (wpAny_bind ?_)))
  refine wpAny_nsSet1 (s := { s with toks := s.toks + 1 }) I.ns fun h' hn2 hs2 => ?_
  obtain ⟨oD, esD, epD, hoD, hdD, hcD⟩ := hn2.count (PySem.Within.cons name v hw)
  refine wpAny_bind (wpAny_lookBehind hoD (by rw [hdD]; exact pastItsLine_dict (Nat.le_trans hcD (by rw [List.length_cons]; omega))) ?_)
  exact wpAny_pure (h _ ⟨(hs2.2 _ (Ne.symm I.ne)).trans I.obj, hn2, I.ne⟩ hs2)
theorem make_map {R : Result → Shared → Prop} {vs : List Value} {kw : List (Str × Value)} (X : K.In s.heap) (hm : PySem.W.makesIn K C = true)
    (hi : PySem.W.findIn K (.ref C) "__init__" = some (some (.ref f))) (hf : PySem.W.typeIn K (.ref f) = some (.type "function"))
    (h : codeAny (model prog w) (A.under (.builtin "type.__call__" ⟨.ref C :: vs, kw⟩)) (.call (.ref f) ⟨.ref (s.heap.objs.size + 1) :: vs, kw⟩) (PySem.W.InitBack (s.heap.objs.size + 1) R)
      { s with heap := (s.heap.push PySem.W.emptyDict).push (PySem.W.instObj C s.heap.objs.size) }) :
    codeAny (model prog w) A (.call (.ref C) ⟨vs, kw⟩) R s := by
  obtain ⟨hh, g, d, t, os⟩ := s
  exact PySem.W.make_core (PySem.W.makes_of X hm) (PySem.W.looks_findIn X hi) (fun self => PySem.W.bind_fn X self hf) (.inl rfl) h
end
def putF (f : Str) (v : V) : List (Str × V) → List (Str × V)
  | [] => [(f, v)]
  | (g, x) :: r => if g = f then (g, v) :: r else (g, x) :: putF f v r
theorem lookup_putF (f g : Str) (v : V) : ∀ fs : List (Str × V), (putF f v fs).lookup g = if g = f then some v else fs.lookup g
  | [] => by
    show List.lookup g [(f, v)] = _
    by_cases h : g = f
    · have hb : (g == f) = true := beq_iff_eq.mpr h
      simp only [List.lookup, hb, if_pos h]
    · have hb : (g == f) = false := beq_eq_false_iff_ne.mpr h
      simp only [List.lookup, hb, if_neg h]
  | (k, x) :: r => by
    have ih := lookup_putF f g v r
    rw [show putF f v ((k, x) :: r) = (if k = f then (k, v) :: r else (k, x) :: putF f v r) from rfl]
    by_cases hk : k = f
    · rw [if_pos hk]
      by_cases h : g = k
      · have hb : (g == k) = true := beq_iff_eq.mpr h
        simp only [List.lookup, hb, if_pos (h.trans hk)]
      · have hb : (g == k) = false := beq_eq_false_iff_ne.mpr h
        simp only [List.lookup, hb, if_neg (fun e : g = f => h (e.trans hk.symm))]
    · rw [if_neg hk]
      by_cases h : g = k
      · have hb : (g == k) = true := beq_iff_eq.mpr h
        simp only [List.lookup, hb, if_neg (fun e : g = f => hk (h.symm.trans e))]
      · have hb : (g == k) = false := beq_eq_false_iff_ne.mpr h
        simp only [List.lookup, hb]
        exact ih
theorem keys_putF (f : Str) (v : V) : ∀ fs : List (Str × V), f ∈ (putF f v fs).map (·.1) ∧ ∀ g, g ∈ fs.map (·.1) → g ∈ (putF f v fs).map (·.1)
  | [] => ⟨by simp [putF], fun g h => by simp at h⟩
  | (k, x) :: r => by
    obtain ⟨i1, i2⟩ := keys_putF f v r
    rw [show putF f v ((k, x) :: r) = (if k = f then (k, v) :: r else (k, x) :: putF f v r) from rfl]
    by_cases hk : k = f
    · rw [if_pos hk]
      subst hk
      exact ⟨by simp, fun g h => by simpa using h⟩
    · rw [if_neg hk]
      refine ⟨?_, fun g h => ?_⟩
      · rw [List.map_cons]
        exact List.mem_cons_of_mem _ i1
      · rw [List.map_cons] at h ⊢
        rcases List.mem_cons.mp h with e | e
        · exact List.mem_cons.mpr (.inl e)
        · exact List.mem_cons_of_mem _ (i2 g e)
theorem length_putF (f : Str) (v : V) : ∀ fs : List (Str × V), (putF f v fs).length ≤ fs.length + 1
  | [] => by simp [putF]
  | (k, x) :: r => by
    have ih := length_putF f v r
    rw [show putF f v ((k, x) :: r) = (if k = f then (k, v) :: r else (k, x) :: putF f v r) from rfl]
    by_cases hk : k = f
    · rw [if_pos hk, List.length_cons, List.length_cons]; omega
    · rw [if_neg hk, List.length_cons, List.length_cons]; omega
theorem RelO.some_of {v : V} {o : Option Value} (r : RelO (some v) o) : ∃ u, o = some u ∧ RelV v u := by
  cases o with
  | none => exact (show False from r).elim
  | some u => exact ⟨u, rfl, r⟩
theorem RelO.none_of {o : Option Value} (r : RelO none o) : o = none := by
  cases o with
  | none => rfl
  | some u => exact (show False from r).elim
theorem handed_of {v : V} {u : Value} (r : RelV v u) : PySem.W.handedIn u = true := by
  cases v with
  | non => cases (show u = Value.none from r); rfl
  | bl b => cases (show u = Value.bool b from r); rfl
  | int i => obtain ⟨t, e⟩ := (show ∃ t, u = Value.int i t from r); cases e; rfl
  | str x => obtain ⟨t, e⟩ := (show ∃ t, u = Value.str x t from r); cases e; rfl
  | byt b => obtain ⟨t, e⟩ := (show ∃ t, u = Value.bytes b t from r); cases e; rfl
  | flt b => obtain ⟨t, e⟩ := (show ∃ t, u = Value.float b t from r); cases e; rfl
  | ref a => cases (show u = Value.ref a from r); rfl
  | ty n => cases (show u = Value.type n from r); rfl
section
variable {P : Program} {w : World} {H H' : Hp} {h h' : Heap} {a C dx : Addr} {fs fs' : List (Str × V)}
theorem ins_get (hok : HOk P w H h) (e : H a = some (.ins C dx fs)) : ∃ mA, ObjM h a dx C mA ∧ (∀ f, RelO (fs.lookup f) (mA f)) ∧ PySem.Within mA (fs.map (·.1)) ∧ fs.length ≤ 1000 ∧ H dx = some (.own a) := by
  obtain ⟨d, z, ne, ob, mA, n, r, q⟩ := (show ObjOk P w H h a (.ins C dx fs) from hok a _ e)
  exact ⟨mA, ⟨ob, n, ne⟩, r, q, z, d⟩
end
structure Cls (K : PySem.W.Frag) (C : Addr) : Prop where
  pg : PySem.W.plainGet K C Str.empty = true
  hd : PySem.W.hasDictIn K C = true
  po : PySem.W.plainOver K C = true
  sa : PySem.W.findIn K (.ref C) "__setattr__" = some (some (.builtin "object.__setattr__"))
theorem Cls.get {K : PySem.W.Frag} {C : Addr} (c : Cls K C) (f : Str) : PySem.W.plainGet K C f = true := c.pg
def NoAttr (K : PySem.W.Frag) (C : Addr) (f : Str) : Prop := PySem.W.findIn K (.ref C) f = some none
theorem NoAttr.taker {K : PySem.W.Frag} {C : Addr} {f : Str} (n : NoAttr K C f) : PySem.W.takerIn K C f = some none := by
  unfold PySem.W.takerIn
  rw [show PySem.W.findIn K (.ref C) f = some none from n]
  rfl
structure Meth (K : PySem.W.Frag) (C : Addr) (m : Str) (f : Addr) : Prop where
  at_ : PySem.W.findIn K (.ref C) m = some (some (.ref f))
  fn : PySem.W.isFn K (.ref f) = true
  kp : PySem.W.keepIn K (.ref f) = true
section
variable {X : Cx} {pins : List (Addr × Obj)} {σ : St} {H : Hp} {s : Shared} {a C dx : Addr} {fs : List (Str × V)} {f : Str} {v : V} {A : Around} {E : Value → Shared → Prop}
theorem getattr_ok {b : Bool} {Q : Value → Shared → Prop} (I : Inv X pins σ H s) (e : H a = some (.ins C dx fs)) (c : Cls X.K C) (n : NoAttr X.K C f) (l : fs.lookup f = some v)
    (h : ∀ u s', Inv X pins σ H s' → RelV v u → Q u s') : wpAny (model X.prog X.w) A (getAttr (.ref a) f b) Q E s := by
  obtain ⟨mA, O, r, _, _, _⟩ := ins_get I.hok e
  obtain ⟨u, hu, ru⟩ := RelO.some_of (v := v) (o := mA f) (by rw [← l]; exact r f)
  exact get_map I.kIn O (c.get f) c.hd n hu (handed_of ru) (h u _ (I.tok _) ru)
theorem getmeth_ok {m : Str} {g : Addr} {pl : Sem Bool} {Q : Value × List Value → Shared → Prop} (I : Inv X pins σ H s) (e : H a = some (.ins C dx fs)) (c : Cls X.K C) (k : Meth X.K C m g) (l : fs.lookup m = none)
    (h : Q (.ref g, [.ref a]) s) : wpAny (model X.prog X.w) A (getMethod (.ref a) m pl) Q E s := by
  obtain ⟨mA, O, r, _, _, _⟩ := ins_get I.hok e
  have hn : mA m = none := RelO.none_of (by rw [← l]; exact r m)
  exact get_meth I.kIn O (c.get m) k.at_ k.fn hn h
theorem setattr_ok {y : V} {u : Value} {Q : Unit → Shared → Prop} (I : Inv X pins σ H s) (e : H a = some (.ins C dx fs)) (c : Cls X.K C) (n : NoAttr X.K C f) (hl : fs.length < 1000) (ry : RelV y u)
    (h : ∀ s', Inv X pins σ (upd H a (.ins C dx (putF f y fs))) s' → Q () s') : wpAny (model X.prog X.w) A (setAttr (.ref a) f u) Q E s := by
  obtain ⟨mA, O, r, wi, _, ho⟩ := ins_get I.hok e
  have hz : (fs.map (·.1)).length ≤ sizeLine := by rw [List.length_map, sizeLine_eq]; omega
  refine set_map I.kIn O c.sa c.po n.taker c.hd wi hz fun h' O' sb => h _ ?_
  have hd : ∃ o, h'.get? dx = some o := let ⟨o, _, _, e', _⟩ := O'.ns; ⟨o, e'⟩
  refine I.write (x := a) (e := dx) (by rw [e]; exact True.intro) (.inr ho) (fun b q hb z => (sb.2 b hb).trans z) hd ?_
  refine ⟨by rw [upd_ne O.ne]; exact ho, ?_, O.ne, O'.obj, _, O'.ns, fun g => ?_, fun g hg => ?_⟩
  · have := length_putF f y fs; omega
  · show RelO ((putF f y fs).lookup g) (if g = f then some u else mA g)
    rw [lookup_putF]
    by_cases q : g = f
    · rw [if_pos q, if_pos q]; exact ry
    · rw [if_neg q, if_neg q]; exact r g
  · by_cases q : g = f
    · rw [q]; exact (keys_putF f y fs).1
    · refine (keys_putF f y fs).2 g (wi g fun z => hg ?_)
      show (if g = f then some u else mA g) = none
      rw [if_neg q]; exact z
theorem Inv.made (I : Inv X pins σ H s) : Inv X pins σ (upd (upd H s.heap.objs.size (.own (s.heap.objs.size + 1))) (s.heap.objs.size + 1) (.ins C s.heap.objs.size []))
    { s with heap := (s.heap.push PySem.W.emptyDict).push (PySem.W.instObj C s.heap.objs.size) } := by
  have e1 : (s.heap.push PySem.W.emptyDict).get? s.heap.objs.size = some PySem.W.emptyDict := Heap.get?_push_size s.heap rfl
  have e2 : ((s.heap.push PySem.W.emptyDict).push (PySem.W.instObj C s.heap.objs.size)).get? (s.heap.objs.size + 1) = some (PySem.W.instObj C s.heap.objs.size) := by
    have := Heap.get?_push_size (s.heap.push PySem.W.emptyDict) (o := PySem.W.instObj C s.heap.objs.size) rfl
    rwa [Heap.size_push] at this
  have e3 : (s.heap.push PySem.W.emptyDict).Ns s.heap.objs.size (fun _ => none) := ⟨PySem.W.emptyDict, #[], _, e1, rfl, (fun e he => absurd he (by simp)), fun _ => rfl⟩
  have I1 := I.laid (a := s.heap.objs.size) (o := .own (s.heap.objs.size + 1)) (h' := s.heap.push PySem.W.emptyDict) (t' := s.toks) (fun b u q => Heap.get?_push_of_some _ q) (Nat.le_refl _) ⟨_, e1⟩
  refine I1.laid (a := s.heap.objs.size + 1) (o := .ins C s.heap.objs.size []) (t' := s.toks) (fun b u q => Heap.get?_push_of_some _ q) (Nat.le_of_eq (Heap.size_push _ _)) ?_
  have ne : s.heap.objs.size ≠ s.heap.objs.size + 1 := Nat.ne_of_lt (Nat.lt_succ_self _)
  refine ⟨by rw [upd_ne ne, upd_same], Nat.zero_le _, ne, e2, fun _ => none, (Heap.Ns1.of_empty e3).at fun o q => Heap.get?_push_of_some _ q, fun _ => True.intro, fun y hy => absurd rfl hy⟩
theorem attr_of {prog : Program} {w : World} {env : Env} {e : Expr} {f : Str} {pos : Pos} {s : Shared} {Q : Value → Shared → Prop} (hb : attributeBase e f env (eval e env) = eval e env)
    (h : wpAny (model prog w) A (eval e env) (fun o s₁ => wpAny (model prog w) A (getAttr o f true) Q E s₁) E s) : wpAny (model prog w) A (eval (.Attribute e f pos) env) Q E s :=
  Attribute_any_ h (by rw [arm_eval_Attribute, hb])
end
def tFld (K : PySem.W.Frag) (ta : TE) (f : Str) : TE := fun σ H Q => ta σ H fun x H1 => ∃ a C dx fs v, x = .ref a ∧ H1 a = some (.ins C dx fs) ∧ Cls K C ∧ NoAttr K C f ∧ fs.lookup f = some v ∧ Q v H1
def sFld (K : PySem.W.Frag) (ta tv : TE) (f : Str) : TS := fun D σ H => tv σ H fun y H1 => ta σ H1 fun x H2 => ∃ a C dx fs, x = .ref a ∧ H2 a = some (.ins C dx fs) ∧ Cls K C ∧ NoAttr K C f ∧ fs.length < 1000 ∧
  D.nx σ (upd H2 a (.ins C dx (putF f y fs)))
section
variable {X : Cx} {o e value : Expr} {f : Str} {pos pos' tpos : Pos} {ta tv : TE}
theorem pe_fld (he : PE X e ta) (hb : attributeBase e f X.env (eval e X.env) = eval e X.env) : PE X (.Attribute e f pos) (tFld X.K ta f) := by
  intro pins s σ H Q I h
  refine attr_of hb (thn (he pins s σ H _ I h) fun u s1 ⟨x, H1, I1, rx, a, C, dx, fs, v, ex, ea, c, n, l, q⟩ => ?_)
  subst ex
  obtain rfl : u = Value.ref a := rx
  exact getattr_ok I1 ea c n l fun u' s2 I2 ru => ⟨v, H1, I2, ru, q⟩
theorem ps_fld (ha : PE X o ta) (hv : PE X value tv) (hs : swapsWith value (some (.Attribute o f pos')) pos.line X.env = pure false) : PS X (.Assign [.Attribute o f pos'] value pos) (sFld X.K ta tv f) := by
  intro pins s σ H D I h
  refine plainObj_wpAny_Assign_Attribute (thn (hv pins s σ H _ I h) fun u s1 ⟨y, H1, I1, ry, q⟩ => thn (ha pins s1 σ H1 _ I1 q) fun ov s2 ⟨x, H2, I2, rx, a, C, dx, fs, ex, ea, c, n, l, q2⟩ => ?_) hs
  subst ex
  obtain rfl : ov = Value.ref a := rx
  exact setattr_ok I2 ea c n l ry fun s3 I3 => ⟨σ, _, I3, q2⟩
end
end L2
namespace L2
open PySem PySem.Spec PyProof.Rows
structure Room (k : Nat) (A : Around) : Prop where
  hd : A.handled = none
  dp : A.depth + 3 * k + 5 < recursionLimit
  un : A.units + 16 * k + 200 < cLine
theorem Room.mono {j k : Nat} {A : Around} (r : Room k A) (h : j ≤ k) : Room j A := ⟨r.hd, by have := r.dp; omega, by have := r.un; omega⟩
theorem Room.deeper {k : Nat} {A : Around} (r : Room (k + 1) A) (env : Env) : Room k (A.deeper env) :=
  ⟨r.hd, by have := r.dp; show A.depth + 1 + 3 * k + 5 < _; omega, by have := r.un; show A.units + 3 + 16 * k + 200 < _; omega⟩
theorem Room.in1 {k : Nat} {A : Around} (r : Room (k + 1) A) : Room k A.in1 :=
  ⟨r.hd, by have := r.dp; show A.depth + 3 * k + 5 < _; omega, by have := r.un; show A.units + 1 + 16 * k + 200 < _; omega⟩
theorem make_depth {A : Around} {C : Addr} {us : List Value} {kw : List (Str × Value)} : (A.under (.builtin "type.__call__" ⟨.ref C :: us, kw⟩)).depth = A.depth + 1 := by
  first | rfl | simp [Around.under, Code.weight, Code.isCreation, Code.isGuard, Code.isCaller, Code.frames, Code.isFrame, guardIds]
theorem make_units {A : Around} {C : Addr} {us : List Value} {kw : List (Str × Value)} : (A.under (.builtin "type.__call__" ⟨.ref C :: us, kw⟩)).units = A.units + 1 := by
  first | rfl | simp [Around.under, Code.cUnits, Code.frames, Code.isFrame]
theorem Room.make {k : Nat} {A : Around} (r : Room (k + 1) A) (C : Addr) (us : List Value) (kw : List (Str × Value)) : Room k (A.under (.builtin "type.__call__" ⟨.ref C :: us, kw⟩)) :=
  ⟨r.hd, by have := r.dp; rw [make_depth]; omega, by have := r.un; rw [make_units]; omega⟩
theorem Room.depth {k : Nat} {A : Around} (r : Room k A) : A.depth < recursionLimit := by have := r.dp; omega
theorem Room.units {k : Nat} {A : Around} (r : Room k A) : A.units + 64 < cLine := by have := r.un; omega
def tNil : TA := fun _ H Q => Q [] H
def tCons (ta : TE) (tr : TA) : TA := fun σ H Q => ta σ H fun x H1 => tr σ H1 fun xs H2 => Q (x :: xs) H2
section
variable {X : Cx} {e : Expr} {es : List Expr} {te : TE} {t : TA} {pos : Pos}
theorem pa_nil : PA X [] tNil := fun _ _ _ _ H Q I h => Calls.spliced_nil ⟨[], H, I, .nil, h⟩
theorem pa_cons (ha : PE X e te) (hr : PA X es t) (hs : starEach (e :: es) X.env = (false, eval e X.env) :: starEach es X.env := by rfl) : PA X (e :: es) (tCons te t) := by
  intro pos pins s σ H Q I h
  rw [hs]
  show wpAny _ _ (spliced ((false, eval e X.env) :: backTo pos (starEach es X.env))) _ _ s
  refine Calls.spliced_cons (thn (ha pins s σ H _ I h) fun u s1 ⟨x, H1, I1, r1, q1⟩ => ?_)
  exact thn (hr pos pins s1 σ H1 _ I1 q1) fun us s2 ⟨xs, H2, I2, r2, q2⟩ => ⟨x :: xs, H2, I2, .cons r1 r2, q2⟩
def tTup (t : TA) : TE := fun σ H Q => t σ H fun xs H1 => xs.length ≤ sizeLine ∧ ∀ p, H1 p = none → Q (.ref p) (upd H1 p (.tup xs))
def tLst (t : TA) : TE := fun σ H Q => t σ H fun xs H1 => xs.length ≤ sizeLine ∧ ∀ p, H1 p = none → Q (.ref p) (upd H1 p (.lst xs))
theorem pe_tup {x1} (h : PA X es t) : PE X (.Tuple es x1 pos) (tTup t) := by
  intro pins s σ H Q I hq
  refine wpAny_Tuple_spliced (thn (h pos pins s σ H _ I hq) fun us s1 ⟨xs, H1, I1, r, z, q⟩ => ⟨by rw [← r.length]; exact z, ?_⟩)
  have hf : H1 s1.heap.objs.size = none := I1.hok.fresh (Nat.le_refl _)
  refine ⟨.ref s1.heap.objs.size, upd H1 s1.heap.objs.size (.tup xs), I1.laid (t' := s1.toks) (fun b u e => Heap.get?_push_of_some _ e) (Nat.le_refl _) ?_, rfl, q _ hf⟩
  exact ⟨z, us, r, ⟨_, Heap.get?_push_size _ rfl, rfl, _, rfl⟩⟩
theorem pe_lst (h : PA X es t) : PE X (.List es pos) (tLst t) := by
  intro pins s σ H Q I hq
  refine wpAny_List_spliced (thn (h pos pins s σ H _ I hq) fun us s1 ⟨xs, H1, I1, r, z, q⟩ => ⟨by rw [← r.length]; exact z, ?_⟩)
  have hf : H1 s1.heap.objs.size = none := I1.hok.fresh (Nat.le_refl _)
  refine ⟨.ref s1.heap.objs.size, upd H1 s1.heap.objs.size (.lst xs), I1.laid (t' := s1.toks) (fun b u e => Heap.get?_push_of_some _ e) (Nat.le_refl _) ?_, rfl, q _ hf⟩
  exact ⟨z, us, 0, r, Heap.get?_push_size _ rfl⟩
end
abbrev Sp := List V → Hp → VK → XK → Prop
abbrev CXT := List Env → Hp → Shared → XK → Value → Shared → Prop
structure Env0 (P : Program) (w : World) (K : PySem.W.Frag) (mg : Str → Option Value) (base : Heap) (A : Around) (outer : List Env) (s : Shared) (H : Hp) : Prop where
  frames : A.frames = some outer
  mod : Mod K mg base
  bs : ∀ b o, base.get? b = some o → s.heap.get? b = some o ∧ H b = none
  bsz : base.objs.size ≤ s.heap.objs.size
  funs : s.heap.FunFrames base outer
  frf : ∀ b ∈ frs outer, H b = none
  hok : HOk P w H s.heap
  bare : AllBare s.gens
def CE (outer : List Env) (P : Program) (w : World) (H : Hp) (s : Shared) (Q : VK) (u : Value) (s' : Shared) : Prop :=
  ∃ v H', s'.os = s.os ∧ AllBare s'.gens ∧ Un (frs outer) [] H H' s.heap s'.heap ∧ HOk P w H' s'.heap ∧ RelV v u ∧ Q v H'
def CR (CX : CXT) (outer : List Env) (P : Program) (w : World) (H : Hp) (s : Shared) (Q : VK) (E : XK) (r : Result) (s' : Shared) : Prop :=
  match r with
  | .ok (.ret u) => CE outer P w H s Q u s'
  | .ok _ => False
  | .error e => CX outer H s E e s'
structure FnOk (P : Program) (w : World) (K : PySem.W.Frag) (mg : Str → Option Value) (base : Heap) (CX : CXT) (k : Nat) (f : Addr) (fd : FuncData) (ps : List Str) (sp : Sp) : Prop where
  len : ∀ vs H Q E, sp vs H Q E → vs.length = ps.length
  run : ∀ (A : Around) (outer : List Env) (s : Shared) (H : Hp) (args : Args) (us : List Value) (vs : List V) (Q : VK) (E : XK), Room k A → Env0 P w K mg base A outer s H → BindsTo s fd args (ps.zip us) → Vals vs us → sp vs H Q E →
    codeAny (model P w) A (.call (.ref f) args) (CR CX outer P w H s Q E) s
theorem FnOk.mono {P : Program} {w : World} {K : PySem.W.Frag} {mg : Str → Option Value} {base : Heap} {CX : CXT} {j k : Nat} {f : Addr} {fd : FuncData} {ps : List Str} {sp : Sp} (F : FnOk P w K mg base CX j f fd ps sp) (h : j ≤ k) :
    FnOk P w K mg base CX k f fd ps sp := ⟨F.len, fun A outer s H args us vs Q E hr => F.run A outer s H args us vs Q E (hr.mono h)⟩
theorem FnOk.imp {P : Program} {w : World} {K : PySem.W.Frag} {mg : Str → Option Value} {base : Heap} {CX : CXT} {k : Nat} {f : Addr} {fd : FuncData} {ps : List Str} {sp sp' : Sp} (F : FnOk P w K mg base CX k f fd ps sp)
    (h : ∀ vs H Q E, sp' vs H Q E → sp vs H Q E) : FnOk P w K mg base CX k f fd ps sp' :=
  ⟨fun vs H Q E q => F.len vs H Q E (h _ _ _ _ q), fun A outer s H args us vs Q E hr he hb hv hs => F.run A outer s H args us vs Q E hr he hb hv (h _ _ _ _ hs)⟩
theorem Env0.make {P : Program} {w : World} {K : PySem.W.Frag} {mg : Str → Option Value} {base : Heap} {A : Around} {outer : List Env} {s : Shared} {H : Hp} (e : Env0 P w K mg base A outer s H) (C : Addr) (us : List Value) (kw : List (Str × Value)) :
    Env0 P w K mg base (A.under (.builtin "type.__call__" ⟨.ref C :: us, kw⟩)) outer s H := ⟨by first | exact e.frames | (simpa [Around.under, Code.envs, Code.isFrame, pushEnvs] using e.frames), e.mod, e.bs, e.bsz, e.funs, e.frf, e.hok, e.bare⟩
theorem Env0.in1 {P : Program} {w : World} {K : PySem.W.Frag} {mg : Str → Option Value} {base : Heap} {A : Around} {outer : List Env} {s : Shared} {H : Hp} (e : Env0 P w K mg base A outer s H) :
    Env0 P w K mg base A.in1 outer s H := ⟨e.frames, e.mod, e.bs, e.bsz, e.funs, e.frf, e.hok, e.bare⟩
section
variable {X : Cx} {pins : List (Addr × Obj)} {σ : St} {H : Hp} {s s' : Shared}
theorem Inv.env0 (I : Inv X pins σ H s) : Env0 X.prog X.w X.K X.mg X.base X.A X.stack s H :=
  ⟨I.ok.frames, I.ok.mod, I.bs, Nat.le_trans I.ok.bsz I.sz, I.stack, I.stkFree, I.hok, I.bare⟩
theorem Inv.after {Q : VK} {u : Value} (I : Inv X pins σ H s) (h : CE X.stack X.prog X.w H s Q u s') : EP X pins σ Q u s' := by
  obtain ⟨v, H', os, bare, un, hok, r, q⟩ := h
  obtain ⟨hh, g, d, t, os'⟩ := s'
  obtain rfl : os' = s.os := os
  exact ⟨v, H', I.call (h' := hh) (g' := g) (d' := d) (t' := t) (ch := []) un hok bare (fun b z => absurd z (by simp)), r, q⟩
end
def tCall (sp : Sp) (dvs : List V) (E : XK) (t : TA) : TE := fun σ H Q => t σ H fun vs H1 => sp (vs ++ dvs) H1 Q E
def tMeth (C : Addr) (m : Str) (sp : Sp) (dvs : List V) (E : XK) (ta : TE) (t : TA) : TE := fun σ H Q => ta σ H fun x H1 => ∃ a dx fs, x = .ref a ∧ H1 a = some (.ins C dx fs) ∧ fs.lookup m = none ∧
  t σ H1 fun vs H2 => sp (x :: (vs ++ dvs)) H2 Q E
def tMake (C : Addr) (sp : Sp) (dvs : List V) (E : XK) (t : TA) : TE := fun σ H Q => t σ H fun vs H1 => ∀ x dx, H1 x = none → H1 dx = none → dx ≠ x →
  sp (.ref x :: (vs ++ dvs)) (upd (upd H1 dx (.own x)) x (.ins C dx [])) (fun v H2 => v = .non ∧ Q (.ref x) H2) E
def Binds (K : PySem.W.Frag) (fd : FuncData) (ps : List Str) (ds : List Value) : Prop :=
  ∀ (s : Shared) (us : List Value), K.In s.heap → (us ++ ds).length = ps.length → BindsTo s fd ⟨us, []⟩ (ps.zip (us ++ ds))
theorem Binds.all {K : PySem.W.Frag} {fd : FuncData} {ps : List Str} (h : ∀ us : List Value, us.length = ps.length → bindArgs fd ⟨us, []⟩ = pure (ps.zip us)) : Binds K fd ps [] := fun s us _ hl => by
  rw [List.append_nil] at hl ⊢
  exact .of_eq (h us hl)
def Passes (CX : CXT) (X : Cx) (E : XK) : Prop := ∀ (pins : List (Addr × Obj)) (σ : St) (H : Hp) (s : Shared) (e : Value) (s' : Shared), Inv X pins σ H s → CX X.stack H s E e s' → X.xe e s'
section
variable {X : Cx} {CX : CXT} {k : Nat} {f C : Addr} {fd : FuncData} {ps : List Str} {sp : Sp} {dvs : List V} {ds : List Value} {E : XK} {x m : Str} {p pos apos : Pos} {e o : Expr} {es : List Expr} {ta : TE} {t : TA}
theorem run_fn {pins : List (Addr × Obj)} {σ : St} {H : Hp} {s : Shared} {Q : VK} {us : List Value} {vs : List V} (F : FnOk X.prog X.w X.K X.mg X.base CX k f fd ps sp) (hr : Room k X.A) (hb : Binds X.K fd ps ds) (hd : Vals dvs ds) (hx : Passes CX X E)
    (I : Inv X pins σ H s) (r : Vals vs us) (h : sp (vs ++ dvs) H Q E) : wpAny (model X.prog X.w) X.A (call (.ref f) us) (EP X pins σ Q) X.xe s := by
  have r2 : Vals (vs ++ dvs) (us ++ ds) := r.append hd
  have hl : (us ++ ds).length = ps.length := by rw [← r2.length]; exact F.len _ _ _ _ h
  refine wpAny_call (codeAny_mono (F.run X.A X.stack s H ⟨us, []⟩ (us ++ ds) (vs ++ dvs) Q E hr I.env0 (hb s us I.kIn hl) r2 h) fun r s' hq => ?_)
  cases r with
  | error e => exact hx pins σ H s e s' I hq
  | ok fl =>
    cases fl with
    | ret u => exact I.after hq
    | next => exact False.elim hq
    | brk => exact False.elim hq
    | cont => exact False.elim hq
theorem pe_call (F : FnOk X.prog X.w X.K X.mg X.base CX k f fd ps sp) (hr : Room k X.A) (hg : Gl X x) (hm : X.mg x = some (.ref f)) (hk : PySem.W.keepIn X.K (.ref f) = true) (hb : Binds X.K fd ps ds) (hd : Vals dvs ds) (hx : Passes CX X E)
    (ha : PA X (e :: es) t) (hdb : (x == ("__debug__" : Str)) = false := by decide) (he : starEach (e :: es) X.env = (false, eval e X.env) :: starEach es X.env := by rfl) (hpl : (backTo pos (starEach es X.env)).any (·.1) = false := by rfl) :
    PE X (.Call (.Name x p) (e :: es) [] pos) (tCall sp dvs E t) := by
  intro pins s σ H Q I h
  refine wpAny_Call_Name_kw (ld_glob I hg hm ?_ hdb)
  refine PySem.W.callWith_K (h₀ := X.base) I.ok.mod.kin hk (thn (ha pos pins s σ H _ I h) fun us s1 ⟨vs, H1, I1, r, q⟩ => ⟨I1.kIn, ?_⟩) he hpl
  exact run_fn F hr hb hd hx I1 r q
theorem pe_meth {pl : Sem Bool} (he : PE X o ta) (c : Cls X.K C) (hm : Meth X.K C m f) (F : FnOk X.prog X.w X.K X.mg X.base CX k f fd ps sp) (hr : Room k X.A) (hb : Binds X.K fd ps ds) (hd : Vals dvs ds) (hx : Passes CX X E) (ha : PA X (e :: es) t)
    (hst : starEach (e :: es) X.env = (false, eval e X.env) :: starEach es X.env := by rfl) (hpl : (backTo pos (starEach es X.env)).any (·.1) = false := by rfl)
    (ht : eval (.Call (.Attribute o m apos) (e :: es) [] pos) X.env = (do
      let ov ← eval o X.env
      standAt apos.atName
      let (f, first) ← holding [ov] (getMethod ov m pl)
      callWith pos f first (backTo pos (starEach (e :: es) X.env)) (backToKw pos (keywordEach [] X.env))) := by rfl) :
    PE X (.Call (.Attribute o m apos) (e :: es) [] pos) (tMeth C m sp dvs E ta t) := by
  intro pins s σ H Q I h
  refine PySem.W.methodCall_KW (pl := pl) (thn (he pins s σ H _ I h) fun u s1 ⟨x, H1, I1, rx, a, dx, fs, ex, ea, l, q⟩ => ?_) ht
  subst ex
  obtain rfl : u = Value.ref a := rx
  refine getmeth_ok I1 ea c hm l ?_
  refine PySem.W.callWith_K (first := [.ref a]) (h₀ := X.base) I.ok.mod.kin hm.kp (thn (ha pos pins s1 σ H1 _ I1 q) fun us s2 ⟨vs, H2, I2, r, q2⟩ => ⟨I2.kIn, ?_⟩) hst hpl
  exact run_fn (us := .ref a :: us) (vs := .ref a :: vs) F hr hb hd hx I2 (.cons rfl r) q2
theorem pe_meth0 {pl : Sem Bool} (he : PE X o ta) (c : Cls X.K C) (hm : Meth X.K C m f) (F : FnOk X.prog X.w X.K X.mg X.base CX k f fd ps sp) (hr : Room k X.A) (hb : Binds X.K fd ps ds) (hd : Vals dvs ds) (hx : Passes CX X E)
    (ht : eval (.Call (.Attribute o m apos) [] [] pos) X.env = (do
      let ov ← eval o X.env
      standAt apos.atName
      let (f, first) ← holding [ov] (getMethod ov m pl)
      callWith pos f first (backTo pos (starEach [] X.env)) (backToKw pos (keywordEach [] X.env))) := by rfl) :
    PE X (.Call (.Attribute o m apos) [] [] pos) (tMeth C m sp dvs E ta tNil) := by
  intro pins s σ H Q I h
  refine PySem.W.methodCall_KW (pl := pl) (thn (he pins s σ H _ I h) fun u s1 ⟨x, H1, I1, rx, a, dx, fs, ex, ea, l, q⟩ => ?_) ht
  subst ex
  obtain rfl : u = Value.ref a := rx
  refine getmeth_ok I1 ea c hm l ?_
  exact PySem.W.callWith_K0 (first := [.ref a]) I1.kIn hm.kp (run_fn (us := [.ref a]) (vs := [.ref a]) F hr hb hd hx I1 (.cons rfl .nil) q)
structure Mk (K : PySem.W.Frag) (C f : Addr) : Prop where
  makes : PySem.W.makesIn K C = true
  init : PySem.W.findIn K (.ref C) "__init__" = some (some (.ref f))
  fn : PySem.W.isFn K (.ref f) = true
  kp : PySem.W.keepIn K (.ref C) = true
theorem run_make {pins : List (Addr × Obj)} {σ : St} {H : Hp} {s : Shared} {Q : VK} {us : List Value} {vs : List V} (M : Mk X.K C f) (F : FnOk X.prog X.w X.K X.mg X.base CX k f fd ps sp) (hr : Room (k + 1) X.A) (hb : Binds X.K fd ps ds) (hd : Vals dvs ds)
    (hx : Passes CX X E) (I : Inv X pins σ H s) (r : Vals vs us)
    (h : ∀ x dx, H x = none → H dx = none → dx ≠ x → sp (.ref x :: (vs ++ dvs)) (upd (upd H dx (.own x)) x (.ins C dx [])) (fun v H2 => v = .non ∧ Q (.ref x) H2) E) :
    wpAny (model X.prog X.w) X.A (call (.ref C) us) (EP X pins σ Q) X.xe s := by
  have hq := h (s.heap.objs.size + 1) s.heap.objs.size (I.hok.fresh (Nat.le_succ _)) (I.hok.fresh (Nat.le_refl _)) (Nat.ne_of_lt (Nat.lt_succ_self _))
  have I2 := Inv.made (C := C) I
  have r2 : Vals (V.ref (s.heap.objs.size + 1) :: (vs ++ dvs)) (Value.ref (s.heap.objs.size + 1) :: (us ++ ds)) := .cons rfl (r.append hd)
  have hl : (Value.ref (s.heap.objs.size + 1) :: us ++ ds).length = ps.length := by
    have e := r2.length
    rw [F.len _ _ _ _ hq] at e
    exact e.symm
  refine wpAny_call (make_map (f := f) I.kIn M.makes M.init (beq_iff_eq.mp M.fn) (codeAny_mono (F.run _ X.stack _ _ ⟨Value.ref (s.heap.objs.size + 1) :: us, []⟩ (Value.ref (s.heap.objs.size + 1) :: (us ++ ds)) _ _ E (hr.make C us [])
    (I2.env0.make C us []) (hb _ (Value.ref (s.heap.objs.size + 1) :: us) I2.kIn hl) r2 hq) fun r s' hq' => ?_))
  cases r with
  | error e => exact hx pins σ _ _ e s' I2 hq'
  | ok fl =>
    cases fl with
    | ret u =>
      obtain ⟨v, H', I3, rv, ev, q3⟩ := I2.after hq'
      subst ev
      exact ⟨rv, ⟨V.ref (s.heap.objs.size + 1), H', I3, rfl, q3⟩⟩
    | next => exact False.elim hq'
    | brk => exact False.elim hq'
    | cont => exact False.elim hq'
theorem pe_make (M : Mk X.K C f) (F : FnOk X.prog X.w X.K X.mg X.base CX k f fd ps sp) (hr : Room (k + 1) X.A) (hg : Gl X x) (hm : X.mg x = some (.ref C)) (hb : Binds X.K fd ps ds) (hd : Vals dvs ds) (hx : Passes CX X E)
    (ha : PA X (e :: es) t) (hdb : (x == ("__debug__" : Str)) = false := by decide) (he : starEach (e :: es) X.env = (false, eval e X.env) :: starEach es X.env := by rfl) (hpl : (backTo pos (starEach es X.env)).any (·.1) = false := by rfl) :
    PE X (.Call (.Name x p) (e :: es) [] pos) (tMake C sp dvs E t) := by
  intro pins s σ H Q I h
  refine wpAny_Call_Name_kw (ld_glob I hg hm ?_ hdb)
  refine PySem.W.callWith_K (h₀ := X.base) I.ok.mod.kin M.kp (thn (ha pos pins s σ H _ I h) fun us s1 ⟨vs, H1, I1, r, q⟩ => ⟨I1.kIn, ?_⟩) he hpl
  exact run_make M F hr hb hd hx I1 r q
theorem pe_make0 (M : Mk X.K C f) (F : FnOk X.prog X.w X.K X.mg X.base CX k f fd ps sp) (hr : Room (k + 1) X.A) (hg : Gl X x) (hm : X.mg x = some (.ref C)) (hb : Binds X.K fd ps ds) (hd : Vals dvs ds) (hx : Passes CX X E)
    (hdb : (x == ("__debug__" : Str)) = false := by decide) : PE X (.Call (.Name x p) [] [] pos) (tMake C sp dvs E tNil) := by
  intro pins s σ H Q I h
  refine wpAny_Call_Name_kw (ld_glob I hg hm ?_ hdb)
  exact PySem.W.callWith_K0 I.kIn M.kp (run_make (us := []) M F hr hb hd hx I .nil h)
end
structure FnScope (N P : List Str) (sc : Scope) : Prop where
  kind : sc.kind = .function
  co : sc.isCoroutine = false
  gen : sc.isGenerator = false
  nd : N.Nodup
  pre : N.take P.length = P
  par : ∀ x ∈ P, sc.names.lookup x = some .local ∨ sc.names.lookup x = some .cell
  nofree : ∀ y ∈ sc.names, y.2 ≠ .free
theorem bindL_out {kindOf : Str → Option NameKind} {x : Str} : ∀ {binds : List (Str × Value)} {m : Str → Option Value}, (∀ v, (x, v) ∉ binds) → bindL kindOf binds m x = m x
  | [], _, _ => rfl
  | (n, v) :: r, m, h => by
    unfold bindL
    rw [bindL_out fun w hw => h w (List.mem_cons_of_mem _ hw)]
    split
    · have : x ≠ n := by rintro rfl; exact h v List.mem_cons_self
      simp [this]
    · rfl
theorem bindC_out {kindOf : Str → Option NameKind} {x : Str} : ∀ {binds : List (Str × Value)} {m : Str → Option Value}, (∀ v, (x, v) ∉ binds) → bindC kindOf binds m x = m x
  | [], _, _ => rfl
  | (n, v) :: r, m, h => by
    unfold bindC
    rw [bindC_out fun w hw => h w (List.mem_cons_of_mem _ hw)]
    split
    · rfl
    · have : x ≠ n := by rintro rfl; exact h v List.mem_cons_self
      simp [this]
theorem bindL_get {kindOf : Str → Option NameKind} {x : Str} {v : Value} : ∀ {P : List Str} {vs : List Value} {i : Nat} {m : Str → Option Value}, P.Nodup → P[i]? = some x → vs[i]? = some v → kindOf x = some .local →
    bindL kindOf (P.zip vs) m x = some v
  | [], _, _, _, _, h, _, _ => by simp at h
  | _ :: _, [], _, _, _, _, h, _ => by simp at h
  | p :: P, w :: vs, 0, m, nd, h1, h2, hk => by
    simp at h1 h2; subst h1; subst h2
    show bindL kindOf ((p, w) :: P.zip vs) m p = _
    unfold bindL
    rw [bindL_out fun v hv => (List.nodup_cons.mp nd).1 (List.of_mem_zip hv).1, if_pos hk]
    simp
  | p :: P, w :: vs, i + 1, m, nd, h1, h2, hk => by
    show bindL kindOf ((p, w) :: P.zip vs) m x = _
    unfold bindL
    exact bindL_get (i := i) (List.nodup_cons.mp nd).2 (by simpa using h1) (by simpa using h2) hk
theorem bindC_get {kindOf : Str → Option NameKind} {x : Str} {v : Value} : ∀ {P : List Str} {vs : List Value} {i : Nat} {m : Str → Option Value}, P.Nodup → P[i]? = some x → vs[i]? = some v → kindOf x ≠ some .local →
    bindC kindOf (P.zip vs) m x = some v
  | [], _, _, _, _, h, _, _ => by simp at h
  | _ :: _, [], _, _, _, _, h, _ => by simp at h
  | p :: P, w :: vs, 0, m, nd, h1, h2, hk => by
    simp at h1 h2; subst h1; subst h2
    show bindC kindOf ((p, w) :: P.zip vs) m p = _
    unfold bindC
    rw [bindC_out fun v hv => (List.nodup_cons.mp nd).1 (List.of_mem_zip hv).1, if_neg hk]
    simp
  | p :: P, w :: vs, i + 1, m, nd, h1, h2, hk => by
    show bindC kindOf ((p, w) :: P.zip vs) m x = _
    unfold bindC
    exact bindC_get (i := i) (List.nodup_cons.mp nd).2 (by simpa using h1) (by simpa using h2) hk
def start (N : List Str) (vs : List V) : St := vs.map some ++ List.replicate (N.length - vs.length) none
def cxOf (CX : CXT) (P : Program) (w : World) (K : PySem.W.Frag) (mg : Str → Option Value) (base : Heap) (N : List Str) (qual : Str) (scope : Scope) (f : Addr) (cd : Value) (A : Around) (outer : List Env) (s : Shared) (H : Hp) (E : XK) : Cx where
  prog := P
  w := w
  K := K
  mg := mg
  base := base
  A := A.deeper (envOfC qual scope s.heap.objs.size f cd)
  N := N
  s_0 := s
  H_0 := H
  env := envOfC qual scope s.heap.objs.size f cd
  outer := outer
  stack := envOfC qual scope s.heap.objs.size f cd :: outer
  ex := []
  calm := true
  fn := fun _ => true
  pn := []
  xe := fun e s' => wpAny (model P w) (A.deeper (envOfC qual scope s.heap.objs.size f cd)) (leaving (envOfC qual scope s.heap.objs.size f cd) e) (fun _ s'' => CX outer H s E e s'') (fun e' s'' => CX outer H s E e' s'') s'
theorem cell_has {sc : Scope} {n : Nat} {x : Str} (h : sc.names.lookup x = some .cell) : ∃ c, (cellsFrom n sc.names []).lookup x = some c := by
  have q := PySem.W.cellsFrom_some sc.names n [] (.inl h)
  exact Option.isSome_iff_exists.mp q
theorem inv_start {CX : CXT} {P : Program} {w : World} {K : PySem.W.Frag} {mg : Str → Option Value} {base : Heap} {N ps : List Str} {qual : Str} {scope : Scope} {f : Addr} {cd : Value} {A : Around} {outer : List Env} {s s1 : Shared} {H : Hp} {E : XK} {us : List Value} {vs : List V}
    (S : FnScope N ps scope) (hd : A.handled = none) (e0 : Env0 P w K mg base A outer s H) (hl : vs.length = ps.length) (r : Vals vs us)
    (x : InCallC s s.heap.objs.size (bindL (envOfC qual scope s.heap.objs.size f cd).kindOf (ps.zip us) fun _ => none) (cellsFrom (s.heap.objs.size + 1) scope.names []) (bindC (envOfC qual scope s.heap.objs.size f cd).kindOf (ps.zip us) fun _ => none) s1) :
    Inv (cxOf CX P w K mg base N qual scope f cd A outer s H E) [] (start N vs) H s1 := by
  have hpl : ps.length ≤ N.length := by have := congrArg List.length S.pre; rw [List.length_take] at this; omega
  obtain ⟨h1, tk, rfl, hk⟩ := x.done
  have noA : ∀ b : Addr, b ∉ (cxOf CX P w K mg base N qual scope f cd A outer s H E).ex := fun b z => absurd (show b ∈ ([] : List Addr) from z) (by simp)
  refine ⟨⟨e0.mod, S.kind, rfl, rfl, Nat.le_refl _, fun y z c h1 h2 => ?_, fun y hy => ?_, fun y c _ h => ?_, fun _ => hd, Around.frames_deeper e0.frames, .inr ⟨rfl, rfl⟩, fun b z => absurd z (noA b), e0.bs, e0.bsz, fun b _ _ => noA b, fun b z => absurd z (noA b), e0.funs, e0.frf⟩,
    rfl, e0.bare, Un.kept hk, ⟨_, x.toInCall.ns, fun i y v h1 h2 h3 => ?_⟩, fun y c h => ⟨_, x.cell y c h⟩, e0.hok.fresh (Nat.le_refl _), fun y c h => ?_, fun p hp => absurd (show p ∈ ([] : List (Addr × Obj)) from hp) (by simp), e0.hok.kept hk, ?_⟩
  · exact name_of_addr x.apart (PySem.mem_of_lookup h1) (PySem.mem_of_lookup h2)
  · have hy : scope.names.lookup y = some .cell ∨ scope.names.lookup y = some .free := hy
    rcases hy with hy | hy
    · exact cell_has hy
    · exact absurd rfl (S.nofree _ (PySem.mem_of_lookup hy))
  · exact Nat.le_of_lt (x.above y c (PySem.mem_of_lookup h))
  · have hi : i < vs.length := by
      unfold start at h2
      by_cases hi : i < vs.length
      · exact hi
      · rw [List.getElem?_append_right (by simpa using hi)] at h2
        rw [List.getElem?_replicate] at h2
        split at h2 <;> cases h2
    have ha : vs[i]? = some v := by
      unfold start at h2
      rw [List.getElem?_append_left (by simpa using hi), List.getElem?_map] at h2
      cases e : vs[i]? with
      | none => rw [e] at h2; cases h2
      | some a => rw [e] at h2; cases h2; rfl
    obtain ⟨u, hu, rv⟩ := r.get ha
    have hp : ps[i]? = some y := by
      rw [← S.pre, List.getElem?_take_of_lt (by omega)]; exact h1
    have ndP : ps.Nodup := by rw [← S.pre]; exact S.nd.sublist (List.take_sublist _ _)
    refine ⟨u, rv, ?_⟩
    rcases S.par y (List.mem_of_getElem? hp) with k | k
    · exact .inl ⟨k, bindL_get ndP hp hu k⟩
    · obtain ⟨c, e⟩ := cell_has (n := s.heap.objs.size + 1) k
      refine .inr ⟨.inl k, c, e, ?_⟩
      have q := x.cell y c e
      rw [bindC_get ndP hp hu (by show scope.names.lookup y ≠ _; rw [k]; decide)] at q
      exact q
  · exact e0.hok.fresh (Nat.le_of_lt (x.above y c (PySem.mem_of_lookup h)))
  · unfold start
    show _ = N.length
    rw [List.length_append, List.length_map, List.length_replicate]
    omega
theorem fn_of {CX : CXT} {P : Program} {w : World} {K : PySem.W.Frag} {mg : Str → Option Value} {base : Heap} {k : Nat} {f : Addr} {name qual : Str} {params : Arguments} {body : List Stmt} {scope : Scope} {dV kV doc pm cdv ct oc : Value} {an od : Option Addr}
    {osl : Array (Option Value)} {N ps : List Str} {sp : Sp} (lk : K.lookup f = some ⟨oc, od, .func (PySem.W.fnOf name qual params body scope dV kV doc pm an cdv ct), osl⟩) (hcd : PySem.W.codeIn K cdv qual = true) (S : FnScope N ps scope)
    (len : ∀ vs H Q E, sp vs H Q E → vs.length = ps.length)
    (hbody : ∀ (A : Around) (outer : List Env) (s : Shared) (H : Hp) (vs : List V) (Q : VK) (E : XK), Room k (A.deeper (envOfC qual scope s.heap.objs.size f cdv)) → sp vs H Q E →
      ∃ t, PSs (cxOf CX P w K mg base N qual scope f cdv A outer s H E) body t ∧ t { nx := fun _ H' => Q .non H', rt := Q } (start N vs) H) :
    FnOk P w K mg base CX (k + 1) f (PySem.W.fnOf name qual params body scope dV kV doc pm an cdv ct) ps sp := by
  refine ⟨len, fun A outer s H args us vs Q E hr e0 hb r hsp => ?_⟩
  have hl := len _ _ _ _ hsp
  have KX : K.In s.heap := e0.mod.kin.keeps fun b o e => (e0.bs b o e).1
  have lim : s.heap.NoLimit := e0.mod.nolimit.keeps fun b o e => (e0.bs b o e).1
  have hkind : ∀ y ∈ ps.zip us, scope.names.lookup y.1 = some .local ∨ (scope.names.lookup y.1 = some .cell ∧ ((cellsFrom (s.heap.objs.size + 1) scope.names []).lookup y.1).isSome = true) := fun ⟨n, v⟩ hy => by
    rcases S.par n (List.of_mem_zip hy).1 with q | q
    · exact .inl q
    · exact .inr ⟨q, PySem.W.cellsFrom_some _ _ _ (.inl q)⟩
  refine codeAny_call_function hr.depth (KX _ _ lk) rfl S.co S.gen rfl (PySem.W.codeRec_of KX hcd) (hb _ _ _ _ ?_)
  refine wpAny_newFunctionEnv_cells S.kind hkind fun env he s1 x => ?_
  subst he
  refine ⟨lim.keeps x.toInCall.keep, codeAny_func ?_⟩
  obtain ⟨t, ht, hq⟩ := hbody A outer s H vs Q E (hr.deeper _) hsp
  have I : Inv (cxOf CX P w K mg base N qual scope f cdv A outer s H E) [] (start N vs) H s1 := inv_start S hr.hd e0 hl r x
  refine wpAny_mono (ht [] s1 (start N vs) H _ I hq) (fun fl s' hs => ?_) fun e s' hs => hs
  have fin : ∀ {σ' : St} {H' : Hp} {v : V} {u : Value}, Inv (cxOf CX P w K mg base N qual scope f cdv A outer s H E) [] σ' H' s' → RelV v u → Q v H' → CE outer P w H s Q u s' :=
    fun {σ' H' v u} J rv q => ⟨v, H', J.os, J.bare, J.base, J.hok, rv, q⟩
  cases fl with
  | ret u =>
    obtain ⟨v, σ', H', J, rv, q⟩ := hs
    exact fin J rv q
  | next =>
    obtain ⟨σ', H', J, q⟩ := hs
    exact fin (v := V.non) (u := Value.none) J rfl q
  | brk =>
    obtain ⟨_, _, _, q⟩ := hs
    exact False.elim q
  | cont =>
    obtain ⟨_, _, _, q⟩ := hs
    exact False.elim q
end L2
namespace L2
open PySem PySem.Spec PyProof.Rows
section
variable {X : Cx} {x : Str} {p pos : Pos} {e : Expr} {es : List Expr} {t : TA} {id T : String} {r : List V → Hp → VK → Prop}
def tCB (r : List V → Hp → VK → Prop) (t : TA) : TE := fun σ H Q => t σ H fun vs H1 => r vs H1 Q
theorem pe_callB (hc : CallR X (.builtin id) r) (hg : Gl X x) (hm : X.mg x = none) (hv : bootBuiltins x = some (.builtin id)) (ha : PA X (e :: es) t) (hn : x ≠ "__name__" := by decide) (hdb : (x == ("__debug__" : Str)) = false := by decide)
    (he : starEach (e :: es) X.env = (false, eval e X.env) :: starEach es X.env := by rfl) (hpl : (backTo pos (starEach es X.env)).any (·.1) = false := by rfl) : PE X (.Call (.Name x p) (e :: es) [] pos) (tCB r t) := by
  intro pins s σ H Q I h
  refine wpAny_Call_Name_kw (ld_blt I hg hm hv ?_ hn hdb)
  exact PyProof.Rows.callWith_builtin1 (thn (ha pos pins s σ H _ I h) fun us s1 ⟨vs, H1, I1, r1, q1⟩ => hc pins s1 σ H1 vs us Q I1 r1 q1) he hpl
theorem pe_callTy (hc : CallR X (.type T) r) (hg : Gl X x) (hm : X.mg x = none) (hv : bootBuiltins x = some (.type T)) (ha : PA X (e :: es) t) (hn : x ≠ "__name__" := by decide) (hdb : (x == ("__debug__" : Str)) = false := by decide)
    (he : starEach (e :: es) X.env = (false, eval e X.env) :: starEach es X.env := by rfl) (hpl : (backTo pos (starEach es X.env)).any (·.1) = false := by rfl) : PE X (.Call (.Name x p) (e :: es) [] pos) (tCB r t) := by
  intro pins s σ H Q I h
  refine wpAny_Call_Name_kw (ld_blt I hg hm hv ?_ hn hdb)
  exact PyProof.Rows.callWith_type1 (thn (ha pos pins s σ H _ I h) fun us s1 ⟨vs, H1, I1, r1, q1⟩ => hc pins s1 σ H1 vs us Q I1 r1 q1) he hpl
end
end L2
namespace HT
open PySem PyProof.Rows
section
open PySem.SeqAt
open PySem.AutoSeq1 (wpAny_loadPart')
open PySem.MeetsSeq PySem.MeetsSeq2 PySem.MeetsSeq3
end
section
variable {prog : Program} {w : World} {A : Around} {E : Value → Shared → Prop} {s : Shared}
def sIx (n d : Nat) : Option Int → Nat
  | none => d
  | some v => if v < 0 then (v + (n : Int)).toNat else min v.toNat n
theorem sIx_none (n d : Nat) : sIx n d none = d := rfl
theorem sIx_nat (n d k : Nat) : sIx n d (some (k : Int)) = min k n := by
  show (if (k : Int) < 0 then ((k : Int) + (n : Int)).toNat else min (k : Int).toNat n) = min k n
  rw [if_neg (by omega), Int.toNat_natCast]
theorem sIx_le (n d : Nat) (hd : d ≤ n) (o : Option Int) : sIx n d o ≤ n := by
  cases o with
  | none => exact hd
  | some v =>
    show (if v < 0 then (v + (n : Int)).toNat else min v.toNat n) ≤ n
    by_cases hv : v < 0
    · rw [if_pos hv]; omega
    · rw [if_neg hv]; exact Nat.min_le_right _ _
theorem clip_eq (v : Int) (n d : Nat) : (if v < 0 then max (v + (n : Int)) 0 else min v (n : Int)) = ((sIx n d (some v) : Nat) : Int) := by
  show (if v < 0 then max (v + (n : Int)) 0 else min v (n : Int)) = (((if v < 0 then (v + (n : Int)).toNat else min v.toNat n) : Nat) : Int)
  by_cases hv : v < 0
  · simp only [if_pos hv]; omega
  · simp only [if_neg hv]; omega
theorem adjust_gen (lo hi : Option Int) (n : Nat) : Builtin.Slice.sliceAdjust lo hi 1 (n : Int) = (((sIx n 0 lo : Nat) : Int), ((sIx n n hi : Nat) : Int)) := by
  have h1 : ¬ ((1 : Int) < 0) := by omega
  unfold Builtin.Slice.sliceAdjust
  simp only [h1, if_false]
  refine Prod.ext ?_ ?_
  · cases lo with
    | none => rfl
    | some v => exact clip_eq v n 0
  · cases hi with
    | none => rfl
    | some v => exact clip_eq v n n
theorem places_gen (i j : Nat) : Builtin.Slice.slicePlaces (i : Int) (j : Int) 1 = j - i := by
  unfold Builtin.Slice.slicePlaces
  have h1 : (1 : Int) > 0 := by omega
  simp only [h1, if_true, Int.ediv_one]
  split <;> omega
theorem slicePart_ {v : Value} {o : Option Int} {Q : Option Int → Shared → Prop} (p : IsPart v o) (h : Q o s) : wpAny (model prog w) A (Builtin.Slice.slicePartIndex v) Q E s := by
  cases p with
  | none => exact slicePart_none h
  | int i t => exact slicePart_int h
theorem sliceApplied_gen {sl : Addr} {vl vu : Value} {lo hi : Option Int} {n : Nat} {Q : Int × Int × Nat → Shared → Prop} (hs : s.heap.IsSliceOf sl vl vu .none) (pl : IsPart vl lo) (pu : IsPart vu hi)
    (h : Q (((sIx n 0 lo : Nat) : Int), 1, sIx n n hi - sIx n 0 lo) s) : wpAny (model prog w) A (Builtin.Slice.sliceApplied (.ref sl) (pure (n : Int))) Q E s := by
  obtain ⟨os, hos, hcs, hds⟩ := id hs
  unfold Builtin.Slice.sliceApplied Builtin.Slice.sliceFields
  refine wpAny_bind (wpAny_bind (wpAny_field hos hds (x := vl) rfl (wpAny_bind (wpAny_field hos hds (x := vu) rfl (wpAny_bind (wpAny_field hos hds (x := .none) rfl (wpAny_pure ?_)))))))
  refine wpAny_bind (slicePart_none ?_)
  show wpAny _ _ (if ((1 : Int) == 0) = true then _ else _) _ _ s
  rw [if_neg (by decide)]
  refine wpAny_bind (slicePart_ pl (wpAny_bind (slicePart_ pu (wpAny_bind (wpAny_pure ?_)))))
  show wpAny _ _ (match Builtin.Slice.sliceAdjust lo hi 1 (n : Int) with | (lo, hi) => pure (lo, (1 : Int), Builtin.Slice.slicePlaces lo hi 1)) _ _ s
  rw [adjust_gen lo hi n]
  show wpAny _ _ (pure (((sIx n 0 lo : Nat) : Int), (1 : Int), Builtin.Slice.slicePlaces ((sIx n 0 lo : Nat) : Int) ((sIx n n hi : Nat) : Int) 1)) _ _ s
  rw [places_gen]
  exact wpAny_pure h
theorem pick_gen (xs : Array Value) (i k : Nat) : ((List.range k).filterMap fun (m : Nat) => xs[((i : Int) + (m : Int) * 1).toNat]?).toArray = ((xs.toList.drop i).take k).toArray := by
  have e : (fun (m : Nat) => xs[((i : Int) + (m : Int) * 1).toNat]?) = fun m => xs[i + m]? := by
    funext m
    have : ((i : Int) + (m : Int) * 1).toNat = i + m := by omega
    rw [this]
  rw [e]
  have := pick_run xs i k
  rw [List.filterMap_map] at this
  have e2 : ((fun x => xs[x]?) ∘ fun x => i + x) = fun m => xs[i + m]? := rfl
  rw [e2] at this
  rw [this]
theorem getItem_tuple_cut {t sl : Addr} {items : Array Value} {vl vu : Value} {lo hi : Option Int} {Q : Value → Shared → Prop} (ht : IsTup s.heap t items) (hs : s.heap.IsSliceOf sl vl vu .none) (pl : IsPart vl lo) (pu : IsPart vu hi)
    (hw : ¬ (sIx items.size 0 lo = 0 ∧ sIx items.size items.size hi = items.size))
    (h : Q (.ref s.heap.objs.size) { s with heap := s.heap.push { cls := .type "tuple", data := .seq ((items.toList.drop (sIx items.size 0 lo)).take (sIx items.size items.size hi - sIx items.size 0 lo)).toArray } })
    (hsz : items.size ≤ sizeLine) : wpAny (model prog w) A (getItem (.ref t) (.ref sl)) Q E s := by
  have htake : sizeOk (.seq ((items.toList.drop (sIx items.size 0 lo)).take (sIx items.size items.size hi - sIx items.size 0 lo)).toArray) := by
    show ((items.toList.drop (sIx items.size 0 lo)).take (sIx items.size items.size hi - sIx items.size 0 lo)).toArray.size ≤ sizeLine
    rw [List.size_toArray, List.length_take, List.length_drop, Array.length_toList]
    omega
  have hj : sIx items.size items.size hi ≤ items.size := sIx_le _ _ (Nat.le_refl _) hi
  obtain ⟨os, hos, hcs, hds⟩ := id hs
  have hTs : s.TypeIs (.ref sl) "slice" := ⟨os, hos, hcs⟩
  unfold getItem
  try with_reducible refine wpAny_holding ?_
  first | refine wpAny_bind (wpAny_pure ?_) | skip
  refine wpAny_bind (wpAny_sequenceKey ht.typeIs (by decide) ?_)
  refine wpAny_bind (wpAny_callSpecial?_slot (name := Str.ofString "__getitem__") ht.typeIs PyProof.Rows.slot_tuple_getitem
    (wpAny_call_entry PyProof.Rows.slot_tuple_getitem ht.typeIs entry_tuple_getitem ?_ (args_tuple_getitem _ _)))
  show wpAny _ _ (Builtin.Tuple.tupleItemsOf (.ref t) >>= _) _ _ s
  refine wpAny_bind (tupleItemsOf_ ht ?_)
  refine wpAny_bind (wpAny_typeOf hTs ?_)
  rw [if_pos (by decide)]
  refine wpAny_bind (sliceApplied_gen hs pl pu ?_)
  have hno : ¬ ((((sIx items.size 0 lo : Nat) : Int) == 0 && (1 : Int) == 1 && (sIx items.size items.size hi - sIx items.size 0 lo) == items.size) = true) := by
    intro q
    rw [Bool.and_eq_true, Bool.and_eq_true] at q
    have q1 : ((sIx items.size 0 lo : Nat) : Int) = 0 := eq_of_beq q.1.1
    have q2 : sIx items.size items.size hi - sIx items.size 0 lo = items.size := eq_of_beq q.2
    exact hw ⟨by omega, by omega⟩
  show wpAny _ _ (if (((sIx items.size 0 lo : Nat) : Int) == 0 && (1 : Int) == 1 && (sIx items.size items.size hi - sIx items.size 0 lo) == items.size) = true then _ else _) _ _ s
  rw [if_neg hno, pick_gen]
  first
    | exact wpAny_bind (m := Builtin.Tuple.tupleExact _) (wpAny_newObj_type (wpAny_pure ⟨_, rfl, wpAny_pure h⟩) htake)
    | exact wpAny_bind (m := Builtin.Tuple.tupleExact _) (wpAny_newObj_type (wpAny_bind (wpAny_pure (wpAny_pure ⟨_, rfl, wpAny_pure h⟩))) htake)
    | exact wpAny_bind (wpAny_bind (m := Builtin.Tuple.tupleExact _) (wpAny_newObj_type (wpAny_pure (wpAny_pure ⟨_, rfl, wpAny_pure h⟩)) htake))
    | exact wpAny_bind (wpAny_bind (m := Builtin.Tuple.tupleExact _) (wpAny_newObj_type (wpAny_pure ⟨_, rfl, wpAny_pure h⟩) htake))
end
end HT
namespace L2
open PySem PySem.Spec PyProof.Rows
abbrev TO := St → Hp → (Option Int → Hp → Prop) → Prop
def PO (X : Cx) (e : Option Expr) (t : TO) : Prop :=
  ∀ (pins : List (Addr × Obj)) (s : Shared) (σ : St) (H : Hp) (Q : Option Int → Hp → Prop), Inv X pins σ H s → t σ H Q →
    wpAny (model X.prog X.w) X.A (evalPart e X.env) (fun u s' => ∃ o H', Inv X pins σ H' s' ∧ IsPart u o ∧ Q o H') X.xe s
def tNoPart : TO := fun _ H Q => Q none H
def tPart (t : TE) : TO := fun σ H Q => t σ H fun x H1 => ∃ i, x = .int i ∧ Q (some i) H1
section
variable {X : Cx} {e : Expr} {te : TE} {lo hi : Option Expr} {tl th : TO} {pos p2 : Pos}
theorem po_none : PO X none tNoPart := by
  intro pins s σ H Q I h
  rw [evalPart_none]
  exact wpAny_pure ⟨none, H, I, .none, h⟩
theorem po_some (h : PE X e te) : PO X (some e) (tPart te) := by
  intro pins s σ H Q I hw
  rw [evalPart_some]
  refine thn (h pins s σ H _ I hw) fun u s1 ⟨x, H1, I1, r1, q1⟩ => ?_
  obtain ⟨i, rfl, q⟩ := q1
  obtain ⟨t, rfl⟩ := r1
  exact ⟨some i, H1, I1, .int i t, q⟩
def SlR (X : Cx) (r : V → Option Int → Option Int → Hp → VK → Prop) : Prop :=
  ∀ (pins : List (Addr × Obj)) (s : Shared) (σ : St) (H : Hp) (x : V) (v vl vu : Value) (lo hi : Option Int) (sl : Addr) (Q : VK), Inv X pins σ H s → RelV x v → s.heap.IsSliceOf sl vl vu .none → IsPart vl lo → IsPart vu hi → r x lo hi H Q →
    ∃ T id, typeLookup (.type T) "__getitem__" = pure (some (.builtin id)) ∧ s.TypeIs v T ∧ wpAny (model X.prog X.w) X.A (getItem v (.ref sl)) (EP X pins σ Q) X.xe s
theorem SlR.or {r r' : V → Option Int → Option Int → Hp → VK → Prop} (h : SlR X r) (h' : SlR X r') : SlR X (fun x lo hi H Q => r x lo hi H Q ∨ r' x lo hi H Q) := by
  intro pins s σ H x v vl vu lo hi sl Q I rx hs pl pu q
  rcases q with q | q
  · exact h pins s σ H x v vl vu lo hi sl Q I rx hs pl pu q
  · exact h' pins s σ H x v vl vu lo hi sl Q I rx hs pl pu q
def tSl (r : V → Option Int → Option Int → Hp → VK → Prop) (te : TE) (tl th : TO) : TE := fun σ H Q => te σ H fun x H1 => tl σ H1 fun l H2 => th σ H2 fun u H3 => r x l u H3 Q
theorem pe_slice {r : V → Option Int → Option Int → Hp → VK → Prop} (hr : SlR X r) (he : PE X e te) (hl : PO X lo tl) (hu : PO X hi th) : PE X (.Subscript e (.Slice lo hi none p2) pos) (tSl r te tl th) := by
  intro pins s σ H Q I h
  refine Subscript_ (thn (he pins s σ H _ I h) fun v s1 ⟨x, H1, I1, r1, q1⟩ => ?_)
  refine wpAny_Slice (thn (hl pins s1 σ H1 _ I1 q1) fun vl s2 ⟨l, H2, I2, pl, q2⟩ => thn (hu pins s2 σ H2 _ I2 q2) fun vu s3 ⟨u, H3, I3, pu, q3⟩ => ?_)
  rw [evalPart_none]
  refine wpAny_pure ?_
  have I4 : Inv X pins σ H3 { s3 with heap := s3.heap.push { cls := .type "slice", data := .fields #[vl, vu, .none] } } := I3.kept (t' := s3.toks) fun b ob q => Heap.get?_push_of_some _ q
  obtain ⟨T, id, hT, ht, hg⟩ := hr pins { s3 with heap := s3.heap.push { cls := .type "slice", data := .fields #[vl, vu, .none] } } σ H3 x v vl vu l u s3.heap.objs.size Q I4 r1 (Heap.IsSliceOf.new ..) pl pu q3
  show wpAny (model X.prog X.w) X.A (subscriptTail e (.Slice lo hi none p2) v (.ref s3.heap.objs.size)) (EP X pins σ Q) X.xe { s3 with heap := s3.heap.push { cls := .type "slice", data := .fields #[vl, vu, .none] } }
  exact tail_any (ops := [.ref s3.heap.objs.size, v]) ht hT hg (by with_unfolding_all rfl)
def cutV (xs : List V) (lo hi : Option Int) : List V := (xs.drop (HT.sIx xs.length 0 lo)).take (HT.sIx xs.length xs.length hi - HT.sIx xs.length 0 lo)
theorem cutV_length (xs : List V) (lo hi : Option Int) : (cutV xs lo hi).length ≤ xs.length := by
  unfold cutV
  rw [List.length_take, List.length_drop]
  omega
def rSlT (K : PySem.W.Frag) : V → Option Int → Option Int → Hp → VK → Prop := fun x lo hi H Q => ∃ a xs, x = .ref a ∧ SqT K H a xs ∧
  ¬ (HT.sIx xs.length 0 lo = 0 ∧ HT.sIx xs.length xs.length hi = xs.length) ∧ ∀ p, H p = none → Q (.ref p) (upd H p (.tup (cutV xs lo hi)))
theorem sl_tup : SlR X (rSlT X.K) := by
  intro pins s σ H x v vl vu lo hi sl Q I rx hs pl pu h
  obtain ⟨a, xs, rfl, hx, hw, q⟩ := h
  cases rx
  obtain ⟨its, r, ht, hz⟩ := I.tuple hx
  have hlen : its.toArray.size = xs.length := by rw [List.size_toArray]; exact r.length.symm
  refine ⟨"tuple", _, PyProof.Rows.slot_tuple_getitem.lookup, ht.typeIs, ?_⟩
  refine HT.getItem_tuple_cut ht hs pl pu (by rw [hlen]; exact hw) ?_ (by rw [hlen]; exact hz)
  rw [hlen]
  refine ⟨.ref s.heap.objs.size, _, I.laid (t' := s.toks) (o := .tup (cutV xs lo hi)) (fun b ob q => Heap.get?_push_of_some _ q) (Nat.le_refl _) ?_, rfl, q _ (I.hok.fresh (Nat.le_refl _))⟩
  exact ⟨Nat.le_trans (cutV_length xs lo hi) hz, _, (r.drop (HT.sIx xs.length 0 lo)).take (HT.sIx xs.length xs.length hi - HT.sIx xs.length 0 lo), IsTup.new _ _⟩
end
end L2
namespace L2
open PySem PySem.Spec PyProof.Rows
def ixN (n : Nat) (i : Int) : Option Nat := if 0 ≤ i then (if i < n then some i.toNat else none) else if -(n : Int) ≤ i then some (i + n).toNat else none
def atI {α : Type} (xs : List α) (i : Int) : Option α := (ixN xs.length i).bind fun j => xs[j]?
theorem ixN_seq {n : Nat} {i : Int} {j : Nat} (h : ixN n i = some j) : seqIndex? i n = some j ∧ j < n ∧ -(n : Int) ≤ i ∧ i < n := by
  unfold ixN at h
  by_cases h0 : 0 ≤ i
  · rw [if_pos h0] at h
    by_cases h1 : i < n
    · rw [if_pos h1] at h
      have e : i.toNat = j := Option.some.inj h
      exact ⟨by rw [seqIndex_of h0 h1, e], by omega, by omega, h1⟩
    · rw [if_neg h1] at h; cases h
  · rw [if_neg h0] at h
    by_cases h1 : -(n : Int) ≤ i
    · rw [if_pos h1] at h
      have e : (i + n).toNat = j := Option.some.inj h
      exact ⟨by rw [seqIndex_neg (by omega) h1, e], by omega, h1, by omega⟩
    · rw [if_neg h1] at h; cases h
theorem atI_get {α : Type} {xs : List α} {i : Int} {v : α} (h : atI xs i = some v) : ∃ j, seqIndex? i xs.length = some j ∧ xs[j]? = some v ∧ j < xs.length ∧ -(xs.length : Int) ≤ i ∧ i < xs.length := by
  unfold atI at h
  cases e : ixN xs.length i with
  | none => rw [e] at h; cases h
  | some j =>
    rw [e] at h
    obtain ⟨h1, h2, h3, h4⟩ := ixN_seq e
    exact ⟨j, h1, h, h2, h3, h4⟩
theorem atI_nat {α : Type} {xs : List α} {j : Nat} {v : α} (h : xs[j]? = some v) : atI xs (j : Int) = some v := by
  have hj : j < xs.length := (List.getElem?_eq_some_iff.mp h).1
  have e : ixN xs.length (j : Int) = some j := by
    unfold ixN
    rw [if_pos (by omega), if_pos (by omega)]; simp
  unfold atI; rw [e]; exact h
def PlainIx (b : Expr) : Prop := ∀ o i, subscripted b false o i = operate [o, i] (getItem o i)
def IxR (X : Cx) (r : R2) : Prop :=
  ∀ (value slice : Expr) (pins : List (Addr × Obj)) (s : Shared) (σ : St) (H : Hp) (x y : V) (v u : Value) (Q : VK), Inv X pins σ H s → RelV x v → RelV y u → r x y H Q →
    subscripted slice false v u = operate [v, u] (getItem v u) → wpAny (model X.prog X.w) X.A (subscriptTail value slice v u) (EP X pins σ Q) X.xe s
def MtR (X : Cx) (id : String) (r : V → List V → Hp → VK → Prop) : Prop :=
  ∀ (pins : List (Addr × Obj)) (s : Shared) (σ : St) (H : Hp) (x : V) (xs : List V) (v : Value) (us : List Value) (Q : VK), Inv X pins σ H s → RelV x v → Vals xs us → r x xs H Q →
    wpAny (model X.prog X.w) X.A (call (.builtin id) (v :: us)) (EP X pins σ Q) X.xe s
section
variable {X : Cx} {a b : Expr} {ta tb : TE} {pos : Pos}
theorem IxR.or {r r' : R2} (h : IxR X r) (h' : IxR X r') : IxR X (fun x y H Q => r x y H Q ∨ r' x y H Q) := by
  intro value slice pins s σ H x y v u Q I rx ry q hs
  rcases q with q | q
  · exact h value slice pins s σ H x y v u Q I rx ry q hs
  · exact h' value slice pins s σ H x y v u Q I rx ry q hs
theorem MtR.or {id : String} {r r' : V → List V → Hp → VK → Prop} (h : MtR X id r) (h' : MtR X id r') : MtR X id (fun x xs H Q => r x xs H Q ∨ r' x xs H Q) := by
  intro pins s σ H x xs v us Q I rx rs q
  rcases q with q | q
  · exact h pins s σ H x xs v us Q I rx rs q
  · exact h' pins s σ H x xs v us Q I rx rs q
theorem pe_ix {r : R2} (hr : IxR X r) (ha : PE X a ta) (hb : PE X b tb) (hs : PlainIx b) : PE X (.Subscript a b pos) (tOp r ta tb) := by
  intro pins s σ H Q I h
  exact Subscript_ (binT ha hb I h fun v u s2 x y H2 I2 rx ry q => hr a b pins s2 σ H2 x y v u Q I2 rx ry q (hs _ _))
def rIxL (K : PySem.W.Frag) : R2 := fun x y H Q => ∃ p xs i v, x = .ref p ∧ y = .int i ∧ SqL K H p xs ∧ atI xs i = some v ∧ Q v H
def rIxT (K : PySem.W.Frag) : R2 := fun x y H Q => ∃ p xs i v, x = .ref p ∧ y = .int i ∧ SqT K H p xs ∧ atI xs i = some v ∧ Q v H
def rIxS : R2 := fun x y H Q => ∃ z i c, x = .str z ∧ y = .int i ∧ z.length ≤ sizeLine ∧ atI z.cps.toList i = some c ∧ Q (.str ⟨#[c]⟩) H
theorem ix_list : IxR X (rIxL X.K) := by
  intro value slice pins s σ H x y v u Q I rx ry h hs
  obtain ⟨p, xs, i, z, rfl, rfl, hq, he, q⟩ := h
  cases rx
  obtain ⟨t, rfl⟩ := ry
  obtain ⟨its, r, pl, hz⟩ := I.list hq
  obtain ⟨j, h1, h2, h3, h4, h5⟩ := atI_get he
  obtain ⟨w, ew, rw'⟩ := r.get h2
  have hl := r.length
  have hn := line63
  have fin : EP X pins σ Q w s := ⟨z, H, I, rw', q⟩
  by_cases h0 : 0 ≤ i
  · have hj : i.toNat = j := by
      rw [seqIndex_of h0 h5] at h1
      exact Option.some.inj h1
    exact item_listR pl.isList h0 (by omega) (by rw [hj]; simpa using ew) fin hs
  · have hj : (i + (its.toArray.size : Int)).toNat = j := by
      rw [seqIndex_neg (by omega) h4] at h1
      rw [List.size_toArray, ← hl]
      exact Option.some.inj h1
    exact subscriptTail_builtinR (x := w) pl.isList.typeIs slot_list_getitem.lookup
      (wpAny_getItem_list_neg (Q := fun r s' => r = w ∧ EP X pins σ Q r s') pl.isList (by omega) (by rw [List.size_toArray] <;> omega) (by omega) (by rw [hj]; simpa using ew) ⟨rfl, fin⟩) hs
theorem ix_tup : IxR X (rIxT X.K) := by
  intro value slice pins s σ H x y v u Q I rx ry h hs
  obtain ⟨p, xs, i, z, rfl, rfl, hq, he, q⟩ := h
  cases rx
  obtain ⟨t, rfl⟩ := ry
  obtain ⟨its, r, pl, hz⟩ := I.tuple hq
  obtain ⟨j, h1, h2, h3, h4, h5⟩ := atI_get he
  obtain ⟨w, ew, rw'⟩ := r.get h2
  have hl := r.length
  have hn := line63
  have fin : EP X pins σ Q w s := ⟨z, H, I, rw', q⟩
  exact subscriptTail_builtinR (x := w) pl.typeIs slot_tuple_getitem.lookup
    (getItem_tuple (j := j) (Q := fun r s' => r = w ∧ EP X pins σ Q r s') pl (by omega) (by omega) (by rw [List.size_toArray, ← hl]; exact h1) (by simpa using ew) ⟨rfl, fin⟩) hs
theorem ix_str : IxR X rIxS := by
  intro value slice pins s σ H x y v u Q I rx ry h hs
  obtain ⟨z, i, c, rfl, rfl, hz, he, q⟩ := h
  obtain ⟨t, rfl⟩ := rx
  obtain ⟨t', rfl⟩ := ry
  obtain ⟨j, h1, h2, h3, h4, h5⟩ := atI_get he
  have hl : z.cps.toList.length = z.length := by simp [Str.length]
  rw [hl] at h1 h4 h5
  have hn := line63
  exact tail_any (typeIs_str s z t) slot_str_getitem.lookup (getItem_str (c := c) (by
    have e1 : decide (i < -(2 ^ 63 : Int)) = false := decide_eq_false (by omega)
    have e2 : decide (i ≥ 2 ^ 63) = false := decide_eq_false (by omega)
    rw [e1, e2, Bool.or_false]) (by rw [h1]; simpa using h2) ⟨.str ⟨#[c]⟩, H, I.tok _, ⟨_, rfl⟩, q⟩) hs
def rIx (K : PySem.W.Frag) : R2 := fun x y H Q => rIxL K x y H Q ∨ rIxT K x y H Q ∨ rIxS x y H Q
theorem ix_seq : IxR X (rIx X.K) := ix_list.or (ix_tup.or ix_str)
theorem mapSeq_set (its : List Value) (n j : Nat) (u : Value) : Obj.mapSeq (·.setIfInBounds j u) { cls := .type "list", data := .seq its.toArray n } = { cls := .type "list", data := .seq (its.set j u).toArray n } := by
  simp [Obj.mapSeq]
theorem Inv.lst {pins : List (Addr × Obj)} {σ : St} {H : Hp} {s : Shared} {p : Addr} {xs : List V} (I : Inv X pins σ H s) (h : H p = some (.lst xs)) :
    ∃ (its : List Value) (n : Nat), Vals xs its ∧ s.heap.get? p = some { cls := .type "list", data := .seq its.toArray n } ∧ xs.length ≤ sizeLine := by
  obtain ⟨z, its, n, r, e⟩ := I.hok p _ h
  exact ⟨its, n, r, e, z⟩
theorem Inv.lstUpd {pins : List (Addr × Obj)} {σ : St} {H : Hp} {s : Shared} {p : Addr} {xs ys : List V} {its its' : List Value} {n n' : Nat} {f : Obj → Obj} (I : Inv X pins σ H s) (h : H p = some (.lst xs))
    (ho : s.heap.get? p = some { cls := .type "list", data := .seq its.toArray n }) (hf : f { cls := .type "list", data := .seq its.toArray n } = { cls := .type "list", data := .seq its'.toArray n' }) (r : Vals ys its') (hz : ys.length ≤ sizeLine) (t : Nat) :
    Inv X pins σ (upd H p (.lst ys)) { s with heap := s.heap.update p f, toks := t } := by
  have e : (s.heap.update p f).get? p = some { cls := .type "list", data := .seq its'.toArray n' } := by
    rw [Heap.get?_update_self f ho (by rw [hf] <;> rfl), hf]
  refine I.write (x := p) (e := p) (by rw [h]; trivial) (.inl rfl) (fun b u hb q => (Heap.get?_update_other _ _ (Ne.symm hb)).trans q) ⟨_, e⟩ ?_
  exact ⟨hz, its', n', r, e⟩
def rSetL : V → V → V → Hp → (Hp → Prop) → Prop := fun o i v H Q => ∃ p xs k j, o = .ref p ∧ i = .int k ∧ H p = some (.lst xs) ∧ ixN xs.length k = some j ∧ Q (upd H p (.lst (xs.set j v)))
theorem set_list : PSet X rSetL := by
  intro pins s σ H o i v ov iv u Q I ro ri rv h
  obtain ⟨p, xs, k, j, rfl, rfl, hp, hj, q⟩ := h
  cases ro
  obtain ⟨t, rfl⟩ := ri
  obtain ⟨its, n, r, ho, hz⟩ := I.lst hp
  obtain ⟨h1, h2, h3, h4⟩ := ixN_seq hj
  have hl := r.length
  have hn := line63
  have I' : Inv X pins σ (upd H p (.lst (xs.set j v))) { s with heap := s.heap.update p (Obj.mapSeq (·.setIfInBounds j u)) } :=
    I.lstUpd hp ho (mapSeq_set its n j u) (r.set rv j) (by rw [List.length_set]; exact hz) s.toks
  by_cases h0 : 0 ≤ k
  · have hk : k.toNat = j := by
      rw [seqIndex_of h0 h4] at h1
      exact Option.some.inj h1
    exact PySem.W.ki_setAt ho h0 (by omega) (by rw [List.size_toArray, ← hl]; exact h4) (by rw [hk]; exact ⟨_, I', q⟩)
  · have hk : (k + (its.toArray.size : Int)).toNat = j := by
      rw [seqIndex_neg (by omega) h3] at h1
      rw [List.size_toArray, ← hl]
      exact Option.some.inj h1
    exact PySem.W.ki_setBack ho (by omega) (by rw [List.size_toArray, ← hl]; exact h3) (by omega) (by rw [hk]; exact ⟨_, I', q⟩)
theorem slice_bounds (lo hi : Option Int) (n : Nat) : (sliceBounds lo hi none n).1 = ((HT.sIx n 0 lo : Nat) : Int) ∧ (sliceBounds lo hi none n).2.1 = ((HT.sIx n n hi : Nat) : Int) ∧ (sliceBounds lo hi none n).2.2 = 1 := by
  refine ⟨?_, ?_, rfl⟩
  · cases lo with
    | none => simp [sliceBounds, HT.sIx]
    | some i =>
      simp only [sliceBounds, HT.sIx, Option.getD_none, show (1 : Int) > 0 by decide, if_true]
      by_cases h : i < 0
      · simp only [h, if_true] <;> omega
      · simp only [h, if_false] <;> omega
  · cases hi with
    | none => simp [sliceBounds, HT.sIx]
    | some i =>
      simp only [sliceBounds, HT.sIx, Option.getD_none, show (1 : Int) > 0 by decide, if_true]
      by_cases h : i < 0
      · simp only [h, if_true] <;> omega
      · simp only [h, if_false] <;> omega
theorem slicePick_cut (its : List Value) (lo hi : Option Int) : slicePick its.toArray lo hi none = ((its.drop (HT.sIx its.length 0 lo)).take (HT.sIx its.length its.length hi - HT.sIx its.length 0 lo)).toArray := by
  obtain ⟨h1, h2, h3⟩ := slice_bounds lo hi its.toArray.size
  unfold slicePick
  rw [h1, h2, h3]
  simp only [sliceRange_one, pick_run, List.size_toArray] <;> rfl
def rSlL (K : PySem.W.Frag) : V → Option Int → Option Int → Hp → VK → Prop := fun x lo hi H Q => ∃ a xs, x = .ref a ∧ SqL K H a xs ∧ ∀ p, H p = none → Q (.ref p) (upd H p (.lst (cutV xs lo hi)))
theorem sl_list : SlR X (rSlL X.K) := by
  intro pins s σ H x v vl vu lo hi sl Q I rx hs pl pu h
  obtain ⟨a, xs, rfl, hx, q⟩ := h
  cases rx
  obtain ⟨its, r, ht, hz⟩ := I.list hx
  have hlen := r.length
  refine ⟨"list", _, slot_list_getitem.lookup, ht.isList.typeIs, ?_⟩
  refine wpAny_getItem_list_slice ht.isList hs pl pu .none (by simp) ?_ (by rw [List.size_toArray] <;> omega)
  rw [slicePick_cut, ← hlen]
  refine ⟨.ref s.heap.objs.size, _, I.laid (t' := s.toks) (o := .lst (cutV xs lo hi)) (fun b ob q => Heap.get?_push_of_some _ q) (Nat.le_refl _) ?_, rfl, q _ (I.hok.fresh (Nat.le_refl _))⟩
  exact ⟨Nat.le_trans (cutV_length xs lo hi) hz, _, 0, (r.drop (HT.sIx xs.length 0 lo)).take (HT.sIx xs.length xs.length hi - HT.sIx xs.length 0 lo), Heap.get?_push_size _ rfl⟩
def flatV : V → Bool
  | .non => true
  | .bl _ => true
  | .int _ => true
  | .str _ => true
  | _ => false
def eqV : V → V → Bool
  | .non, .non => true
  | .bl a, .bl b => a == b
  | .bl a, .int b => (if a then 1 else 0) == b
  | .int a, .bl b => a == (if b then 1 else 0)
  | .int a, .int b => a == b
  | .str a, .str b => a == b
  | _, _ => false
theorem eqAt_V {A : Around} {s : Shared} {y x : V} {u v : Value} (ry : RelV y u) (rx : RelV x v) (fy : flatV y = true) (fx : flatV x = true) : SeqAt.EqAt A s u v (eqV y x) := by
  cases y with
  | non =>
    cases ry
    cases x with
    | non => cases rx; exact SeqAt.EqAt.same _
    | bl b => cases rx; exact SeqAt.EqAt.none_bool b
    | int b => obtain ⟨t, rfl⟩ := rx; exact SeqAt.EqAt.none_int b t
    | str b => obtain ⟨t, rfl⟩ := rx; exact SeqAt.EqAt.none_str b t
    | _ => exact absurd (show false = true from fx) Bool.false_ne_true
  | bl a =>
    cases ry
    cases x with
    | non => cases rx; exact SeqAt.EqAt.bool_none a
    | bl b => cases rx; exact SeqAt.EqAt.bool_bool a b
    | int b => obtain ⟨t, rfl⟩ := rx; exact SeqAt.EqAt.bool_int a b t
    | str b => obtain ⟨t, rfl⟩ := rx; exact SeqAt.EqAt.bool_str a b t
    | _ => exact absurd (show false = true from fx) Bool.false_ne_true
  | int a =>
    obtain ⟨t', rfl⟩ := ry
    cases x with
    | non => cases rx; exact SeqAt.EqAt.int_none a t'
    | bl b => cases rx; exact SeqAt.EqAt.int_bool a t' b
    | int b => obtain ⟨t, rfl⟩ := rx; exact SeqAt.EqAt.int_int a t' b t
    | str b => obtain ⟨t, rfl⟩ := rx; exact SeqAt.EqAt.int_str a t' b t
    | _ => exact absurd (show false = true from fx) Bool.false_ne_true
  | str a =>
    obtain ⟨t', rfl⟩ := ry
    cases x with
    | non => cases rx; exact SeqAt.EqAt.str_none a t'
    | bl b => cases rx; exact SeqAt.EqAt.str_bool a t' b
    | int b => obtain ⟨t, rfl⟩ := rx; exact SeqAt.EqAt.str_int a t' b t
    | str b => obtain ⟨t, rfl⟩ := rx; exact SeqAt.EqAt.str_str a t' b t
    | _ => exact absurd (show false = true from fx) Bool.false_ne_true
  | _ => exact absurd (show false = true from fy) Bool.false_ne_true
def eqU (x : V) (u : Value) : Bool := match u with
  | .none => eqV .non x
  | .bool b => eqV (.bl b) x
  | .int i _ => eqV (.int i) x
  | .str z _ => eqV (.str z) x
  | _ => false
theorem eqU_of {x y : V} {u : Value} (r : RelV y u) (f : flatV y = true) : eqU x u = eqV y x := by
  cases y with
  | non => cases r; rfl
  | bl b => cases r; rfl
  | int i => obtain ⟨t, rfl⟩ := r; rfl
  | str z => obtain ⟨t, rfl⟩ := r; rfl
  | _ => exact absurd (show false = true from f) Bool.false_ne_true
theorem any_eqU {x : V} : ∀ {xs : List V} {us : List Value}, Vals xs us → xs.all flatV = true → us.any (eqU x) = xs.any fun y => eqV y x
  | _, _, .nil, _ => rfl
  | y :: xs, u :: us, .cons r t, f => by
    rw [List.all_cons, Bool.and_eq_true] at f
    rw [List.any_cons, List.any_cons, eqU_of r f.1, any_eqU t f.2]
theorem mem_eqAt {A : Around} {s : Shared} {x : V} {v : Value} (rx : RelV x v) (fx : flatV x = true) : ∀ {xs : List V} {us : List Value}, Vals xs us → xs.all flatV = true → ∀ u ∈ us, SeqAt.EqAt A s u v (eqU x u)
  | _, _, .nil, _ => fun u hu => by cases hu
  | y :: xs, u :: us, .cons r t, f => fun u' hu => by
    rw [List.all_cons, Bool.and_eq_true] at f
    rcases List.mem_cons.mp hu with rfl | hu
    · rw [eqU_of r f.1]; exact eqAt_V r rx f.1 fx
    · exact mem_eqAt rx fx t f.2 u' hu
def inV (x : V) (xs : List V) : Bool := xs.any fun y => eqV y x
def rIn (K : PySem.W.Frag) (neg : Bool) : R2 := fun x y H Q => ∃ p xs, y = .ref p ∧ (SqL K H p xs ∨ SqT K H p xs) ∧ flatV x = true ∧ xs.all flatV = true ∧ Q (.bl (if neg then !inV x xs else inV x xs)) H
theorem op_in_seq : OpR X (compareOp .In) (rIn X.K false) := by
  intro pins s σ H x y v u Q I rx ry h
  obtain ⟨p, xs, rfl, hq, fx, fs, q⟩ := h
  cases ry
  rcases hq with hq | hq
  · obtain ⟨its, r, pl, hz⟩ := I.list hq
    refine SeqAt.in_listAt (eqU x) pl.isList (fun w hw => mem_eqAt rx fx r fs w (by simpa using hw)) ⟨.bl _, H, I, rfl, ?_⟩
    rw [show its.toArray.any (eqU x) = its.any (eqU x) by simp, any_eqU r fs]
    exact q
  · obtain ⟨its, r, pl, hz⟩ := I.tuple hq
    refine SeqAt.in_tupleAt (eqU x) pl (fun w hw => mem_eqAt rx fx r fs w (by simpa using hw)) ⟨.bl _, H, I, rfl, ?_⟩
    rw [show its.toArray.any (eqU x) = its.any (eqU x) by simp, any_eqU r fs]
    exact q
theorem call_len_seq : CallR X (.builtin "len") (fun xs H Q => ∃ p ys, xs = [.ref p] ∧ (SqL X.K H p ys ∨ SqT X.K H p ys) ∧ Q (.int ys.length) H) := by
  intro pins s σ H xs us Q I r h
  obtain ⟨p, ys, rfl, hq, q⟩ := h
  obtain ⟨u, rfl, rx⟩ := vals1 r
  cases rx
  have hn := line63
  rcases hq with hq | hq
  · obtain ⟨its, r', pl, hz⟩ := I.list hq
    have hlen := r'.length
    exact Calls.call_len_list pl.isList (by simp only [List.size_toArray] <;> omega) ⟨.int ys.length, H, I.tok _, ⟨s.toks + 1, by rw [List.size_toArray, hlen]⟩, q⟩
  · obtain ⟨its, r', pl, hz⟩ := I.tuple hq
    have hlen := r'.length
    exact len_tuple pl (by simp only [List.size_toArray] <;> omega) ⟨.int ys.length, H, I.tok _, ⟨s.toks + 1, by rw [List.size_toArray, hlen]⟩, q⟩
theorem CallR.or {f : Value} {r r' : List V → Hp → VK → Prop} (h : CallR X f r) (h' : CallR X f r') : CallR X f (fun xs H Q => r xs H Q ∨ r' xs H Q) := by
  intro pins s σ H xs us Q I rs q
  rcases q with q | q
  · exact h pins s σ H xs us Q I rs q
  · exact h' pins s σ H xs us Q I rs q
theorem call_tuple_of : CallR X (.type "tuple") (fun xs H Q => ∃ p ys, xs = [.ref p] ∧ ((SqL X.K H p ys ∧ ∀ l, H l = none → Q (.ref l) (upd H l (.tup ys))) ∨ (SqT X.K H p ys ∧ Q (.ref p) H))) := by
  intro pins s σ H xs us Q I r h
  obtain ⟨p, ys, rfl, h⟩ := h
  obtain ⟨u, rfl, rx⟩ := vals1 r
  cases rx
  rcases h with ⟨hq, q⟩ | ⟨hq, q⟩
  · obtain ⟨its, r', pl, hz⟩ := I.list hq
    have hlen := r'.length
    refine call_tuple_list pl.isList (fun h' kp => ?_) (by simp only [List.size_toArray] <;> omega)
    have I1 : Inv X pins σ H { s with heap := h' } := I.kept (t' := s.toks) kp
    have I2 : Inv X pins σ (upd H h'.objs.size (.tup ys)) { s with heap := h'.push { cls := .type "tuple", data := .seq its.toArray } } :=
      I1.laid (t' := s.toks) (fun b o e => Heap.get?_push_of_some _ e) (Nat.le_refl _) (show ObjOk X.prog X.w _ _ _ (.tup ys) from ⟨hz, its, r', IsTup.new _ _⟩)
    exact ⟨.ref h'.objs.size, _, I2, rfl, q _ (I1.hok.fresh (Nat.le_refl _))⟩
  · obtain ⟨its, r', pl, hz⟩ := I.tuple hq
    exact call_tuple_same pl ⟨.ref p, H, I, rfl, q⟩
def tyV (K : PySem.W.Frag) (T : String) (x : V) (H : Hp) : Prop := match x with
  | .str _ => T = "str"
  | .int _ => T = "int"
  | .ref p => (T = "list" ∧ ∃ xs, SqL K H p xs) ∨ (T = "tuple" ∧ ∃ o, K.lookup p = some o ∧ o.cls = .type "tuple" ∧ o.dict = none) ∨
      (T = "dict" ∧ ((∃ kvs, H p = some (.dK kvs)) ∨ ∃ kvs, H p = some (.dT kvs))) ∨ (T = "set" ∧ ∃ S n, H p = some (.set S n))
  | _ => False
theorem tyV_is {pins : List (Addr × Obj)} {σ : St} {H : Hp} {s : Shared} {T : String} {x : V} {v : Value} (I : Inv X pins σ H s) (r : RelV x v) (ty : tyV X.K T x H) :
    s.TypeIs v T ∧ ∀ a, v = .ref a → ∃ ob, s.heap.get? a = some ob ∧ ob.dict = none := by
  cases x with
  | str z =>
    obtain ⟨t, rfl⟩ := r
    cases (show T = "str" from ty)
    exact ⟨typeIs_str s z t, fun _ e => nomatch e⟩
  | int i =>
    obtain ⟨t, rfl⟩ := r
    cases (show T = "int" from ty)
    exact ⟨typeIs_int s i t, fun _ e => nomatch e⟩
  | ref p =>
    cases r
    rcases ty with ⟨rfl, xs, hq⟩ | ⟨rfl, o, hk, hc, hd⟩ | ⟨rfl, hk⟩ | ⟨rfl, S, n, hk⟩
    · obtain ⟨its, _, pl, _⟩ := I.list hq
      refine ⟨pl.isList.typeIs, fun a e => ?_⟩
      cases e
      obtain ⟨o, n, e, c, hd, _⟩ := pl
      exact ⟨o, e, hd⟩
    · refine ⟨⟨o, I.kIn p o hk, hc⟩, fun a e => ?_⟩
      cases e
      exact ⟨o, I.kIn _ o hk, hd⟩
    · have z : ∃ o, s.heap.get? p = some o ∧ o.ExactDict := by
        rcases hk with ⟨kvs, hk⟩ | ⟨kvs, hk⟩
        · obtain ⟨_, _, _, _, o, _, _, e, ex, _⟩ := I.hok p _ hk
          exact ⟨o, e, ex⟩
        · obtain ⟨_, _, _, _, o, _, _, e, ex, _⟩ := I.hok p _ hk
          exact ⟨o, e, ex⟩
      obtain ⟨o, e, ex⟩ := z
      refine ⟨⟨o, e, ex.1⟩, fun a e2 => ?_⟩
      cases e2
      exact ⟨o, e, ex.2.1⟩
    · obtain ⟨o, _, _, _, e, ex, _⟩ := I.hok p _ hk
      refine ⟨⟨o, e, ex.1⟩, fun a e2 => ?_⟩
      cases e2
      exact ⟨o, e, ex.2.1⟩
  | _ => exact False.elim ty
def tBM (K : PySem.W.Frag) (T : String) (r : V → List V → Hp → VK → Prop) (to : TE) (t : TA) : TE := fun σ H Q => to σ H fun x H1 => tyV K T x H1 ∧ t σ H1 fun xs H2 => r x xs H2 Q
variable {o e : Expr} {es : List Expr} {to : TE} {t : TA} {name : Str} {apos cpos : Pos} {T id : String} {r : V → List V → Hp → VK → Prop}
theorem pe_bm (pa : PlainAttrs T) (slot : Slot T name id) (hty : typeOf (.builtin id) = pure (.type "method_descriptor")) (hm : MtR X id r) (ho : PE X o to) (ha : PA X (e :: es) t)
    (hbase : attributeBase o name X.env (eval o X.env) = eval o X.env := by rfl)
    (hfew : ((backTo cpos (starEach (e :: es) X.env)).all (fun x => !x.1) && (backToKw cpos (keywordEach [] X.env)).all (fun x => x.1.isSome)
      && decide ((e :: es).length + ([] : List Keyword).length + (if ([] : List Keyword).isEmpty then 0 else 1) < 30)) = true := by rfl)
    (hline : (apos.endLine == cpos.line) = true := by rfl) (hs : starEach (e :: es) X.env = (false, eval e X.env) :: starEach es X.env := by rfl) (hplain : (backTo cpos (starEach es X.env)).any (·.1) = false := by rfl) :
    PE X (.Call (.Attribute o name apos) (e :: es) [] cpos) (tBM X.K T r to t) := by
  intro pins s σ H Q I h
  refine wpAny_Call_method_late hbase hfew hline rfl (thn (ho pins s σ H _ I h) fun v s1 ⟨x, H1, I1, r1, ty, q1⟩ => ?_)
  obtain ⟨h1, h2⟩ := tyV_is I1 r1 ty
  refine ⟨T, id, pa, slot, hty, h1, h2, ?_⟩
  have hA := ha cpos pins s1 σ H1 _ I1 q1
  rw [hs] at hA ⊢
  refine Calls.callWith_builtin (by show (false || (backTo cpos (starEach es X.env)).any (·.1)) = false; rw [hplain] <;> rfl) (Calls.evalArgs_plain ?_)
  exact thn hA fun us s2 ⟨vs, H2, I2, r2, q2⟩ => hm pins s2 σ H2 x vs v us Q I2 r1 r2 q2
end
end L2
namespace L2
open PySem PySem.Spec PyProof.Rows
def MtM (X : Cx) (id : String) (r : V → List V → Hp → VK → Prop) : Prop :=
  ∀ (pins : List (Addr × Obj)) (s : Shared) (σ : St) (H : Hp) (x : V) (xs : List V) (v : Value) (us : List Value) (Q : VK), Inv X pins σ H s → RelV x v → Vals xs us → r x xs H Q →
    wpAny (model X.prog X.w) X.A (call (.builtin id) (v :: us)) (EP X pins σ Q) X.xe s
theorem Vals.one : ∀ {x : V} {us : List Value}, Vals [x] us → ∃ u, us = [u] ∧ RelV x u
  | _, _, .cons r .nil => ⟨_, rfl, r⟩
theorem Vals.two : ∀ {x y : V} {us : List Value}, Vals [x, y] us → ∃ u v, us = [u, v] ∧ RelV x u ∧ RelV y v
  | _, _, _, .cons r (.cons q .nil) => ⟨_, _, rfl, r, q⟩
theorem Vals.zero : ∀ {us : List Value}, Vals [] us → us = []
  | _, .nil => rfl
theorem Vals.reverse {xs : List V} {us : List Value} (h : Vals xs us) : Vals xs.reverse us.reverse := by
  induction h with
  | nil => exact .nil
  | cons r t ih => rw [List.reverse_cons, List.reverse_cons]; exact Vals.append ih (.cons r .nil)
theorem Vals.rep {xs : List V} {us : List Value} (h : Vals xs us) : ∀ k : Nat, Vals (List.replicate k xs).flatten (List.replicate k us).flatten
  | 0 => .nil
  | k + 1 => by
    rw [List.replicate_succ, List.replicate_succ, List.flatten_cons, List.flatten_cons]
    exact Vals.append h (Vals.rep h k)
theorem foldl_rep (its : List Value) : ∀ (k : Nat) (acc : List Value),
    List.foldl (fun x1 x2 => x1 ++ x2) acc.toArray (List.replicate k its.toArray) = (acc ++ (List.replicate k its).flatten).toArray
  | 0, acc => by simp
  | k + 1, acc => by
    have e : acc.toArray ++ its.toArray = (acc ++ its).toArray := by simp
    have e2 : (acc ++ its) ++ (List.replicate k its).flatten = acc ++ (List.replicate (k + 1) its).flatten := by
      rw [List.replicate_succ, List.flatten_cons, List.append_assoc]
    rw [← e2, ← foldl_rep its k (acc ++ its), ← e, List.replicate_succ, List.foldl_cons]
section
variable {X : Cx} {pins : List (Addr × Obj)} {σ : St} {H : Hp} {s : Shared} {l b : Addr} {xs ys zs : List V}
theorem Inv.lset {its its' : List Value} {n : Nat} {f : Array Value → Array Value} {t' : Nat} (I : Inv X pins σ H s) (hH : H l = some (.lst xs))
    (e : s.heap.get? l = some { cls := .type "list", data := .seq its.toArray n }) (hf : f its.toArray = its'.toArray) (hv : Vals ys its') (hz : ys.length ≤ sizeLine) :
    Inv X pins σ (upd H l (.lst ys)) { s with heap := s.heap.update l (Obj.mapSeq f), toks := t' } := by
  have q := PySem.IsL.update e f
  rw [hf] at q
  refine I.write (x := l) (e := l) (by rw [hH]; exact trivial) (.inl rfl) (fun b' u hb hu => (Heap.get?_update_other s.heap (Obj.mapSeq f) (Ne.symm hb)).trans hu) ⟨_, q⟩ ?_
  exact ⟨hz, its', _, hv, q⟩
theorem Inv.lnew {its : List Value} {t' : Nat} (I : Inv X pins σ H s) (hv : Vals ys its) (hz : ys.length ≤ sizeLine) :
    Inv X pins σ (upd H s.heap.objs.size (.lst ys)) { s with heap := s.heap.push { cls := .type "list", data := .seq its.toArray }, toks := t' } :=
  I.laid (fun _ _ q => Heap.get?_push_of_some _ q) (Nat.le_refl _) ⟨hz, its, 0, hv, Heap.get?_push_size _ rfl⟩
theorem Inv.fresh (I : Inv X pins σ H s) : H s.heap.objs.size = none := I.hok.fresh (Nat.le_refl _)
theorem Inv.lstM (I : Inv X pins σ H s) (hH : H l = some (.lst xs)) : xs.length ≤ sizeLine ∧ ∃ (its : List Value) (n : Nat), Vals xs its ∧ xs.length = its.length ∧ s.heap.get? l = some { cls := .type "list", data := .seq its.toArray n } := by
  obtain ⟨z, its, n, r, e⟩ := I.hok l _ hH
  exact ⟨z, its, n, r, r.length, e⟩
theorem notLongL {n : Nat} (h : n ≤ sizeLine) : Builtin.List.listTooLong n = false := by
  unfold Builtin.List.listTooLong
  exact decide_eq_false (by omega)
end
section
variable {X : Cx}
def rAppend : V → List V → Hp → VK → Prop := fun x vs H Q => ∃ l xs y, x = .ref l ∧ vs = [y] ∧ H l = some (.lst xs) ∧ xs.length < sizeLine ∧ Q .non (upd H l (.lst (xs ++ [y])))
theorem mt_append : MtM X "list.append" rAppend := by
  intro pins s σ H x vs v us Q I rx rv h
  obtain ⟨l, xs, y, rfl, rfl, hH, hz, q⟩ := h
  cases rx
  obtain ⟨u, rfl, ru⟩ := rv.one
  obtain ⟨z, its, n, r, hl, e⟩ := I.lstM hH
  refine call_meets F.slot_list_append ⟨_, e, rfl⟩ F.entry_list_append (F.args_list_append_2 _ _) (PySem.list_append l its.toArray n u (by rw [List.size_toArray]; omega)) ⟨e, ?_⟩
  refine ⟨.non, _, I.lset (its' := its ++ [u]) hH e (by simp) (r.append (.cons ru .nil)) ?_, rfl, q⟩
  rw [List.length_append, List.length_singleton]
  omega
def rExtend : V → List V → Hp → VK → Prop := fun x vs H Q => ∃ l b xs zs, x = .ref l ∧ vs = [.ref b] ∧ H l = some (.lst xs) ∧ H b = some (.lst zs) ∧ xs.length + zs.length ≤ sizeLine ∧ Q .non (upd H l (.lst (xs ++ zs)))
theorem mt_extend : MtM X "list.extend" rExtend := by
  intro pins s σ H x vs v us Q I rx rv h
  obtain ⟨l, b, xs, zs, rfl, rfl, hH, hB, hz, q⟩ := h
  cases rx
  obtain ⟨u, rfl, ru⟩ := rv.one
  cases ru
  obtain ⟨z, its, n, r, hl, e⟩ := I.lstM hH
  obtain ⟨z2, its2, n2, r2, hl2, e2⟩ := I.lstM hB
  have hsz : its.toArray.size + its2.toArray.size ≤ sizeLine := by rw [List.size_toArray, List.size_toArray]; omega
  have hlong : ¬ (!its.toArray.isEmpty && Builtin.List.listTooLong (its.toArray.size + its2.toArray.size)) = true := by
    rw [notLongL hsz, Bool.and_false]
    exact Bool.false_ne_true
  refine call_meets F.slot_list_extend ⟨_, e, rfl⟩ F.entry_list_extend (F.args_list_extend_2 _ _)
    (AutoSeq1.list_extend_list_list_0 l its.toArray n b its2.toArray n2 hlong (by rw [List.size_toArray]; omega) (by omega)) ⟨e, e2, ?_⟩
  refine ⟨.non, _, I.lset (its' := its ++ its2) hH e (by simp) (r.append r2) ?_, rfl, q⟩
  rw [List.length_append]
  omega
def rCat : R2 := fun x y H Q => ∃ l b xs zs, x = .ref l ∧ y = .ref b ∧ H l = some (.lst xs) ∧ H b = some (.lst zs) ∧ xs.length + zs.length ≤ sizeLine ∧ ∀ p, H p = none → Q (.ref p) (upd H p (.lst (xs ++ zs)))
theorem op_cat : OpR X (binaryOp .Add) rCat := by
  intro pins s σ H x y v u Q I rx ry h
  obtain ⟨l, b, xs, zs, rfl, rfl, hH, hB, hz, q⟩ := h
  cases rx
  cases ry
  obtain ⟨z, its, n, r, hl, e⟩ := I.lstM hH
  obtain ⟨z2, its2, n2, r2, hl2, e2⟩ := I.lstM hB
  refine PySem.P.add_list e e2 ?_ (by rw [List.size_toArray, List.size_toArray]; omega)
  have ea : its.toArray ++ its2.toArray = (its ++ its2).toArray := by simp
  rw [ea]
  exact ⟨.ref _, _, I.lnew (t' := s.toks) (r.append r2) (by rw [List.length_append]; omega), rfl, q _ I.fresh⟩
def rRep : R2 := fun x y H Q => ∃ l k xs, x = .ref l ∧ y = .int k ∧ H l = some (.lst xs) ∧ -(2 ^ 63) ≤ k ∧ k < 2 ^ 63 ∧ xs.length * k.toNat ≤ sizeLine ∧
  ∀ p, H p = none → Q (.ref p) (upd H p (.lst (List.replicate k.toNat xs).flatten))
theorem len_rep {α : Type} (xs : List α) (k : Nat) : (List.replicate k xs).flatten.length = k * xs.length := by
  induction k with
  | zero => simp
  | succ k ih => rw [List.replicate_succ, List.flatten_cons, List.length_append, ih, Nat.succ_mul, Nat.add_comm]
theorem op_rep : OpR X (binaryOp .Mult) rRep := by
  intro pins s σ H x y v u Q I rx ry h
  obtain ⟨l, k, xs, rfl, rfl, hH, h1, h2, hz, q⟩ := h
  cases rx
  obtain ⟨t, rfl⟩ := ry
  obtain ⟨z, its, n, r, hl, e⟩ := I.lstM hH
  have hlen : its.toArray.size * k.toNat ≤ sizeLine := by rw [List.size_toArray, ← hl]; exact hz
  have hcap : ¬ its.toArray.size * k.toNat > (2 ^ 63 - 1) / 8 := by
    have : (sizeLine : Nat) ≤ (2 ^ 63 - 1) / 8 := by decide
    omega
  have hfit : ¬ (!Builtin.List.listFitsIndex k) = true := by
    rw [fitsIndex_both h1 h2]
    exact Bool.false_ne_true
  have hlong : ¬ Builtin.List.listTooLong (its.toArray.size * k.toNat) = true := by
    rw [notLongL hlen]
    exact Bool.false_ne_true
  have hnew : List.foldl (fun x1 x2 => x1 ++ x2) #[] (List.replicate (if its.toArray.isEmpty = true then 0 else k.toNat) its.toArray) = (List.replicate k.toNat its).flatten.toArray := by
    have f0 : ∀ m : Nat, List.foldl (fun x1 x2 => x1 ++ x2) #[] (List.replicate m its.toArray) = (List.replicate m its).flatten.toArray := fun m => by
      have := foldl_rep its m []
      rw [List.nil_append] at this
      exact this
    rw [f0]
    cases its with
    | nil => simp
    | cons a r' => rw [if_neg (by simp)]
  refine wpAny_binaryOp_repeat_ref (T := "list") (U := "int") (by decide) ⟨_, e, rfl⟩ (fun s' => typeIs_int s' k t) noFill_list_mul F.fills_int_mul F.slot_int_rmul repeat_list F.slot_int_index.lookup
    (call_meets F.slot_int_rmul (typeIs_int s k t) F.entry_int_rmul (F.args_int_rmul_2 _ _) (int___rmul___int_list k t l its.toArray n)
      ⟨e, rfl, ⟨_, e, rfl⟩, call_meets F.slot_list_mul ⟨_, e, rfl⟩ F.entry_list_mul (F.args_list_mul_2 _ _) (AutoListH.list___mul___list_int_3 l its.toArray n k t hfit hcap hlong) ⟨e, ?_⟩⟩)
  rw [hnew]
  exact ⟨.ref _, _, I.lnew (t' := s.toks) (r.rep k.toNat) (by rw [len_rep, Nat.mul_comm]; exact hz), rfl, q _ I.fresh⟩
end
end L2
namespace L2
open PySem PySem.Spec PyProof.Rows
theorem Vals.ints : ∀ {ns : List Int} {us : List Value}, Vals (ns.map V.int) us → IntsAre us ns
  | [], us, h => by
    rw [List.map_nil] at h
    cases h
    exact IntsAre.nil
  | n :: ns, us, h => by
    rw [List.map_cons] at h
    cases h with
    | cons r t =>
      obtain ⟨k, rfl⟩ := r
      exact IntsAre.cons n k (Vals.ints t)
theorem Vals.bls : ∀ {bs : List Bool} {us : List Value}, Vals (bs.map V.bl) us → us = bs.map Value.bool
  | [], us, h => by
    rw [List.map_nil] at h
    cases h
    rfl
  | b :: bs, us, h => by
    rw [List.map_cons] at h
    cases h with
    | cons r t =>
      cases r
      rw [Vals.bls t, List.map_cons]
theorem Vals.ref1 {a : Addr} {us : List Value} (r : Vals [V.ref a] us) : us = [Value.ref a] := by
  cases r with
  | cons r t =>
    cases t
    cases r
    rfl
section
variable {prog : Program} {w : World} {A : Around} {E : Value → Shared → Prop} {s : Shared} {l : Addr} {its : List Value} {ns : List Int} {Q : Value → Shared → Prop}
theorem sum_raw (hh : A.handled = none) (hl : s.heap.IsList l its.toArray) (hi : IntsAre its ns)
    (h : ∀ h' tk t', (∀ b o, s.heap.get? b = some o → h'.get? b = some o) → Q (.int ns.sum t') { s with heap := h', toks := tk }) : wpAny (model prog w) A (call (.builtin "sum") [.ref l]) Q E s := by
  obtain ⟨xs, e⟩ := hi.allInts.items
  have hn : numsOf (intItems xs).toList = ns := by rw [← e]; exact hi.numsOf
  rw [nums_intItems] at hn
  rw [e] at hl
  refine PySem.sum_intListG hh hl fun h' tk t' hk => ?_
  have := h h' tk t' hk
  rw [preSum_eq, List.take_of_length_le (by simp), hn]; exact this
theorem max_raw (hh : A.handled = none) (hl : s.heap.IsList l its.toArray) (hi : IntsAre its ns) (hne : 0 < ns.length)
    (h : ∀ h' tk M t', (∀ b o, s.heap.get? b = some o → h'.get? b = some o) → M ∈ ns → (∀ a, a ∈ ns → a ≤ M) → Q (.int M t') { s with heap := h', toks := tk }) : wpAny (model prog w) A (call (.builtin "max") [.ref l]) Q E s := by
  obtain ⟨xs, e⟩ := hi.allInts.items
  have hn : numsOf (intItems xs).toList = ns := by rw [← e]; exact hi.numsOf
  rw [nums_intItems] at hn
  subst hn
  rw [e] at hl
  have hsz : 0 < xs.size := by simpa using hne
  refine PySem.max_intList hh hl hsz fun v h' tk hv hk => ?_
  obtain ⟨t, rfl⟩ := intItems_at hv
  obtain ⟨h1, h2⟩ := argBest_gt (numAt xs) (xs.size - 1)
  refine h h' tk _ t hk ?_ fun a ha => ?_
  · rw [numAt_eq]; exact PySem.getD_mem (by rw [List.length_map, Array.length_toList]; omega)
  · obtain ⟨j, hj, rfl⟩ := mem_getD ha
    rw [List.length_map, Array.length_toList] at hj
    rw [← numAt_eq]; exact h2 j (by omega)
end
section
variable {X : Cx}
def rSum (K : PySem.W.Frag) : List V → Hp → VK → Prop := fun vs H Q => ∃ (a : Addr) (ns : List Int), vs = [V.ref a] ∧ SqL K H a (ns.map V.int) ∧ Q (.int ns.sum) H
def rMax (K : PySem.W.Frag) : List V → Hp → VK → Prop := fun vs H Q => ∃ (a : Addr) (ns : List Int), vs = [V.ref a] ∧ SqL K H a (ns.map V.int) ∧ 0 < ns.length ∧ ∀ m, m ∈ ns → (∀ y, y ∈ ns → y ≤ m) → Q (.int m) H
theorem cr_sum (hc : X.calm = true) : CallR X (.builtin "sum") (rSum X.K) := by
  intro pins s σ H vs us Q I r h
  obtain ⟨a, ns, rfl, hs, q⟩ := h
  obtain ⟨its, rv, hl, _⟩ := I.list hs
  rw [Vals.ref1 r]
  exact sum_raw (I.ok.hd hc) hl.isList rv.ints fun h' tk t' hk => ⟨.int _, H, I.kept hk, ⟨_, rfl⟩, q⟩
theorem cr_max (hc : X.calm = true) : CallR X (.builtin "max") (rMax X.K) := by
  intro pins s σ H vs us Q I r h
  obtain ⟨a, ns, rfl, hs, hne, q⟩ := h
  obtain ⟨its, rv, hl, _⟩ := I.list hs
  rw [Vals.ref1 r]
  exact max_raw (I.ok.hd hc) hl.isList rv.ints hne fun h' tk m t' hk h1 h2 => ⟨.int _, H, I.kept hk, ⟨_, rfl⟩, q m h1 h2⟩
end
section
variable {X : Cx}
def rIndex (K : PySem.W.Frag) : V → List V → Hp → VK → Prop := fun x xs H Q => ∃ (a : Addr) (ys : List V) (y : V) (j : Nat) (z : V), x = V.ref a ∧ xs = [y] ∧ SqL K H a ys ∧ flatV y = true ∧ ys.all flatV = true ∧ ys[j]? = some z ∧ eqV z y = true ∧
  (∀ (m : Nat) (z' : V), m < j → ys[m]? = some z' → eqV z' y = false) ∧ Q (.int (j : Nat)) H
theorem flat_at {ys : List V} (f : ys.all flatV = true) {j : Nat} {z : V} (h : ys[j]? = some z) : flatV z = true := List.all_eq_true.mp f z (List.mem_of_getElem? h)
theorem mt_index : MtR X "list.index" (rIndex X.K) := by
  intro pins s σ H x xs v us Q I rx rxs h
  obtain ⟨a, ys, y, j, z, rfl, rfl, hs, fy, fys, hz, hzj, hno, q⟩ := h
  cases rx
  cases rxs with
  | cons ry rt =>
    rename_i uy ut
    cases rt
    obtain ⟨its, rv, ⟨⟨cls, dd, data, sl⟩, n, ho, hc, hdn, hd⟩, hlen⟩ := I.list hs
    simp only at hc hd
    subst hc hd
    obtain ⟨u, hu, ru⟩ := rv.get hz
    obtain ⟨hjl, hje⟩ := List.getElem?_eq_some_iff.mp hu
    have hvl := rv.length
    have hj : j < its.toArray.size := by simpa using hjl
    have hsl := sizeLine_eq
    refine call_meets PySem.F.slot_list_index ⟨_, ho, rfl⟩ PySem.F.entry_list_index (PySem.F.args_list_index_2 _ _)
      (SeqAt.list_indexAt a its.toArray n dd sl uy (eqU y) j hj (by omega) ?_ ?_) ⟨ho, fun u' hu' => mem_eqAt ry fy rv fys u' (by simpa using hu'), ?_⟩
    · have e1 : its.toArray[j] = u := by simpa using hje
      rw [e1, eqU_of ru (flat_at fys hz)]
      exact hzj
    · intro m hm hmj
      have hml : m < its.length := by simpa using hm
      have hmy : m < ys.length := by omega
      have hy' : ys[m]? = some ys[m] := List.getElem?_eq_getElem hmy
      obtain ⟨u2, hu2, ru2⟩ := rv.get hy'
      obtain ⟨_, hme⟩ := List.getElem?_eq_some_iff.mp hu2
      have e1 : its.toArray[m] = u2 := by simpa using hme
      rw [e1, eqU_of ru2 (flat_at fys hy')]
      exact hno m _ hmj hy'
    · exact ⟨.int (j : Nat), H, I.tok _, ⟨_, rfl⟩, q⟩
end
theorem iter_any {prog : Program} {w : World} {A : Around} {E : Value → Shared → Prop} {s : Shared} {l : Addr} {items : Array Value} {Q : Value → Shared → Prop} (hl : s.heap.IsList l items)
    (h : ∀ s₂ : Shared, s₂ = { s with heap := s.heap.push { cls := .type "list_iterator", data := .fields #[.ref l, .int 0 0] } } →
      (s₂.heap.IsListIter s.heap.objs.size l 0 ∧ s₂.heap.IsList l items) → l ≠ s.heap.objs.size → Q (.ref s.heap.objs.size) s₂) : wpAny (model prog w) A (pyIter (.ref l)) Q E s := by
  have hlt : l < s.heap.objs.size := by obtain ⟨_, e, _⟩ := hl; exact Heap.lt_size e
  exact wpAny_pyIter_list hl (h _ rfl ⟨⟨_, Heap.get?_push_size _ rfl, rfl, rfl⟩, hl.push _⟩ (Nat.ne_of_lt hlt))
theorem truth_bools {prog : Program} {w : World} {A : Around} {bs : List Bool} {its : List Value} (e : its = bs.map Value.bool) :
    TruthOf prog w A (fun i v => its.toArray[i]? = some v) (fun i => bs.getD i false) := fun i v s Q E hv hq => by
  have hv' : its[i]? = some v := by simpa using hv
  rw [e, List.getElem?_map] at hv'
  obtain ⟨b, hb, rfl⟩ := Option.map_eq_some_iff.mp hv'
  have hg : bs.getD i false = b := by rw [List.getD_eq_getElem?_getD, hb] <;> rfl
  have hq' : Q (bs.getD i false) s := hq
  rw [hg] at hq'
  exact wpAny_truthy_bool hq'
theorem any_range : ∀ bs : List Bool, (List.range bs.length).any (fun i => bs.getD i false) = bs.any id
  | [] => rfl
  | b :: bs => by
    rw [List.length_cons, List.range_succ_eq_map, List.any_cons, List.any_map, List.any_cons, ← any_range bs]
    all_goals rfl
theorem all_range : ∀ bs : List Bool, (List.range bs.length).all (fun i => bs.getD i false) = bs.all id
  | [] => rfl
  | b :: bs => by
    rw [List.length_cons, List.range_succ_eq_map, List.all_cons, List.all_map, List.all_cons, ← all_range bs]
    all_goals rfl
section
variable {X : Cx}
def rAny (K : PySem.W.Frag) : List V → Hp → VK → Prop := fun vs H Q => ∃ (a : Addr) (bs : List Bool), vs = [V.ref a] ∧ SqL K H a (bs.map V.bl) ∧ Q (.bl (bs.any id)) H
def rAll (K : PySem.W.Frag) : List V → Hp → VK → Prop := fun vs H Q => ∃ (a : Addr) (bs : List Bool), vs = [V.ref a] ∧ SqL K H a (bs.map V.bl) ∧ Q (.bl (bs.all id)) H
theorem cr_any (hc : X.calm = true) : CallR X (.builtin "any") (rAny X.K) := by
  intro pins s σ H vs us Q I r h
  obtain ⟨a, bs, rfl, hs, q⟩ := h
  obtain ⟨its, rv, hl, _⟩ := I.list hs
  rw [Vals.ref1 r]
  have hb := rv.bls
  refine call_any_walk (iter_any hl.isList fun s₂ e2 st hne => ?_)
  subst e2
  refine ⟨_, _, _, _, _, _, _, rfl, Walks.list (A := X.A.in1) (I.ok.hd hc) _ a hne its.toArray, st, truth_bools hb, fun h' tk hk => ?_⟩
  refine ⟨.bl _, H, I.kept fun b o eo => hk b o (fun hmem => ?_) (Heap.get?_push_of_some _ eo), ?_, q⟩
  · rcases List.mem_cons.mp hmem with e1 | hmem
    · exact absurd (e1 ▸ Heap.lt_size eo) (Nat.lt_irrefl _)
    · cases hmem
  · show Value.bool _ = Value.bool _
    rw [← any_range, hb, List.size_toArray, List.length_map]
theorem cr_all (hc : X.calm = true) : CallR X (.builtin "all") (rAll X.K) := by
  intro pins s σ H vs us Q I r h
  obtain ⟨a, bs, rfl, hs, q⟩ := h
  obtain ⟨its, rv, hl, _⟩ := I.list hs
  rw [Vals.ref1 r]
  have hb := rv.bls
  refine call_all_walk (iter_any hl.isList fun s₂ e2 st hne => ?_)
  subst e2
  refine ⟨_, _, _, _, _, _, _, rfl, Walks.list (A := X.A.in1) (I.ok.hd hc) _ a hne its.toArray, st, truth_bools hb, fun h' tk hk => ?_⟩
  refine ⟨.bl _, H, I.kept fun b o eo => hk b o (fun hmem => ?_) (Heap.get?_push_of_some _ eo), ?_, q⟩
  · rcases List.mem_cons.mp hmem with e1 | hmem
    · exact absurd (e1 ▸ Heap.lt_size eo) (Nat.lt_irrefl _)
    · cases hmem
  · show Value.bool _ = Value.bool _
    rw [← all_range, hb, List.size_toArray, List.length_map]
end
mutual
inductive Dp (K : PySem.W.Frag) (H : Hp) : V → PyData → Prop
  | non : Dp K H .non .none
  | bl (b : Bool) : Dp K H (.bl b) (.bool b)
  | int (i : Int) : Dp K H (.int i) (.int i)
  | str (x : Str) : Dp K H (.str x) (.str x)
  | lst {a : Addr} {xs : List V} {ds : List PyData} : SqL K H a xs → DpAll K H xs ds → Dp K H (.ref a) (.list ds)
  | tup {a : Addr} {xs : List V} {ds : List PyData} : SqT K H a xs → DpAll K H xs ds → Dp K H (.ref a) (.tuple ds)
inductive DpAll (K : PySem.W.Frag) (H : Hp) : List V → List PyData → Prop
  | nil : DpAll K H [] []
  | cons {v : V} {vs : List V} {d : PyData} {ds : List PyData} : Dp K H v d → DpAll K H vs ds → DpAll K H (v :: vs) (d :: ds)
end
section
variable {X : Cx} {pins : List (Addr × Obj)} {σ : St} {H : Hp} {s : Shared}
mutual
theorem Dp.reads (I : Inv X pins σ H s) : ∀ (d : PyData) (v : V) (u : Value), Dp X.K H v d → RelV v u → ∃ as, Reads s.heap u d as
  | .none, _, _, h, r => by
    cases h
    cases r
    exact ⟨_, Reads.none⟩
  | .bool b, _, _, h, r => by
    cases h
    cases r
    exact ⟨_, Reads.bool b⟩
  | .int i, _, _, h, r => by
    cases h
    obtain ⟨t, rfl⟩ := r
    exact ⟨_, Reads.int i t⟩
  | .str x, _, _, h, r => by
    cases h
    obtain ⟨t, rfl⟩ := r
    exact ⟨_, Reads.str x t⟩
  | .list ds, _, _, h, r => by
    cases h with
    | lst hs ha =>
      cases r
      obtain ⟨its, rv, ⟨o, n, ho, hc, _, hd⟩, _⟩ := I.list hs
      obtain ⟨as, hr⟩ := Dp.readsAll I ds _ its ha rv
      exact ⟨_, Reads.list ho hc hd hr⟩
  | .tuple ds, _, _, h, r => by
    cases h with
    | tup hs ha =>
      cases r
      obtain ⟨its, rv, ⟨o, ho, hc, n, hd⟩, _⟩ := I.tuple hs
      obtain ⟨as, hr⟩ := Dp.readsAll I ds _ its ha rv
      exact ⟨_, Reads.tuple ho hc hd hr⟩
  | .dict _, _, _, h, _ => by cases h
theorem Dp.readsAll (I : Inv X pins σ H s) : ∀ (ds : List PyData) (vs : List V) (us : List Value), DpAll X.K H vs ds → Vals vs us → ∃ as, ReadsAll s.heap us ds as
  | [], _, _, h, r => by
    cases h
    cases r
    exact ⟨_, ReadsAll.nil⟩
  | d :: ds, _, _, h, r => by
    cases h with
    | cons h1 h2 =>
      cases r with
      | cons r1 r2 =>
        obtain ⟨as, q1⟩ := Dp.reads I d _ _ h1 r1
        obtain ⟨bs, q2⟩ := Dp.readsAll I ds _ _ h2 r2
        exact ⟨_, ReadsAll.cons q1 q2⟩
end
end
section
variable {X : Cx}
def rEqD (K : PySem.W.Frag) : R2 := fun x y H Q => ∃ d e, Dp K H x d ∧ Dp K H y e ∧ SeqAt.shaped d = true ∧ SeqAt.shaped e = true ∧ Q (.bl (PyData.eqv d e)) H
theorem op_eqD (hu : X.A.units + 64 < cLine) : OpR X (compareOp .Eq) (rEqD X.K) := by
  intro pins s σ H x y v u Q I rx ry h
  obtain ⟨d, e, hd, he, sd, se, q⟩ := h
  obtain ⟨as, r1⟩ := Dp.reads I d x v hd rx
  obtain ⟨bs, r2⟩ := Dp.reads I e y u he ry
  exact SeqAt.compareEq_shaped r1 r2 sd se hu ⟨.bl _, H, I, rfl, q⟩
end
end L2
namespace L2
open PySem PySem.Spec PyProof.Rows
abbrev CellAt (h : Heap) (c : Addr) (v : Option Value) : Prop := h.IsCell c v
def relS (scope sc : Scope) : Scope :=
  { scope with names := scope.names.map fun (n, k) => if (k == .free && sc.kind == .function && sc.names.lookup n == some .cell) then (n, .cell) else (n, k) }
def cloFrom (cells : List (Str × Addr)) : List (Str × NameKind) → List (Str × Addr) → List (Str × Addr)
  | [], acc => acc
  | (n, k) :: r, acc => if k == .free then cloFrom cells r ((n, (cells.lookup n).getD 0) :: acc) else cloFrom cells r acc
theorem closure_loop (env : Env) (f : Str × NameKind → List (Str × Addr) → Sem (ForInStep (List (Str × Addr))))
    (hf : ∀ n k c, f (n, k) c = if k == .free then (do let a ← cellOf env n; pure (.yield ((n, a) :: c))) else pure (.yield c)) :
    ∀ (names : List (Str × NameKind)) (acc : List (Str × Addr)), (∀ y ∈ names, y.2 = .free → ∃ c, env.cells.lookup y.1 = some c) → forIn names acc f = pure (cloFrom env.cells names acc)
  | [], acc, _ => by rw [List.forIn_nil]; rfl
  | (n, k) :: r, acc, h => by
    rw [List.forIn_cons, hf]
    have ih := fun acc => closure_loop env f hf r acc fun y hy => h y (List.mem_cons_of_mem _ hy)
    unfold cloFrom
    by_cases hk : (k == NameKind.free) = true
    · rw [if_pos hk, if_pos hk]
      obtain ⟨c, hc⟩ := h (n, k) List.mem_cons_self (by simpa using hk)
      have e : cellOf env n = pure c := by unfold cellOf; rw [hc]
      rw [e]
      have e2 : (env.cells.lookup n).getD 0 = c := by rw [hc]; rfl
      rw [e2]
      exact ih _
    · rw [if_neg hk, if_neg hk]
      exact ih _
theorem closure_ok {scope : Scope} {env : Env} (h : ∀ y ∈ scope.names, y.2 = .free → ∃ c, env.cells.lookup y.1 = some c) : closureFor scope env = pure (cloFrom env.cells scope.names []) := by
  simp only [closureFor]
  rw [closure_loop env _ (fun n k c => rfl) scope.names [] h]
  rfl
theorem mem_lookup {α : Type} : ∀ {l : List (Str × α)} {n : Str} {c : α}, (n, c) ∈ l → ∃ c', l.lookup n = some c'
  | (k, v) :: r, n, c, h => by
    rw [List.lookup_cons]
    cases hb : n == k with
    | true => exact ⟨_, rfl⟩
    | false =>
      rcases List.mem_cons.mp h with e | h
      · cases e; simp at hb
      · exact mem_lookup h
theorem cloFrom_mem {cells : List (Str × Addr)} : ∀ {names : List (Str × NameKind)} {acc : List (Str × Addr)} {n : Str} {c : Addr}, (n, c) ∈ cloFrom cells names acc → (n, c) ∈ acc ∨ ((n, .free) ∈ names ∧ c = (cells.lookup n).getD 0)
  | [], _, _, _, h => .inl h
  | (m, k) :: r, acc, n, c, h => by
    unfold cloFrom at h
    split at h
    · rename_i hk
      have hk : k = .free := by simpa using hk
      rcases cloFrom_mem h with h | ⟨h1, h2⟩
      · rcases List.mem_cons.mp h with e | h
        · cases e; exact .inr ⟨hk ▸ List.mem_cons_self, rfl⟩
        · exact .inl h
      · exact .inr ⟨List.mem_cons_of_mem _ h1, h2⟩
    · rcases cloFrom_mem h with h | ⟨h1, h2⟩
      · exact .inl h
      · exact .inr ⟨List.mem_cons_of_mem _ h1, h2⟩
theorem cloFrom_acc {cells : List (Str × Addr)} : ∀ {names : List (Str × NameKind)} {acc : List (Str × Addr)} {p : Str × Addr}, p ∈ acc → p ∈ cloFrom cells names acc
  | [], _, _, h => h
  | (m, k) :: r, acc, p, h => by
    unfold cloFrom
    split
    · exact cloFrom_acc (List.mem_cons_of_mem _ h)
    · exact cloFrom_acc h
theorem cloFrom_has {cells : List (Str × Addr)} : ∀ {names : List (Str × NameKind)} {acc : List (Str × Addr)} {n : Str}, (n, .free) ∈ names → (n, (cells.lookup n).getD 0) ∈ cloFrom cells names acc
  | (m, k) :: r, acc, n, h => by
    unfold cloFrom
    rcases List.mem_cons.mp h with e | h
    · cases e
      exact cloFrom_acc List.mem_cons_self
    · split
      · exact cloFrom_has h
      · exact cloFrom_has h
theorem cells_mem : ∀ {names : List (Str × NameKind)} {h : Heap} {acc : List (Str × Addr)} {x : Str} {c : Addr}, (x, c) ∈ cellsFrom h.objs.size names acc →
    (x, c) ∈ acc ∨ ((x, .cell) ∈ names ∧ h.objs.size ≤ c ∧ CellAt (pushCells h names) c none)
  | [], _, _, _, _, h => .inl h
  | (n, k) :: r, h, acc, x, c, hm => by
    unfold cellsFrom at hm
    unfold pushCells
    split at hm
    · rename_i hk
      rw [if_pos hk]
      have hk : k = .cell := by simpa using hk
      rw [← Heap.size_push h { cls := .type "cell", data := .cell none }] at hm
      rcases cells_mem hm with hm | ⟨h1, h2, h3⟩
      · rcases List.mem_cons.mp hm with e | hm
        · cases e
          exact .inr ⟨hk ▸ List.mem_cons_self, Nat.le_refl _, _, pushCells_keeps r _ _ _ (Heap.get?_push_size _ rfl), rfl⟩
        · exact .inl hm
      · rw [Heap.size_push] at h2
        exact .inr ⟨List.mem_cons_of_mem _ h1, Nat.le_of_succ_le h2, h3⟩
    · rename_i hk
      rw [if_neg hk]
      rcases cells_mem hm with hm | ⟨h1, h2, h3⟩
      · exact .inl hm
      · exact .inr ⟨List.mem_cons_of_mem _ h1, h2, h3⟩
theorem cells_acc : ∀ {names : List (Str × NameKind)} {n : Nat} {acc : List (Str × Addr)} {p : Str × Addr}, p ∈ acc → p ∈ cellsFrom n names acc
  | [], _, _, _, h => h
  | (m, k) :: r, n, acc, p, h => by
    unfold cellsFrom
    split
    · exact cells_acc (List.mem_cons_of_mem _ h)
    · exact cells_acc h
theorem cells_has : ∀ {names : List (Str × NameKind)} {n : Nat} {acc : List (Str × Addr)} {x : Str}, (x, .cell) ∈ names → ∃ c, (x, c) ∈ cellsFrom n names acc
  | (m, k) :: r, n, acc, x, h => by
    unfold cellsFrom
    rcases List.mem_cons.mp h with e | h
    · cases e
      exact ⟨n, cells_acc List.mem_cons_self⟩
    · split
      · exact cells_has h
      · exact cells_has h
theorem cells_inj : ∀ {names : List (Str × NameKind)} {h : Heap} {acc : List (Str × Addr)} {x y : Str} {c : Addr}, (∀ p ∈ acc, p.2 < h.objs.size) → (∀ x y c, (x, c) ∈ acc → (y, c) ∈ acc → x = y) →
    (x, c) ∈ cellsFrom h.objs.size names acc → (y, c) ∈ cellsFrom h.objs.size names acc → x = y
  | [], _, _, _, _, _, _, hi, h1, h2 => hi _ _ _ h1 h2
  | (n, k) :: r, h, acc, x, y, c, hl, hi, h1, h2 => by
    unfold cellsFrom at h1 h2
    split at h1
    · rename_i hk
      rw [if_pos hk] at h2
      rw [← Heap.size_push h { cls := .type "cell", data := .cell none }] at h1 h2
      refine cells_inj (h := h.push _) (fun p hp => ?_) (fun x y c a b => ?_) h1 h2
      · rw [Heap.size_push]
        rcases List.mem_cons.mp hp with rfl | hp
        · exact Nat.lt_succ_self _
        · exact Nat.lt_succ_of_lt (hl p hp)
      · rcases List.mem_cons.mp a with e | a <;> rcases List.mem_cons.mp b with e' | b
        · cases e; cases e'; rfl
        · cases e; exact absurd (hl _ b) (Nat.lt_irrefl _)
        · cases e'; exact absurd (hl _ a) (Nat.lt_irrefl _)
        · exact hi _ _ _ a b
    · rename_i hk
      rw [if_neg hk] at h2
      exact cells_inj hl hi h1 h2
theorem newEnv_comp {M : Model} {A : Around} {E : Value → Shared → Prop} {s : Shared} {scope : Scope} {globals : Addr} {closure : List (Str × Addr)} {qual : Str} {func : Option Addr} {code : Value} {around : Env} {builtins : Addr} {Q : Env → Shared → Prop}
    (h : Q (newEnv scope s.heap.objs.size globals (cellsFrom (s.heap.objs.size + 1) scope.names closure) qual func code (some around) builtins)
      { s with heap := pushCells (s.heap.push { cls := .type "dict", data := .dict #[] }) scope.names }) :
    wpAny M A (newFunctionEnv scope globals closure [] qual func code (some around) builtins) Q E s := by
  simp only [newFunctionEnv, Option.isSome_some, if_true]
  refine wpAny_bind (wpAny_alloc ?_)
  refine wpAny_bind (wpAny_layCells _ (fun n k c => rfl) scope.names closure _ _ ?_)
  rw [show ({ s with heap := s.heap.push { cls := .type "dict", data := .dict #[] } } : Shared).heap.objs.size = s.heap.objs.size + 1 from Heap.size_push ..]
  rw [List.forIn_nil]
  exact wpAny_bind (wpAny_pure (wpAny_pure h))
theorem lookup_relS {sc : Scope} : ∀ {names : List (Str × NameKind)} {x : Str} {k : NameKind},
    (names.map fun (n, k) => if (k == NameKind.free && sc.kind == .function && sc.names.lookup n == some .cell) then (n, NameKind.cell) else (n, k)).lookup x = some k →
    ∃ k', names.lookup x = some k' ∧ (k = k' ∨ (k' = .free ∧ k = .cell))
  | [], _, _, h => by simp at h
  | (n, k₀) :: r, x, k, h => by
    have ih := @lookup_relS sc r x k
    have h' : List.lookup x ((if (k₀ == NameKind.free && sc.kind == .function && sc.names.lookup n == some .cell) = true then (n, NameKind.cell) else (n, k₀)) :: (r.map _)) = some k := h
    cases hx : x == n with
    | true =>
      simp only [List.lookup_cons, hx]
      by_cases hc : (k₀ == NameKind.free && sc.kind == .function && sc.names.lookup n == some .cell) = true
      · rw [if_pos hc] at h'
        simp only [List.lookup_cons, hx] at h'
        cases h'
        simp only [Bool.and_eq_true, beq_iff_eq] at hc
        exact ⟨k₀, rfl, .inr ⟨hc.1.1, rfl⟩⟩
      · rw [if_neg hc] at h'
        simp only [List.lookup_cons, hx] at h'
        cases h'
        exact ⟨_, rfl, .inl rfl⟩
    | false =>
      simp only [List.lookup_cons, hx]
      by_cases hc : (k₀ == NameKind.free && sc.kind == .function && sc.names.lookup n == some .cell) = true
      · rw [if_pos hc] at h'
        simp only [List.lookup_cons, hx] at h'
        exact ih h'
      · rw [if_neg hc] at h'
        simp only [List.lookup_cons, hx] at h'
        exact ih h'
structure BlkOk (N : List Str) (sc scope : Scope) (own : List (Str × Nat)) : Prop where
  kind : scope.kind = .function
  uniq : ∀ y ∈ scope.names, scope.names.lookup y.1 = some y.2
  ix : ∀ p ∈ own, N[p.2]? = some p.1
  free : ∀ y ∈ scope.names, y.2 = .free → sc.names.lookup y.1 = some .cell ∨ sc.names.lookup y.1 = some .free
  own : ∀ y ∈ scope.names, y.2 = .local ∨ y.2 = .cell → y.1 ∈ own.map (·.1) ∨ y.1 ∉ N
def wipe (σ : St) : List Nat → St
  | [] => σ
  | v :: vs => (wipe σ vs).set v none
theorem wipe_length (σ : St) : ∀ vs : List Nat, (wipe σ vs).length = σ.length
  | [] => rfl
  | v :: vs => by unfold wipe; rw [List.length_set, wipe_length σ vs]
theorem wipe_some {σ : St} {i : Nat} {x : V} : ∀ {vs : List Nat}, (wipe σ vs)[i]? = some (some x) → σ[i]? = some (some x) ∧ i ∉ vs
  | [], h => ⟨h, by simp⟩
  | v :: vs, h => by
    unfold wipe at h
    by_cases hi : v = i
    · subst hi
      by_cases hv : v < (wipe σ vs).length
      · rw [List.getElem?_set_self hv] at h; cases h
      · rw [List.getElem?_eq_none (by simpa using hv)] at h; cases h
    · rw [List.getElem?_set_ne hi] at h
      obtain ⟨h1, h2⟩ := wipe_some h
      exact ⟨h1, by simp only [List.mem_cons, not_or]; exact ⟨fun e => hi e.symm, h2⟩⟩
abbrev Cx.blk (X : Cx) (s : Shared) (H : Hp) (scope : Scope) (cenv : Env) (fp : List Addr) : Cx := { X with s_0 := s, H_0 := H, env := cenv, outer := X.stack, ex := fp, fn := fun x => scope.names.lookup x == some .cell, pn := [], xe := fun _ _ => False }
section
variable {X : Cx} {pins : List (Addr × Obj)} {σ : St} {H : Hp} {s : Shared}
theorem block_start {scope : Scope} {own : List (Str × Nat)} {fp : List Addr} (I : Inv X pins σ H s) (ok : BlkOk X.N X.env.scope scope own) (hN : X.N.Nodup) (hfp : ∀ b ∈ fp, FpOk X pins H b ∧ b < s.heap.objs.size) :
    Inv (X.blk s H scope (compEnvC scope (cellsFrom (s.heap.objs.size + 1) scope.names (cloFrom X.env.cells scope.names [])) s.heap.objs.size X.env) fp) [] (wipe σ (own.map (·.2))) H { s with heap := pushCells (s.heap.push { cls := .type "dict", data := .dict #[] }) scope.names } := by
  have hfree : ∀ y ∈ scope.names, y.2 = .free → ∃ c, X.env.cells.lookup y.1 = some c := fun y hy e => by
    rcases ok.free y hy e with k | k
    · exact I.ok.has _ (.inl k)
    · exact I.ok.has _ (.inr k)
  generalize hcenv : compEnvC scope (cellsFrom (s.heap.objs.size + 1) scope.names (cloFrom X.env.cells scope.names [])) s.heap.objs.size X.env = cenv
  have kp : ∀ b o, s.heap.get? b = some o → (pushCells (s.heap.push { cls := .type "dict", data := .dict #[] }) scope.names).get? b = some o := fun b o e => pushCells_keeps _ _ _ _ (Heap.get?_push_of_some _ e)
  have hL : cenv.locals = s.heap.objs.size := by rw [← hcenv]; rfl
  have hcl : cenv.cells = cellsFrom (s.heap.objs.size + 1) scope.names (cloFrom X.env.cells scope.names []) := by rw [← hcenv]; rfl
  have hsc : cenv.scope = relS scope X.env.scope := by rw [← hcenv]; rfl
  rw [← Heap.size_push s.heap { cls := .type "dict", data := .dict #[] }] at hcl
  have cm : ∀ {y c}, (y, c) ∈ cloFrom X.env.cells scope.names [] → X.env.cells.lookup y = some c ∧ c < s.heap.objs.size := fun {y c} hm => by
    rcases cloFrom_mem hm with hm | ⟨h1, rfl⟩
    · cases hm
    · obtain ⟨c, hc⟩ := hfree _ h1 rfl
      rw [hc]
      obtain ⟨w, z⟩ := I.cell _ _ hc
      exact ⟨rfl, z.lt⟩
  have mem : ∀ {y c}, cenv.cells.lookup y = some c → (X.env.cells.lookup y = some c ∧ c < s.heap.objs.size) ∨ (s.heap.objs.size + 1 ≤ c ∧ CellAt (pushCells (s.heap.push { cls := .type "dict", data := .dict #[] }) scope.names) c none) := fun {y c} e => by
    rw [hcl] at e
    rcases cells_mem (PySem.mem_of_lookup e) with hm | ⟨_, h2, h3⟩
    · exact .inl (cm hm)
    · rw [Heap.size_push] at h2; exact .inr ⟨h2, h3⟩
  have look : ∀ {y}, scope.names.lookup y = some .free → ∃ c, cenv.cells.lookup y = some c ∧ X.env.cells.lookup y = some c := fun {y} hl => by
    have hy : (y, NameKind.free) ∈ scope.names := PySem.mem_of_lookup hl
    obtain ⟨c', e'⟩ := mem_lookup (cells_acc (names := scope.names) (n := (s.heap.push { cls := .type "dict", data := .dict #[] }).objs.size) (cloFrom_has (cells := X.env.cells) (acc := []) hy))
    rw [← hcl] at e'
    refine ⟨c', e', ?_⟩
    rw [hcl] at e'
    rcases cells_mem (PySem.mem_of_lookup e') with hm | ⟨h1, _, _⟩
    · exact (cm hm).1
    · have := ok.uniq _ h1
      rw [hl] at this; cases this
  have okB : (X.blk s H scope cenv fp).Ok := by
    refine ⟨I.ok.mod, by show cenv.scope.kind = _; rw [hsc]; exact ok.kind, by show cenv.globals = _; rw [← hcenv]; exact I.ok.glob, by show cenv.builtins = _; rw [← hcenv]; exact I.ok.blt, by show s.heap.objs.size ≤ cenv.locals; rw [hL]; exact Nat.le_refl _,
      fun y z c e1 e2 => ?_, fun y hy => ?_, fun y c z e => ?_, I.ok.hd, I.ok.frames, .inl rfl, fun b hb => ⟨?_, fun y c e z => ?_⟩, I.bs, Nat.le_trans I.ok.bsz I.sz, fun b o e hb => ?_, fun b hb z => ?_, I.stack, I.stkFree⟩
    · have e1 : cenv.cells.lookup y = some c := e1
      have e2 : cenv.cells.lookup z = some c := e2
      rw [hcl] at e1 e2
      refine cells_inj (fun p hp => ?_) (fun y z c a b => I.ok.inj y z c (cm a).1 (cm b).1) (PySem.mem_of_lookup e1) (PySem.mem_of_lookup e2)
      rw [Heap.size_push]
      exact Nat.lt_succ_of_lt (cm (y := p.1) (c := p.2) hp).2
    · show ∃ c, cenv.cells.lookup y = some c
      have key : ∀ k, cenv.kindOf y = some k → (k = .cell ∨ k = .free) → ∃ c, cenv.cells.lookup y = some c := fun k hk hk' => by
        unfold Env.kindOf at hk
        rw [hsc] at hk
        obtain ⟨k', e, r⟩ := lookup_relS hk
        have : k' = .cell ∨ k' = .free := by
          rcases r with rfl | ⟨rfl, _⟩
          · exact hk'
          · exact .inr rfl
        rcases this with rfl | rfl
        · obtain ⟨c, hm⟩ := cells_has (n := (s.heap.push { cls := .type "dict", data := .dict #[] }).objs.size) (acc := cloFrom X.env.cells scope.names []) (PySem.mem_of_lookup e)
          obtain ⟨c', e'⟩ := mem_lookup hm
          exact ⟨c', by rw [hcl]; exact e'⟩
        · obtain ⟨c, h1, _⟩ := look e
          exact ⟨c, h1⟩
      rcases hy with hy | hy
      · exact key _ hy (.inl rfl)
      · exact key _ hy (.inr rfl)
    · have z : (scope.names.lookup y == some NameKind.cell) = true := z
      have z : scope.names.lookup y = some .cell := by simpa using z
      have e : cenv.cells.lookup y = some c := e
      rw [hcl] at e
      rcases cells_mem (PySem.mem_of_lookup e) with hm | ⟨_, h2, _⟩
      · rcases cloFrom_mem hm with hm | ⟨h1, _⟩
        · cases hm
        · have q := ok.uniq _ h1
          rw [z] at q; cases q
      · rw [Heap.size_push] at h2
        exact Nat.le_of_succ_le h2
    · show b ≠ cenv.locals
      rw [hL]; exact Nat.ne_of_lt (hfp b hb).2
    · have e : cenv.cells.lookup y = some c := e
      rcases mem e with ⟨h1, _⟩ | ⟨h1, _⟩
      · exact (hfp b hb).1.2.2.2.2.1 y c h1 z
      · have h2 : s.heap.objs.size + 1 ≤ b := by rw [← z]; exact h1
        exact absurd (Nat.lt_of_lt_of_le (hfp b hb).2 (Nat.le_of_succ_le h2)) (Nat.lt_irrefl _)
    · rcases (hfp b hb).1.2.2.2.1 with z | z
      · exact I.ok.noex b o e z
      · exact absurd (Nat.lt_of_lt_of_le (Heap.lt_size e) (Nat.le_trans I.ok.bsz z)) (Nat.lt_irrefl _)
    · rcases List.mem_cons.mp (I.stkSub b z) with z | z
      · exact (hfp b hb).1.2.1 z
      · exact (hfp b hb).1.2.2.1 z
  refine ⟨okB, rfl, I.bare, Un.kept kp, ⟨fun _ => none, ?_, fun i y av e1 e2 e3 => ?_⟩, fun y c e => ?_, ?_, fun y c e => ?_, fun p hp => ?_, I.hok.kept kp, by rw [wipe_length]; exact I.len⟩
  · show Heap.Ns _ cenv.locals _
    rw [hL]
    exact Heap.Ns.keeps (Heap.Ns.new ..) fun b o e => pushCells_keeps _ _ _ _ e
  · obtain ⟨e2, hne⟩ := wipe_some e2
    have hfr : scope.names.lookup y = some .free ∧ (cenv.kindOf y = some .cell ∨ cenv.kindOf y = some .free) := by
      have key : ∀ k, cenv.scope.names.lookup y = some k → k = .local ∨ k = .cell ∨ k = .free → scope.names.lookup y = some .free ∧ (cenv.kindOf y = some .cell ∨ cenv.kindOf y = some .free) := fun k hk hk' => by
        have hk0 := hk
        rw [hsc] at hk
        obtain ⟨k', e, r⟩ := lookup_relS hk
        have no : ¬ (k' = .local ∨ k' = .cell) := fun hh => by
          rcases ok.own _ (PySem.mem_of_lookup e) hh with e' | e'
          · obtain ⟨p, hp, hpy⟩ := List.mem_map.mp e'
            have e3 := ok.ix p hp
            have : p.1 = y := hpy
            rw [this] at e3
            exact hne (List.mem_map.mpr ⟨p, hp, nodup_ix hN e3 e1⟩)
          · exact e' (List.mem_of_getElem? e1)
        rcases r with rfl | ⟨rfl, rfl⟩
        · rcases hk' with rfl | rfl | rfl
          · exact absurd (.inl rfl) no
          · exact absurd (.inr rfl) no
          · exact ⟨e, .inr hk0⟩
        · exact ⟨e, .inl hk0⟩
      have e3 : Vis cenv.scope y := e3
      rcases e3 with e3 | e3 | e3
      · exact key _ e3 (.inl rfl)
      · exact key _ e3 (.inr (.inl rfl))
      · exact key _ e3 (.inr (.inr rfl))
    obtain ⟨m, hn, hl⟩ := I.loc
    have hvis : Vis X.env.scope y := (ok.free _ (PySem.mem_of_lookup hfr.1) rfl).elim (fun k => .inr (.inl k)) (fun k => .inr (.inr k))
    obtain ⟨w, r, q⟩ := hl i y av e1 e2 hvis
    refine ⟨w, r, .inr ⟨hfr.2, ?_⟩⟩
    obtain ⟨c, h1, h2⟩ := look hfr.1
    rcases q with ⟨k, _⟩ | ⟨_, c', e', z⟩
    · have k : X.env.scope.names.lookup y = some .local := k
      rcases ok.free _ (PySem.mem_of_lookup hfr.1) rfl with k' | k' <;> rw [show X.env.scope.names.lookup y = _ from k'] at k <;> cases k
    · rw [h2] at e'; cases e'
      exact ⟨c, h1, z.keeps kp⟩
  · have e : cenv.cells.lookup y = some c := e
    rcases mem e with ⟨h1, _⟩ | ⟨_, z⟩
    · obtain ⟨w, z⟩ := I.cell y c h1
      exact ⟨w, z.keeps kp⟩
    · exact ⟨_, z⟩
  · show H cenv.locals = none
    rw [hL]; exact I.hok.fresh (Nat.le_refl _)
  · have e : cenv.cells.lookup y = some c := e
    rcases mem e with ⟨h1, _⟩ | ⟨h1, _⟩
    · exact I.freeC y c h1
    · exact I.hok.fresh (Nat.le_of_succ_le h1)
  · exact absurd (show p ∈ ([] : List (Addr × Obj)) ++ [] from hp) (by simp)
theorem app_ok {E : Value → Shared → Prop} {D : Addr} {xs : List V} {y : V} {v : Value} {Q : Value → Shared → Prop} (I : Inv X pins σ H s) (hD : H D = some (.lst xs)) (hz : xs.length < sizeLine) (r : RelV y v)
    (h : ∀ s', Inv X pins σ (upd H D (.lst (xs ++ [y]))) s' → Q .none s') : wpAny (model X.prog X.w) X.A (call (.builtin "list.append") [.ref D, v]) Q E s := by
  obtain ⟨hz', its, n, ri, e⟩ := I.hok D _ hD
  have hl := ri.length
  refine append_at (hsz := by rw [List.size_toArray]; omega) e fun h' sb ho' => ?_
  refine h { s with heap := h' } (I.write (t' := s.toks) (by rw [hD]; trivial) (.inl rfl) (fun b u hb q => (sb.2 b hb).trans q) ⟨_, ho'⟩ ⟨by rw [List.length_append]; exact hz, its ++ [v], n + 1, ri.append (.cons r .nil), ?_⟩)
  rw [ho']
  simp
def PTs (X : Cx) (ifs : List Expr) (t : TT) : Prop :=
  ∀ (pins : List (Addr × Obj)) (s : Shared) (σ : St) (H : Hp) (Q : Bool → Hp → Prop), Inv X pins σ H s → t σ H Q →
    wpAny (model X.prog X.w) X.A (forIn ifs true fun c r => if r = true then do let ok ← isTrue c X.env (eval c X.env); pure (ForInStep.yield ok) else pure (ForInStep.yield r)) (TP X pins σ Q) X.xe s
def tYes : TT := fun _ H Q => Q true H
theorem pts_nil : PTs X [] tYes := fun _ _ _ H _ I h => wpAny_tests_nil ⟨H, I, h⟩
theorem pts_one {c : Expr} {t : TT} (h : PT X c t) : PTs X [c] t := fun pins s σ H Q I hw => wpAny_tests_one (h pins s σ H Q I hw)
end
theorem thnF {α : Type} {t : Sem α} {Q Q' : α → Shared → Prop} {M : Model} {A : Around} {E : Value → Shared → Prop} {s : Shared} (h : wpAny M A t Q (fun _ _ => False) s) (hQ : ∀ a s, Q a s → Q' a s) : wpAny M A t Q' E s := wpAny_mono h hQ fun _ _ z => False.elim z
theorem compLoop_any {prog : Program} {w : World} {A : Around} {R : Result → Shared → Prop} {s : Shared} {elt target iter : Expr} {ifs : List Expr} {scope : Scope} {pos : Pos} {it acc : Value} {env : Env} (I : Nat → Shared → Prop)
    (turn : ∀ n s, I n s → wpAny (model prog w) A (pyNext it) (fun r s₁ => match r with
      | none => R (.ok .next) s₁
      | some v => wpAny (model prog w) A (letOwnedTupleGo target it v) (fun _ s₁' => wpAny (model prog w) A (assign target env v) (fun _ s₂ =>
          wpAny (model prog w) A (forIn ifs true fun c r => if r = true then do let ok ← isTrue c env (eval c env); pure (ForInStep.yield ok) else pure (ForInStep.yield r)) (fun ok s₃ =>
            if ok = true then wpAny (model prog w) A (eval elt env) (fun x s₄ =>
              wpAny (model prog w) A (call (.builtin "list.append") [acc, x]) (fun _ s₅ => ∃ m, m < n ∧ I m s₅) (notedBy (model prog w) A env fun e s' => R (.error e) s') s₄) (notedBy (model prog w) A env fun e s' => R (.error e) s') s₃
            else ∃ m, m < n ∧ I m s₃) (notedBy (model prog w) A env fun e s' => R (.error e) s') s₂) (notedBy (model prog w) A env fun e s' => R (.error e) s') s₁') (notedBy (model prog w) A env fun e s' => R (.error e) s') s₁) (notedBy (model prog w) A env fun e s' => R (.error e) s') s)
    (n : Nat) (h : I n s) :
    codeAny (model prog w) A (.compLoop (.ListComp elt [⟨target, iter, ifs, 0⟩] scope pos) 0 it acc env) R s := by
  refine codeAny_loop rfl I (fun n s hI => ?_) n h
  show wpAny _ A ((compTurn (.ListComp elt [⟨target, iter, ifs, 0⟩] scope pos) 0 it acc env).onRaise (fun x => do noteFrame x env; theTreesLotGoes x)) _ _ s
  refine wpAny_noted ?_
  rw [compTurn_list]
  refine wpAny_bind (wpAny_standAt (wpAny_bind (wpAny_mono (turn n s hI) (fun r s₁ h₁ => ?_) fun _ _ h' => h')))
  cases r with
  | none => exact wpAny_pure h₁
  | some v =>
    refine wpAny_bind (wpAny_mono h₁ (fun _ s₁' h₁' => ?_) fun _ _ h' => h')
    refine wpAny_bind (wpAny_mono h₁' (fun _ s₂ h₂ => wpAny_bind (wpAny_mono h₂ (fun ok s₃ h₃ => ?_) fun _ _ h' => h')) fun _ _ h' => h')
    cases ok with
    | false => exact wpAny_pure ⟨rfl, h₃⟩
    | true =>
      exact wpAny_bind (wpAny_bind (wpAny_mono h₃ (fun x s₄ h₄ => wpAny_bind (wpAny_mono h₄ (fun _ s₅ h₅ => wpAny_pure (wpAny_pure ⟨rfl, h₅⟩)) fun _ _ h' => h')) fun _ _ h' => h'))
section
variable {X : Cx}
def tLc (wi : TI) (g : TG) (tt : TT) (te : TE) (vs : List Nat) : TE := fun σ H Q => wi σ H fun J H1 => ∀ D, H1 D = none → ∃ W : Nat → Nat → Hp → Prop, (∃ m, W 0 m (upd H1 D (.lst []))) ∧ ∀ i m H, W i m H →
  (J.stop i H ∧ Q (.ref D) H) ∨ (J.go i H ∧ ∃ Nx : Hp → Prop, (∀ H', Nx H' → ∃ m', m' < m ∧ W (i + 1) m' H') ∧ ∀ x H', J.yld i H x H' → g x (wipe σ vs) H' fun σ2 H2 => wipe σ2 vs = wipe σ vs ∧ tt σ2 H2 fun b H3 =>
    if b = true then te σ2 H3 fun y H4 => ∃ acc, H4 D = some (.lst acc) ∧ acc.length < sizeLine ∧ Nx (upd H4 D (.lst (acc ++ [y]))) else Nx H3)
theorem lc_core {pins : List (Addr × Obj)} {s : Shared} {σ : St} {H : Hp} {Q : VK} {elt tg iter : Expr} {ifs : List Expr} {scope : Scope} {own : List (Str × Nat)} {pos pos' : Pos} {wi : TI} {g : TG} {tt : TT} {te : TE} {use : Option (Value → Sem Unit)} {Qf : Value → Shared → Prop}
    (hc : X.calm = true) (hN : X.N.Nodup) (I : Inv X pins σ H s) (hi : PI X tg iter wi) (ok : BlkOk X.N X.env.scope scope own)
    (hg : ∀ (s : Shared) (H : Hp) (C : Addr) (cl : List (Str × Addr)) (fp : List Addr), PG (X.blk s H scope (compEnvC scope cl C X.env) fp) tg g) (ht : ∀ (s : Shared) (H : Hp) (C : Addr) (cl : List (Str × Addr)) (fp : List Addr), PTs (X.blk s H scope (compEnvC scope cl C X.env) fp) ifs tt)
    (he : ∀ (s : Shared) (H : Hp) (C : Addr) (cl : List (Str × Addr)) (fp : List Addr), PE (X.blk s H scope (compEnvC scope cl C X.env) fp) elt te) (hs : ∀ x, foldedSetIterable iter X.env x = pure x)
    (h : tLc wi g tt te (own.map (·.2)) σ H Q)
    (hRR : ∀ D C s' m H', Inv X pins σ H' s' → Q (.ref D) H' → s'.heap.Ns C m → FpOk X pins H' C → compPost (model X.prog X.w) X.A X.xe use Qf (.ref D) C (.ok .next) s') :
    wpAny (model X.prog X.w) X.A (comprehension (.ListComp elt [⟨tg, iter, ifs, 0⟩] scope pos) scope X.env pos' (newList []) false (eval iter X.env) use) Qf X.xe s := by
  have hfree : ∀ y ∈ scope.names, y.2 = .free → ∃ c, X.env.cells.lookup y.1 = some c := fun y hy e => by
    rcases ok.free y hy e with k | k
    · exact I.ok.has _ (.inl k)
    · exact I.ok.has _ (.inr k)
  refine wpAny_comprehension_free (use := use) rfl hs (closure_ok hfree) ok.kind (fun y hy e => by rw [ok.uniq y hy, e])
    (thn (hi pins s σ H _ I h) fun xv s1 hx => thn hx fun itv s2 h2 => ?_)
  obtain ⟨it, fp, tn, J, H2, e, I2, T, st2, f2, q⟩ := h2
  subst e
  refine wpAny_newObj_type (newEnv_comp ?_) (by show 0 ≤ sizeLine; decide)
  generalize hD : s2.heap.objs.size = D
  have hDn : H2 D = none := I2.hok.fresh (Nat.le_of_eq hD)
  obtain ⟨W, ⟨m0, w0⟩, turn⟩ := q D hDn
  -- the new list
  generalize hs3 : ({ s2 with heap := s2.heap.push { cls := .type "list", data := .seq ([] : List Value).toArray } } : Shared) = s3
  have I3 : Inv X pins σ (upd H2 D (.lst [])) s3 := by
    rw [← hs3]
    refine I2.laid (t' := s2.toks) (fun b o e => Heap.get?_push_of_some _ e) (Nat.le_of_eq hD) ⟨Nat.zero_le _, [], 0, .nil, ?_⟩
    rw [← hD]
    exact Heap.get?_push_size _ rfl
  have h3 : s3.heap = s2.heap.push { cls := .type "list", data := .seq ([] : List Value).toArray } := by rw [← hs3]
  have sz : ∀ b ∈ fp, b < s2.heap.objs.size := fun b hb => by
    obtain ⟨o, e, _⟩ := T.obj _ _ st2 b hb
    exact Heap.lt_size e
  have f3 : ∀ b ∈ fp, FpOk X pins (upd H2 D (.lst [])) b ∧ b < s3.heap.objs.size := fun b hb => by
    have hlt := sz b hb
    refine ⟨⟨?_, (f2 b hb).2⟩, by rw [h3, Heap.size_push]; exact Nat.lt_succ_of_lt hlt⟩
    rw [upd_ne (by rw [← hD]; exact Nat.ne_of_lt hlt)]
    exact (f2 b hb).1
  have st3 : tn 0 s3.heap := T.keep _ _ _ st2 fun b _ o e => by rw [h3]; exact Heap.get?_push_of_some _ e
  have I4 := block_start I3 ok hN f3
  have pg := hg s3 (upd H2 D (.lst [])) s3.heap.objs.size (cellsFrom (s3.heap.objs.size + 1) scope.names (cloFrom X.env.cells scope.names [])) fp
  have pt := ht s3 (upd H2 D (.lst [])) s3.heap.objs.size (cellsFrom (s3.heap.objs.size + 1) scope.names (cloFrom X.env.cells scope.names [])) fp
  have pe := he s3 (upd H2 D (.lst [])) s3.heap.objs.size (cellsFrom (s3.heap.objs.size + 1) scope.names (cloFrom X.env.cells scope.names [])) fp
  show codeAny _ _ (.compStart (.ListComp elt [⟨tg, iter, ifs, 0⟩] scope pos) 0 (.ref it) (.ref D) (compEnvC scope (cellsFrom (s3.heap.objs.size + 1) scope.names (cloFrom X.env.cells scope.names [])) s3.heap.objs.size X.env)) (compPost (model X.prog X.w) X.A X.xe use Qf (.ref D) s3.heap.objs.size) { s3 with heap := pushCells (s3.heap.push { cls := .type "dict", data := .dict #[] }) scope.names }
  have nfp : ∀ b ∈ fp, (upd H2 D (.lst [])) b = none := fun b hb => (f3 b hb).1.1
  generalize hce : compEnvC scope (cellsFrom (s3.heap.objs.size + 1) scope.names (cloFrom X.env.cells scope.names [])) s3.heap.objs.size X.env = ce at I4 pg pt pe ⊢
  have cL : ce.locals = s3.heap.objs.size := by subst hce; rfl
  generalize hH3 : upd H2 D (.lst []) = H3 at I3 I4 pg pt pe w0 nfp f3
  generalize hs4 : ({ s3 with heap := pushCells (s3.heap.push { cls := .type "dict", data := .dict #[] }) scope.names } : Shared) = s4 at I4 ⊢
  have st4 : tn 0 s4.heap := T.keep _ _ _ st3 fun b _ o e => by rw [← hs4]; exact pushCells_keeps _ _ _ _ (Heap.get?_push_of_some _ e)
  have stat : ∀ {σ' : St} {H' : Hp} {s' : Shared}, Inv (X.blk s3 H3 scope ce fp) [] σ' H' s' → (∀ b ∈ fp, H' b = none) → ∀ b ∈ fp, FpOk (X.blk s3 H3 scope ce fp) [] H' b := fun {σ' H' s'} I' hn b hb =>
    ⟨hn b hb, (I'.ok.exf b hb).1, I'.ok.exfs b hb, .inl hb, fun x c e => (I'.ok.exf b hb).2 x c e, fun p hp => absurd (show p ∈ ([] : List (Addr × Obj)) ++ [] from hp) (by simp)⟩
  have loop : codeAny (model X.prog X.w) X.A (.compLoop (.ListComp elt [⟨tg, iter, ifs, 0⟩] scope pos) 0 (.ref it) (.ref D) ce) (compPost (model X.prog X.w) X.A X.xe use Qf (.ref D) s3.heap.objs.size) s4 := by
    refine compLoop_any (fun n s' => ∃ i H', Inv (X.blk s3 H3 scope ce fp) [] (wipe σ (own.map (·.2))) H' s' ∧ tn i s'.heap ∧ (∀ b ∈ fp, H' b = none) ∧ W i n H') ?_ m0 ⟨0, H3, I4, st4, nfp, w0⟩
    rintro n s5 ⟨i, H5, I5, st5, n5, w5⟩
    rcases turn i n H5 w5 with ⟨stop, qq⟩ | ⟨go, Nx, hNx, step⟩
    · have td := T.done (X.blk s3 H3 scope ce fp) rfl rfl rfl hc i [] s5 _ H5 (fun _ _ => False) I5 (stat I5 n5) st5 stop
      refine thnF td fun r s6 ⟨hr, I6⟩ => ?_
      subst hr
      -- back in the def's context
      have I7 : Inv X pins σ H5 s6 := I3.call' (ch := fp) I6.os I6.base I6.hok I6.bare fun b hb => ⟨(f3 b hb).1.2.2.2.1, (f3 b hb).1.2.1, (f3 b hb).1.2.2.2.2.1, (f3 b hb).1.2.2.2.2.2⟩
      have nC : H5 s3.heap.objs.size = none := by
        have z : H5 ce.locals = none := I6.free
        rw [cL] at z
        exact z
      obtain ⟨m, hn, _⟩ := I6.loc
      have hn : s6.heap.Ns ce.locals m := hn
      rw [cL] at hn
      exact hRR D s3.heap.objs.size s6 m H5 I7 qq hn (I3.fpOk (Nat.le_refl _) nC)
    · have ti := T.item (X.blk s3 H3 scope ce fp) rfl rfl rfl hc i [] s5 _ H5 (fun _ _ => False) I5 (stat I5 n5) st5 go
      refine thnF ti fun r s6 ⟨u, hr, h6⟩ => ?_
      subst hr
      refine thnF h6 fun _ s7 ⟨x, H7, I7, r7, y7, st7, n7⟩ => ?_
      have I7' := I7.pinned (stat I7 n7) (T.obj _ _ st7)
      refine thnF (pg _ s7 _ H7 x u _ I7' r7 (step x H7 y7)) fun _ s8 ⟨σ8, H8, I8, hw8, q8⟩ => ?_
      refine thnF (pt _ s8 σ8 H8 _ I8 q8) fun b s9 ⟨H9, I9, q9⟩ => ?_
      -- the turn's end
      have fin : ∀ {s' : Shared} {H' : Hp}, Inv (X.blk s3 H3 scope ce fp) ([] ++ pinsAt fp s7.heap) σ8 H' s' → Nx H' → ∃ m, m < n ∧ ∃ i H', Inv (X.blk s3 H3 scope ce fp) [] (wipe σ (own.map (·.2))) H' s' ∧ tn i s'.heap ∧ (∀ b ∈ fp, H' b = none) ∧ W i m H' := fun {s' H'} I' nx => by
        obtain ⟨m', hm, w'⟩ := hNx H' nx
        have pin' : ∀ b ∈ fp, ∀ o, s7.heap.get? b = some o → s'.heap.get? b = some o ∧ H' b = none := fun b hb o e =>
          let z := I'.pin (b, o) (List.mem_append_right _ (List.mem_append_right _ (mem_pinsAt hb e)))
          ⟨z.1, z.2.1⟩
        have hl : (wipe σ (own.map (·.2))).length = σ8.length := by rw [← hw8, wipe_length]
        refine ⟨m', hm, i + 1, H', (I'.unpinned (pins := [])).weak hl (fun j v e => ?_), T.keep _ _ _ st7 fun b hb o e => (pin' b hb o e).1, fun b hb => ?_, w'⟩
        · rw [← hw8] at e
          exact (wipe_some e).1
        · obtain ⟨o, e, _⟩ := T.obj _ _ st7 b hb
          exact (pin' b hb o e).2
      cases b with
      | false =>
        simp only [Bool.false_eq_true, if_false] at q9 ⊢
        exact fin I9 q9
      | true =>
        simp only [if_true] at q9 ⊢
        refine thnF (pe _ s9 σ8 H9 _ I9 q9) fun z s10 ⟨yv, H10, I10, r10, acc, hD10, hz10, nx⟩ => ?_
        exact app_ok (X := X.blk s3 H3 scope ce fp) I10 hD10 hz10 r10 fun s11 I11 => fin I11 nx
  exact codeAny_compStart_list loop (T.self X.A 0 _ _ _ st4 loop)
theorem pe_lc {elt tg iter : Expr} {ifs : List Expr} {scope : Scope} {own : List (Str × Nat)} {pos : Pos} {wi : TI} {g : TG} {tt : TT} {te : TE} (hc : X.calm = true) (hN : X.N.Nodup) (hi : PI X tg iter wi) (ok : BlkOk X.N X.env.scope scope own)
    (hg : ∀ (s : Shared) (H : Hp) (C : Addr) (cl : List (Str × Addr)) (fp : List Addr), PG (X.blk s H scope (compEnvC scope cl C X.env) fp) tg g) (ht : ∀ (s : Shared) (H : Hp) (C : Addr) (cl : List (Str × Addr)) (fp : List Addr), PTs (X.blk s H scope (compEnvC scope cl C X.env) fp) ifs tt)
    (he : ∀ (s : Shared) (H : Hp) (C : Addr) (cl : List (Str × Addr)) (fp : List Addr), PE (X.blk s H scope (compEnvC scope cl C X.env) fp) elt te) (hs : ∀ x, foldedSetIterable iter X.env x = pure x := by intro _; rfl) :
    PE X (.ListComp elt [⟨tg, iter, ifs, 0⟩] scope pos) (tLc wi g tt te (own.map (·.2))) := by
  intro pins s σ H Q I h
  rw [eval_ListComp]
  refine lc_core hc hN I hi ok hg ht he hs h fun D C s' m H' I' q hn f => ⟨m, hn, fun h'' sb => ?_⟩
  obtain ⟨f0, f1, f2, f3, f4, f5⟩ := f
  exact ⟨.ref D, H', I'.turned (t' := s'.toks) (fun b o hb e => (sb.2 b hb).trans e) f0 f1 f3 f4 f5, rfl, q⟩
theorem ps_setLc {i : Nat} {y : Str} {py : Pos} {elt tg iter : Expr} {ifs : List Expr} {scope : Scope} {own : List (Str × Nat)} {pos spos : Pos} {wi : TI} {g : TG} {tt : TT} {te : TE} (hc : X.calm = true) (hN : X.N.Nodup) (hy : X.N[i]? = some y) (hyl : X.env.scope.names.lookup y = some .local)
    (hsw : swapsWith (.ListComp elt [⟨tg, iter, ifs, 0⟩] scope pos) (some (.Name y py)) spos.line X.env = pure true) (hi : PI X tg iter wi) (ok : BlkOk X.N X.env.scope scope own)
    (hg : ∀ (s : Shared) (H : Hp) (C : Addr) (cl : List (Str × Addr)) (fp : List Addr), PG (X.blk s H scope (compEnvC scope cl C X.env) fp) tg g) (ht : ∀ (s : Shared) (H : Hp) (C : Addr) (cl : List (Str × Addr)) (fp : List Addr), PTs (X.blk s H scope (compEnvC scope cl C X.env) fp) ifs tt)
    (he : ∀ (s : Shared) (H : Hp) (C : Addr) (cl : List (Str × Addr)) (fp : List Addr), PE (X.blk s H scope (compEnvC scope cl C X.env) fp) elt te) (hs : ∀ x, foldedSetIterable iter X.env x = pure x := by intro _; rfl) :
    PS X (.Assign [.Name y py] (.ListComp elt [⟨tg, iter, ifs, 0⟩] scope pos) spos) (tAsg (tLc wi g tt te (own.map (·.2))) (gName i)) := by
  intro pins s σ H D I h
  rw [exec_Assign_Name_used _ _ _ _ hsw]
  refine wpAny_bind (wpAny_standAt (wpAny_bind ?_))
  show wpAny _ X.A (do let _ ← comprehension (.ListComp elt [⟨tg, iter, ifs, 0⟩] scope pos) scope X.env (firstIterPos [⟨tg, iter, ifs, 0⟩] pos) (newList []) false (eval iter X.env) (some (assign (.Name y py) X.env))) _ _ s
  have h : tLc wi g tt te (own.map (·.2)) σ H (fun x H1 => gName i x σ H1 D.nx) := h
  refine wpAny_bind (thn (lc_core (Qf := fun _ s' => SP X pins D .next s') hc hN I hi ok hg ht he hs h fun L C s' m H' I' q hn f => ?_) fun _ s' hq => wpAny_pure (wpAny_pure hq))
  show wpAny _ _ (assign (.Name y py) X.env (.ref L)) _ _ _
  refine wpAny_assign_Name (store_ok2 (v := V.ref L) I' hN hy (.inl hyl) rfl (fun s2 I2 ⟨a, sb, ha⟩ => ?_) (.inr hyl))
  obtain ⟨f0, f1, f2, f3, f4, f5⟩ := f
  have haC : C ≠ a := by
    rcases ha with z | z
    · rw [z]; exact f1
    · exact fun e => f4 y a z e.symm
  refine ⟨m, hn.sameBut sb haC, fun h3 sb3 => ?_⟩
  exact ⟨_, H', I2.turned (t' := s2.toks) (fun b o hb e => (sb3.2 b hb).trans e) f0 f1 f3 f4 f5, q⟩
theorem sw_true {elt : Expr} {gs : List Comprehension} {scope : Scope} {pos py : Pos} {y : Str} {l : Nat} {env : Env} (hk : env.scope.kind = .function) (hy : env.scope.names.lookup y = some .local) (hl : (py.line == pos.line) = true)
    (ha : (scope.names.any fun (n, k) => n == y && (k == .local || k == .cell)) = false) : swapsWith (.ListComp elt gs scope pos) (some (.Name y py)) l env = pure true := by
  have ky : env.kindOf y = some .local := hy
  have hb : env.blockKind = .function := by unfold Env.blockKind; rw [hk]; rfl
  unfold swapsWith
  simp only [hb, ky, ha, Expr.pos, hl]
  rfl
end
theorem lc_range {lo : Int} {n : Nat} {g : TG} {tt : TT} {te : TE} {vs : List Nat} {σ : St} {H1 : Hp} {D : Addr} {Qd : Hp → Prop} (Pv : Nat → Hp → Prop) (h0 : Pv 0 (upd H1 D (.lst [])))
    (hs : ∀ i H, i < n → Pv i H → g (.int (lo + i)) (wipe σ vs) H fun σ2 H2 => wipe σ2 vs = wipe σ vs ∧ tt σ2 H2 fun b H3 =>
      if b = true then te σ2 H3 fun y H4 => ∃ acc, H4 D = some (.lst acc) ∧ acc.length < sizeLine ∧ Pv (i + 1) (upd H4 D (.lst (acc ++ [y]))) else Pv (i + 1) H3) (hd : ∀ H, Pv n H → Qd H) :
    ∃ W : Nat → Nat → Hp → Prop, (∃ m, W 0 m (upd H1 D (.lst []))) ∧ ∀ i m H, W i m H →
      ((Itr lo n).stop i H ∧ Qd H) ∨ ((Itr lo n).go i H ∧ ∃ Nx : Hp → Prop, (∀ H', Nx H' → ∃ m', m' < m ∧ W (i + 1) m' H') ∧ ∀ x H', (Itr lo n).yld i H x H' → g x (wipe σ vs) H' fun σ2 H2 => wipe σ2 vs = wipe σ vs ∧ tt σ2 H2 fun b H3 =>
        if b = true then te σ2 H3 fun y H4 => ∃ acc, H4 D = some (.lst acc) ∧ acc.length < sizeLine ∧ Nx (upd H4 D (.lst (acc ++ [y]))) else Nx H3) := by
  refine ⟨fun i m H => m = n - i ∧ i ≤ n ∧ Pv i H, ⟨n, by simp, Nat.zero_le _, h0⟩, ?_⟩
  rintro i m H ⟨rfl, hi, p⟩
  by_cases hlt : i < n
  · refine .inr ⟨hlt, Pv (i + 1), fun H' p' => ⟨n - (i + 1), by omega, rfl, hlt, p'⟩, fun x H' y => ?_⟩
    obtain ⟨e, y⟩ := y
    subst e y
    exact hs i _ hlt p
  · have e : i = n := by omega
    subst e
    exact .inl ⟨Nat.le_refl _, hd H p⟩
theorem lc_list {K : PySem.W.Frag} {a : Addr} {xs : List V} {g : TG} {tt : TT} {te : TE} {vs : List Nat} {σ : St} {H1 : Hp} {D : Addr} {Qd : Hp → Prop} (Pv : Nat → Hp → Prop) (h0 : Pv 0 (upd H1 D (.lst []))) (hl : ∀ i H, i ≤ xs.length → Pv i H → SqL K H a xs)
    (hs : ∀ i x H, xs[i]? = some x → Pv i H → g x (wipe σ vs) H fun σ2 H2 => wipe σ2 vs = wipe σ vs ∧ tt σ2 H2 fun b H3 =>
      if b = true then te σ2 H3 fun y H4 => ∃ acc, H4 D = some (.lst acc) ∧ acc.length < sizeLine ∧ Pv (i + 1) (upd H4 D (.lst (acc ++ [y]))) else Pv (i + 1) H3) (hd : ∀ H, Pv xs.length H → Qd H) :
    ∃ W : Nat → Nat → Hp → Prop, (∃ m, W 0 m (upd H1 D (.lst []))) ∧ ∀ i m H, W i m H →
      ((Itl K a).stop i H ∧ Qd H) ∨ ((Itl K a).go i H ∧ ∃ Nx : Hp → Prop, (∀ H', Nx H' → ∃ m', m' < m ∧ W (i + 1) m' H') ∧ ∀ x H', (Itl K a).yld i H x H' → g x (wipe σ vs) H' fun σ2 H2 => wipe σ2 vs = wipe σ vs ∧ tt σ2 H2 fun b H3 =>
        if b = true then te σ2 H3 fun y H4 => ∃ acc, H4 D = some (.lst acc) ∧ acc.length < sizeLine ∧ Nx (upd H4 D (.lst (acc ++ [y]))) else Nx H3) := by
  refine ⟨fun i m H => m = xs.length - i ∧ i ≤ xs.length ∧ Pv i H, ⟨xs.length, by simp, Nat.zero_le _, h0⟩, ?_⟩
  rintro i m H ⟨rfl, hi, p⟩
  have q := hl i H hi p
  by_cases hlt : i < xs.length
  · refine .inr ⟨⟨xs, xs[i], q, by simp [hlt]⟩, Pv (i + 1), fun H' p' => ⟨xs.length - (i + 1), by omega, rfl, hlt, p'⟩, fun x H' y => ?_⟩
    obtain ⟨e, y⟩ := y
    subst e
    exact hs i x _ (y xs q) p
  · have e : i = xs.length := by omega
    subst e
    exact .inl ⟨⟨xs, q, Nat.le_refl _⟩, hd H p⟩
def blkC (N : List Str) (sc scope : Scope) (own : List (Str × Nat)) : Bool :=
  (match scope.kind with | .function => true | _ => false) && (scope.names.all fun y => decide (scope.names.lookup y.1 = some y.2)) && (own.all fun p => decide (N[p.2]? = some p.1)) &&
    (scope.names.all fun y => match y.2 with
      | .free => (match sc.names.lookup y.1 with | some .cell => true | some .free => true | _ => false)
      | .local => decide (y.1 ∈ own.map (·.1)) || decide (y.1 ∉ N)
      | .cell => decide (y.1 ∈ own.map (·.1)) || decide (y.1 ∉ N)
      | _ => true)
theorem blkOk_by {N : List Str} {sc scope : Scope} {own : List (Str × Nat)} (h : blkC N sc scope own = true) : BlkOk N sc scope own := by
  unfold blkC at h
  simp only [Bool.and_eq_true, List.all_eq_true, decide_eq_true_eq] at h
  obtain ⟨⟨⟨h1, h2⟩, h3⟩, h4⟩ := h
  refine ⟨?_, h2, h3, fun y hy e => ?_, fun y hy e => ?_⟩
  · split at h1
    · assumption
    · cases h1
  · have q := h4 y hy
    simp only [e] at q
    split at q <;> first | exact .inl (by assumption) | exact .inr (by assumption) | cases q
  · have q := h4 y hy
    rcases e with e | e <;> (simp only [e, Bool.or_eq_true, decide_eq_true_eq] at q; exact q)
end L2
namespace L2
open PySem PySem.Spec PyProof.Rows
end L2
namespace L2
open PySem PySem.Spec PyProof.Rows
section
variable {κ : Type} [DecidableEq κ]
def valV (kvs : List (κ × V)) (k : κ) : Option V := (kvs.find? fun kv => decide (kv.1 = k)).map (·.2)
def putK (kvs : List (κ × V)) (k : κ) (v : V) : List (κ × V) :=
  if (kvs.any fun kv => decide (kv.1 = k)) = true then kvs.map (fun kv => if kv.1 = k then (kv.1, v) else kv) else kvs ++ [(k, v)]
def dropK (kvs : List (κ × V)) (k : κ) : List (κ × V) := kvs.filter fun kv => decide (kv.1 ≠ k)
theorem valV_pos {p : κ × V} {r : List (κ × V)} {k : κ} (e : p.1 = k) : valV (p :: r) k = some p.2 := by simp [valV, List.find?_cons, e]
theorem valV_neg {p : κ × V} {r : List (κ × V)} {k : κ} (e : ¬ p.1 = k) : valV (p :: r) k = valV r k := by simp [valV, List.find?_cons, e]
theorem valV_any (k : κ) : ∀ kvs : List (κ × V), (kvs.any fun kv => decide (kv.1 = k)) = (valV kvs k).isSome
  | [] => rfl
  | p :: r => by
    rw [List.any_cons]
    by_cases e : p.1 = k
    · simp only [valV_pos e, decide_eq_true e, Bool.true_or, Option.isSome_some]
    · rw [valV_neg e, decide_eq_false e, Bool.false_or]; exact valV_any k r
theorem valV_map (k j : κ) (y : V) : ∀ kvs : List (κ × V), valV (kvs.map fun kv => if kv.1 = k then (kv.1, y) else kv) j = (valV kvs j).map fun x => if j = k then y else x
  | [] => rfl
  | p :: r => by
    have ih := valV_map k j y r
    rw [List.map_cons]
    by_cases h : p.1 = k
    · rw [if_pos h]
      by_cases e : p.1 = j
      · rw [valV_pos (p := (p.1, y)) e, valV_pos e, Option.map_some, if_pos (e.symm.trans h)]
      · rw [valV_neg (p := (p.1, y)) e, valV_neg e, ih]
    · rw [if_neg h]
      by_cases e : p.1 = j
      · rw [valV_pos (p := p) e, valV_pos e, Option.map_some, if_neg (fun z => h (e.trans z))]
      · rw [valV_neg (p := p) e, valV_neg e, ih]
theorem valV_snoc (k j : κ) (y : V) : ∀ kvs : List (κ × V), valV kvs k = none → valV (kvs ++ [(k, y)]) j = if j = k then some y else valV kvs j
  | [], _ => by
    by_cases e : k = j
    · rw [if_pos e.symm]; exact valV_pos (p := (k, y)) e
    · rw [if_neg (fun z => e z.symm)]; exact valV_neg (p := (k, y)) e
  | p :: r, hn => by
    rw [List.cons_append]
    have hk : ¬ p.1 = k := fun z => by rw [valV_pos z] at hn; cases hn
    rw [valV_neg hk] at hn
    have ih := valV_snoc k j y r hn
    by_cases e : p.1 = j
    · rw [valV_pos e, valV_pos e, if_neg (fun z => hk (e.trans z))]
    · rw [valV_neg e, valV_neg e, ih]
theorem valV_put (kvs : List (κ × V)) (k j : κ) (y : V) : valV (putK kvs k y) j = if j = k then some y else valV kvs j := by
  unfold putK
  by_cases a : (kvs.any fun kv => decide (kv.1 = k)) = true
  · rw [if_pos a, valV_map]
    rw [valV_any] at a
    by_cases e : j = k
    · obtain ⟨x, hx⟩ := Option.isSome_iff_exists.mp a
      rw [if_pos e, e, hx, Option.map_some, if_pos rfl]
    · rw [if_neg e]
      cases valV kvs j with
      | none => rfl
      | some x => rw [Option.map_some, if_neg e]
  · rw [if_neg a]
    refine valV_snoc k j y kvs ?_
    rw [valV_any] at a
    cases q : valV kvs k with
    | none => rfl
    | some x => rw [q] at a; exact (a rfl).elim
theorem length_putK (kvs : List (κ × V)) (k : κ) (v : V) : (putK kvs k v).length ≤ kvs.length + 1 := by
  unfold putK
  split
  · rw [List.length_map]; omega
  · rw [List.length_append, List.length_cons, List.length_nil]; omega
theorem putK_new {kvs : List (κ × V)} {k : κ} (v : V) (h : valV kvs k = none) : putK kvs k v = kvs ++ [(k, v)] := by
  unfold putK
  rw [valV_any, h]
  exact if_neg (by decide)
theorem RelO.isSome_eq {o : Option V} {u : Option Value} (r : RelO o u) : o.isSome = u.isSome := by
  cases o with
  | none => cases u with
    | none => rfl
    | some _ => exact (show False from r).elim
  | some _ => cases u with
    | none => exact (show False from r).elim
    | some _ => rfl
theorem RelO.getD {o : Option V} {u : Option Value} {d : V} {d' : Value} (r : RelO o u) (rd : RelV d d') : RelV (o.getD d) (u.getD d') := by
  cases o with
  | none => cases u with
    | none => exact rd
    | some _ => exact (show False from r).elim
  | some _ => cases u with
    | none => exact (show False from r).elim
    | some _ => exact r
theorem KV.val {kvs : List (κ × V)} {vs : List (κ × Value)} (r : KV kvs vs) (k : κ) : RelO (valV kvs k) (valueAt vs k) := by
  unfold KV at r
  induction r with
  | nil => exact True.intro
  | @cons p q ps qs h t ih =>
    obtain ⟨h1, h2⟩ := h
    by_cases e : p.1 = k
    · have e' : q.1 = k := h1.symm.trans e
      have b : valueAt (q :: qs) k = some q.2 := by simp [valueAt, List.find?_cons, e']
      rw [valV_pos e, b]; exact h2
    · have e' : ¬ q.1 = k := fun z => e (h1.trans z)
      have b : valueAt (q :: qs) k = valueAt qs k := by simp [valueAt, List.find?_cons, e']
      rw [valV_neg e, b]; exact ih
theorem KV.any {kvs : List (κ × V)} {vs : List (κ × Value)} (r : KV kvs vs) (k : κ) : (kvs.any fun kv => decide (kv.1 = k)) = vs.any fun kv => decide (kv.1 = k) := by
  unfold KV at r
  induction r with
  | nil => rfl
  | cons h t ih => rw [List.any_cons, List.any_cons, ih, h.1]
theorem KV.repl {kvs : List (κ × V)} {vs : List (κ × Value)} (r : KV kvs vs) (k : κ) {y : V} {u : Value} (ry : RelV y u) :
    KV (kvs.map fun kv => if kv.1 = k then (kv.1, y) else kv) (vs.map fun kv => if kv.1 = k then (kv.1, u) else kv) := by
  unfold KV at r ⊢
  induction r with
  | nil => exact .nil
  | @cons p q ps qs h t ih =>
    rw [List.map_cons, List.map_cons]
    refine .cons ?_ ih
    obtain ⟨h1, h2⟩ := h
    by_cases e : p.1 = k
    · rw [if_pos e, if_pos (h1.symm.trans e)]; exact ⟨h1, ry⟩
    · rw [if_neg e, if_neg (fun z => e (h1.trans z))]; exact ⟨h1, h2⟩
theorem KV.put {kvs : List (κ × V)} {vs : List (κ × Value)} (r : KV kvs vs) (k : κ) {y : V} {u : Value} (ry : RelV y u) : KV (putK kvs k y) (stored vs k u) := by
  unfold putK stored
  rw [r.any k]
  by_cases e : (vs.any fun kv => decide (kv.1 = k)) = true
  · rw [if_pos e, if_pos e]; exact r.repl k ry
  · rw [if_neg e, if_neg e]; exact Paired.snoc r ⟨rfl, ry⟩
theorem KV.drop {kvs : List (κ × V)} {vs : List (κ × Value)} (r : KV kvs vs) (k : κ) : KV (dropK kvs k) (without vs k) := by
  unfold KV at r ⊢
  unfold dropK without
  induction r with
  | nil => exact .nil
  | @cons p q ps qs h t ih =>
    obtain ⟨h1, h2⟩ := h
    rw [List.filter_cons, List.filter_cons]
    by_cases e : p.1 = k
    · have a : ¬ decide (p.1 ≠ k) = true := by simp [e]
      have b : ¬ decide (q.1 ≠ k) = true := by simp [h1.symm.trans e]
      rw [if_neg a, if_neg b]; exact ih
    · have e' : ¬ q.1 = k := fun z => e (h1.trans z)
      have a : decide (p.1 ≠ k) = true := by simp [e]
      have b : decide (q.1 ≠ k) = true := by simp [e']
      rw [if_pos a, if_pos b]; exact .cons ⟨h1, h2⟩ ih
theorem KV.keys {kvs : List (κ × V)} {vs : List (κ × Value)} (r : KV kvs vs) : kvs.map (·.1) = vs.map (·.1) := by
  unfold KV at r
  induction r with
  | nil => rfl
  | cons h t ih => rw [List.map_cons, List.map_cons, ih, h.1]
theorem KV.length {kvs : List (κ × V)} {vs : List (κ × Value)} (r : KV kvs vs) : kvs.length = vs.length := Paired.length r
end
theorem kV_is {P : Program} {w : World} {k : Key} {u : Value} (r : RelV (kV k) u) : (mixKind P w).is k u = true := by
  cases k with
  | inl i => obtain ⟨t, e⟩ := (show ∃ t, u = Value.int i t from r); subst e; exact mixKind_int P w i t
  | inr x => obtain ⟨t, e⟩ := (show ∃ t, u = Value.str x t from r); subst e; exact mixKind_str P w x t
theorem items_are {P : Program} {w : World} : ∀ {ks : List Key} {us : List Value}, Vals (ks.map kV) us → ItemsAre (mixKind P w) ks us
  | [], _, r => by rw [List.map_nil] at r; cases r; exact .nil
  | k :: ks, _, r => by
    rw [List.map_cons] at r
    cases r with
    | cons h t => exact .cons (kV_is h) (items_are t)
abbrev KT (H : Hp) : List (List Key × V) → List (List Key × Addr × Value) → Prop := Paired fun p q => p.1 = q.1 ∧ H q.2.1 = some (.tup (p.1.map kV)) ∧ RelV p.2 q.2.2
theorem KT.val {H : Hp} {kvs : List (List Key × V)} {xs : List (List Key × Addr × Value)} (r : KT H kvs xs) (k : List Key) : RelO (valV kvs k) ((atKey xs k).map (·.2)) := by
  induction r with
  | nil => exact True.intro
  | @cons p q ps qs h t ih =>
    obtain ⟨h1, _, h2⟩ := h
    by_cases e : p.1 = k
    · have e' : q.1 = k := h1.symm.trans e
      have b : atKey (q :: qs) k = some q.2 := by simp [atKey, List.find?_cons, e']
      rw [valV_pos e, b]; exact h2
    · have e' : ¬ q.1 = k := fun z => e (h1.trans z)
      have b : atKey (q :: qs) k = atKey qs k := by simp [atKey, List.find?_cons, e']
      rw [valV_neg e, b]; exact ih
theorem KT.repl {H : Hp} {kvs : List (List Key × V)} {xs : List (List Key × Addr × Value)} (r : KT H kvs xs) (k : List Key) {y : V} {u : Value} (ry : RelV y u) :
    KT H (kvs.map fun kv => if kv.1 = k then (kv.1, y) else kv) (xs.map (putAt k u)) := by
  induction r with
  | nil => exact .nil
  | @cons p q ps qs h t ih =>
    rw [List.map_cons, List.map_cons]
    refine .cons ?_ ih
    obtain ⟨h1, h2, h3⟩ := h
    unfold putAt
    by_cases e : p.1 = k
    · rw [if_pos e, if_pos (h1.symm.trans e)]; exact ⟨h1, h2, ry⟩
    · rw [if_neg e, if_neg (fun z => e (h1.trans z))]; exact ⟨h1, h2, h3⟩
theorem KT.put {H : Hp} {kvs : List (List Key × V)} {xs : List (List Key × Addr × Value)} (r : KT H kvs xs) (k : List Key) {b : Addr} {y : V} {u : Value} (hb : H b = some (.tup (k.map kV))) (ry : RelV y u) :
    KT H (putK kvs k y) (storedH xs k b u) := by
  have e : (kvs.any fun kv => decide (kv.1 = k)) = (atKey xs k).isSome := by
    rw [valV_any, (r.val k).isSome_eq, Option.isSome_map]
  unfold putK storedH
  rw [e]
  by_cases q : (atKey xs k).isSome = true
  · rw [if_pos q, if_pos q]; exact r.repl k ry
  · rw [if_neg q, if_neg q]; exact Paired.snoc r ⟨rfl, hb, ry⟩
theorem KT.keeps {H H' : Hp} {kvs : List (List Key × V)} {xs : List (List Key × Addr × Value)} (r : KT H kvs xs) (ht : ∀ b ys, H b = some (.tup ys) → H' b = some (.tup ys)) : KT H' kvs xs :=
  Paired.mapP r fun _ _ z => ⟨z.1, ht _ _ z.2.1, z.2.2⟩
section
variable {P : Program} {w : World} {H : Hp} {h : Heap} {a : Addr}
theorem rd_of {u : HO} (ok : HOk P w H h) (e : Rd H a u) : ObjOk P w H h a u := e.ok ok
theorem dk_rd {kvs : List (Key × V)} (ok : HOk P w H h) (e : Rd H a (.dK kvs)) : kvs.length ≤ sizeLine ∧ (a == sysModules) = false ∧ ∃ vs, KV kvs vs ∧ h.DictOf (mixKind P w) a vs :=
  show ObjOk P w H h a (.dK kvs) from rd_of ok e
theorem dk_of {kvs : List (Key × V)} (ok : HOk P w H h) (e : H a = some (.dK kvs)) : kvs.length ≤ sizeLine ∧ (a == sysModules) = false ∧ ∃ vs, KV kvs vs ∧ h.DictOf (mixKind P w) a vs := dk_rd ok (.inl e)
theorem key_of {ks : List Key} (ok : HOk P w H h) (e : H a = some (.tup (ks.map kV))) : (tupleKind (mixKind P w)).is h ks a := by
  obtain ⟨_, its, r, o, h1, h2, n, h3⟩ := (show ObjOk P w H h a (.tup (ks.map kV)) from ok a _ e)
  exact ⟨o, its.toArray, n, h1, h2, h3, by simpa using items_are r⟩
theorem dt_rd {kvs : List (List Key × V)} (ok : HOk P w H h) (e : Rd H a (.dT kvs)) : kvs.length ≤ sizeLine ∧ (a == sysModules) = false ∧
    ∃ xs, KT H kvs xs ∧ h.DictOfH (tupleKind (mixKind P w)) a xs := by
  obtain ⟨z, y, xs, r, o, es, ep, h1, h2, h3, h4, h5⟩ := (show ObjOk P w H h a (.dT kvs) from rd_of ok e)
  refine ⟨z, y, xs, r, o, es, ep, h1, h2, h3, h4, fun x hx => ?_, h5⟩
  have all : ∀ {l : List (List Key × V)} {m : List (List Key × Addr × Value)}, KT H l m → ∀ x ∈ m, (tupleKind (mixKind P w)).is h x.1 x.2.1 := by
    intro l m q
    induction q with
    | nil => intro x hx; exact nomatch hx
    | @cons p q ps qs hq t ih =>
      intro x hx
      rcases List.mem_cons.mp hx with e | hx
      · subst e
        exact key_of ok (by rw [← hq.1]; exact hq.2.1)
      · exact ih x hx
  exact all r x hx
theorem dt_of {kvs : List (List Key × V)} (ok : HOk P w H h) (e : H a = some (.dT kvs)) : kvs.length ≤ sizeLine ∧ (a == sysModules) = false ∧
    ∃ xs, KT H kvs xs ∧ h.DictOfH (tupleKind (mixKind P w)) a xs := dt_rd ok (.inl e)
end
def DGet (H : Hp) (a : Addr) (y : V) (r : Option V) : Prop :=
  (∃ kvs k, Rd H a (.dK kvs) ∧ y = kV k ∧ r = valV kvs k) ∨ ∃ kvs k b, Rd H a (.dT kvs) ∧ y = .ref b ∧ H b = some (.tup (k.map kV)) ∧ r = valV kvs k
def DPut (H : Hp) (a : Addr) (y v : V) (H' : Hp) : Prop :=
  (∃ kvs k, H a = some (.dK kvs) ∧ y = kV k ∧ kvs.length < sizeLine ∧ H' = upd H a (.dK (putK kvs k v))) ∨
  ∃ kvs k b, H a = some (.dT kvs) ∧ y = .ref b ∧ H b = some (.tup (k.map kV)) ∧ kvs.length < sizeLine ∧ H' = upd H a (.dT (putK kvs k v))
theorem DGet.k {H : Hp} {a : Addr} {kvs : List (Key × V)} {k : Key} (e : H a = some (.dK kvs)) : DGet H a (kV k) (valV kvs k) := .inl ⟨kvs, k, .inl e, rfl, rfl⟩
theorem DGet.t {H : Hp} {a b : Addr} {kvs : List (List Key × V)} {k : List Key} (e : H a = some (.dT kvs)) (eb : H b = some (.tup (k.map kV))) : DGet H a (.ref b) (valV kvs k) := .inr ⟨kvs, k, b, .inl e, rfl, eb, rfl⟩
theorem DPut.k {H : Hp} {a : Addr} {kvs : List (Key × V)} {k : Key} {v : V} (e : H a = some (.dK kvs)) (hl : kvs.length < sizeLine) : DPut H a (kV k) v (upd H a (.dK (putK kvs k v))) := .inl ⟨kvs, k, e, rfl, hl, rfl⟩
theorem DPut.t {H : Hp} {a b : Addr} {kvs : List (List Key × V)} {k : List Key} {v : V} (e : H a = some (.dT kvs)) (eb : H b = some (.tup (k.map kV))) (hl : kvs.length < sizeLine) :
    DPut H a (.ref b) v (upd H a (.dT (putK kvs k v))) := .inr ⟨kvs, k, b, e, rfl, eb, hl, rfl⟩
section
variable {X : Cx} {pins : List (Addr × Obj)} {σ : St} {H : Hp} {s : Shared} {a : Addr} {y v : V} {u r : Value} {o : Option V} {A : Around} {E : Value → Shared → Prop}
theorem Inv.big (I : Inv X pins σ H s) : sysModules < s.heap.objs.size := by
  have h : mainGlobals < s.heap.objs.size := (I.mod.glob.keeps I.bk).lt
  exact Nat.lt_trans (by decide) h
theorem d_getItem {Q : Value → Shared → Prop} (hu : A.units + 1 < cLine) (I : Inv X pins σ H s) (g : DGet H a y (some v)) (ry : RelV y u) (h : ∀ w' s', Inv X pins σ H s' → RelV v w' → Q w' s') :
    wpAny (model X.prog X.w) A (getItem (.ref a) u) Q E s := by
  rcases g with ⟨kvs, k, e, ey, l⟩ | ⟨kvs, k, b, e, ey, eb, l⟩
  · subst ey
    obtain ⟨z, hd, vs, rel, dd⟩ := dk_rd I.hok e
    obtain ⟨w', hw, rw'⟩ := RelO.some_of (v := v) (o := valueAt vs k) (by rw [l]; exact rel.val k)
    exact wpAny_getItem_of (kV_is ry) dd.mapOf hw (h w' _ (I.tok _) rw')
  · subst ey
    cases (show u = Value.ref b from ry)
    obtain ⟨z, hd, xs, rel, dd⟩ := dt_rd I.hok e
    obtain ⟨w', hw, rw'⟩ := RelO.some_of (v := v) (o := (atKey xs k).map (·.2)) (by rw [l]; exact rel.val k)
    obtain ⟨p, hp, hp2⟩ := Option.map_eq_some_iff.mp hw
    refine wpAny_getItem_heap (tupleKind_room_in1 hu) (key_of I.hok eb) dd hp ?_
    rw [hp2]
    exact h w' _ (I.tok _) rw'
theorem d_in {Q : Value → Shared → Prop} (hu : A.units + 1 < cLine) (I : Inv X pins σ H s) (g : DGet H a y o) (ry : RelV y u) (h : ∀ s', Inv X pins σ H s' → Q (.bool o.isSome) s') :
    wpAny (model X.prog X.w) A (compareOp .In u (.ref a)) Q E s := by
  rcases g with ⟨kvs, k, e, ey, l⟩ | ⟨kvs, k, b, e, ey, eb, l⟩
  · subst ey
    obtain ⟨z, hd, vs, rel, dd⟩ := dk_rd I.hok e
    refine wpAny_in_of (kV_is ry) hd dd.mapOf ?_
    rw [← (rel.val k).isSome_eq, ← l]
    exact h _ (I.tok _)
  · subst ey
    cases (show u = Value.ref b from ry)
    obtain ⟨z, hd, xs, rel, dd⟩ := dt_rd I.hok e
    refine wpAny_in_heap (tupleKind_room_in1 hu) (key_of I.hok eb) hd dd ?_
    have q := (rel.val k).isSome_eq
    rw [Option.isSome_map] at q
    rw [← q, ← l]
    exact h _ (I.tok _)
theorem d_notIn {Q : Value → Shared → Prop} (hu : A.units + 1 < cLine) (I : Inv X pins σ H s) (g : DGet H a y o) (ry : RelV y u) (h : ∀ s', Inv X pins σ H s' → Q (.bool (!o.isSome)) s') :
    wpAny (model X.prog X.w) A (compareOp .NotIn u (.ref a)) Q E s := by
  rcases g with ⟨kvs, k, e, ey, l⟩ | ⟨kvs, k, b, e, ey, eb, l⟩
  · subst ey
    obtain ⟨z, hd, vs, rel, dd⟩ := dk_rd I.hok e
    refine wpAny_notIn_of (kV_is ry) hd dd.mapOf ?_
    rw [← (rel.val k).isSome_eq, ← l]
    exact h _ (I.tok _)
  · subst ey
    cases (show u = Value.ref b from ry)
    obtain ⟨z, hd, xs, rel, dd⟩ := dt_rd I.hok e
    refine wpAny_notIn_heap (tupleKind_room_in1 hu) (key_of I.hok eb) hd dd ?_
    have q := (rel.val k).isSome_eq
    rw [Option.isSome_map] at q
    rw [← q, ← l]
    exact h _ (I.tok _)
theorem d_write {h' : Heap} {t' : Nat} {ob : HO} (I : Inv X pins σ H s) (mu : Mut (H a)) (hs : Heap.SameBut a s.heap h') (he : ∃ q, h'.get? a = some q) (new : ObjOk X.prog X.w (upd H a ob) h' a ob) :
    Inv X pins σ (upd H a ob) { s with heap := h', toks := t' } :=
  I.write (x := a) (e := a) mu (.inl rfl) (fun b q hb z => (hs.2 b hb).trans z) he new
theorem dk_new {P : Program} {w : World} {H' : Hp} {h' : Heap} {kvs : List (Key × V)} {vs : List (Key × Value)} (z : kvs.length ≤ sizeLine) (hd : (a == sysModules) = false) (rel : KV kvs vs) (dd : h'.DictOf (mixKind P w) a vs) :
    ObjOk P w H' h' a (.dK kvs) := ⟨z, hd, vs, rel, dd⟩
theorem d_setItem {H' : Hp} {Q : Unit → Shared → Prop} (hu : A.units + 1 < cLine) (I : Inv X pins σ H s) (g : DPut H a y v H') (ry : RelV y u) (rv : RelV v r) (h : ∀ s', Inv X pins σ H' s' → Q () s') :
    wpAny (model X.prog X.w) A (setItem (.ref a) u r) Q E s := by
  rcases g with ⟨kvs, k, e, ey, l, eH⟩ | ⟨kvs, k, b, e, ey, eb, l, eH⟩
  · subst ey eH
    obtain ⟨z, hd, vs, rel, dd⟩ := dk_of I.hok e
    have hz : vs.length ≤ sizeLine := by rw [← rel.length]; exact z
    have hl : (putK kvs k v).length ≤ sizeLine := by have := length_putK kvs k v; omega
    refine wpAny_setItem_pairs (hsz := hz) (kV_is ry) dd fun h' dd' hs => h _ ?_
    have he : ∃ q, h'.get? a = some q := let ⟨q, _, _, hq, _⟩ := dd'; ⟨q, hq⟩
    exact d_write I (by rw [e]; exact True.intro) hs he (dk_new hl hd (rel.put k rv) dd')
  · subst ey eH
    cases (show u = Value.ref b from ry)
    obtain ⟨z, hd, xs, rel, dd⟩ := dt_of I.hok e
    have hz : xs.length ≤ sizeLine := by rw [← Paired.length rel]; exact z
    have hl : (putK kvs k v).length ≤ sizeLine := by have := length_putK kvs k v; omega
    refine wpAny_setItem_heap (hsz := hz) (tupleKind_room_in1 hu) (key_of I.hok eb) dd fun h' dd' hs => h _ ?_
    obtain ⟨q, es, ep, hq, h2, h3, h4, _, h5⟩ := dd'
    refine d_write I (by rw [e]; exact True.intro) hs ⟨q, hq⟩ ⟨hl, hd, _, (rel.put k eb rv).keeps fun c ys ec => ?_, q, es, ep, hq, h2, h3, h4, h5⟩
    rw [upd_ne (ne_of ec e (fun z => nomatch z))]
    exact ec
end
def NoSl (i : Expr) : Prop := ∀ ov iv, subscripted i false ov iv = operate [ov, iv] (getItem ov iv)
theorem subD_of {prog : Program} {w : World} {A : Around} {E : Value → Shared → Prop} {s : Shared} {env : Env} {value slice : Expr} {pos : Pos} {T id : String} {Q : Value → Shared → Prop}
    (hl : typeLookup (.type T) "__getitem__" = pure (some (.builtin id))) (hs : NoSl slice)
    (h : wpAny (model prog w) A (eval value env) (fun o s₁ => wpAny (model prog w) A (eval slice env) (fun i s₂ => s₂.TypeIs o T ∧ wpAny (model prog w) A (getItem o i) Q E s₂) E s₁) E s) :
    wpAny (model prog w) A (eval (.Subscript value slice pos) env) Q E s := by
  refine Subscript_ (wpAny_mono h (fun o s₁ h₁ => wpAny_mono h₁ (fun i s₂ h₂ => ?_) fun _ _ x => x) fun _ _ x => x)
  obtain ⟨hT, h₂⟩ := h₂
  unfold subscriptTail
  refine wpAny_bind ?_
  rw [getitemInPython_of_ne hT.not_modules]
  refine wpAny_bind (wpAny_specialOf hT hl ?_)
  have fin : wpAny (model prog w) A (subscripted slice false o i) (fun r s₃ => wpAny (model prog w) A (letTemporaryGo value o r >>= fun _ => pure r) Q E s₃) E s₂ := by
    rw [hs o i]
    exact wpAny_operating (wpAny_mono h₂ (fun r s₃ h₃ => wpAny_bind (wpAny_letTemporaryGo (wpAny_pure h₃))) fun _ _ x => x)
  first
    | exact wpAny_pure (wpAny_bind fin)
    | exact wpAny_bind (wpAny_pure (wpAny_bind fin))
    | exact wpAny_bind fin
theorem dict_typeIs {X : Cx} {pins : List (Addr × Obj)} {σ : St} {H : Hp} {s : Shared} {a : Addr} {y : V} {o : Option V} (I : Inv X pins σ H s) (g : DGet H a y o) : s.TypeIs (.ref a) "dict" := by
  rcases g with ⟨kvs, k, e, _, _⟩ | ⟨kvs, k, b, e, _, _, _⟩
  · obtain ⟨_, _, vs, _, dd⟩ := dk_rd I.hok e
    exact dd.typeIs
  · obtain ⟨_, _, xs, _, dd⟩ := dt_rd I.hok e
    exact dd.typeIs
def tDGet (td ty : TE) : TE := fun σ H Q => td σ H fun x H1 => ty σ H1 fun y H2 => ∃ a v, x = .ref a ∧ DGet H2 a y (some v) ∧ Q v H2
def tDIn (ty td : TE) : TE := fun σ H Q => ty σ H fun y H1 => td σ H1 fun x H2 => ∃ a o, x = .ref a ∧ DGet H2 a y o ∧ Q (.bl o.isSome) H2
def tDNotIn (ty td : TE) : TE := fun σ H Q => ty σ H fun y H1 => td σ H1 fun x H2 => ∃ a o, x = .ref a ∧ DGet H2 a y o ∧ Q (.bl (!o.isSome)) H2
def sDPut (td ty tv : TE) : TS := fun D σ H => tv σ H fun v H1 => td σ H1 fun x H2 => ty σ H2 fun y H3 => ∃ a H4, x = .ref a ∧ DPut H3 a y v H4 ∧ D.nx σ H4
section
variable {X : Cx} {o i e value : Expr} {pos pos' tpos : Pos} {td ty tv : TE}
theorem pe_dget (hu : X.A.units + 1 < cLine) (ho : PE X o td) (hi : PE X i ty) (hs : NoSl i) : PE X (.Subscript o i pos) (tDGet td ty) := by
  intro pins s σ H Q I h
  refine subD_of PySem.F.slot_dict_getitem.lookup hs (thn (ho pins s σ H _ I h) fun u s1 ⟨x, H1, I1, rx, q1⟩ => thn (hi pins s1 σ H1 _ I1 q1) fun iv s2 ⟨y, H2, I2, ry, a, v, ex, g, q2⟩ => ?_)
  subst ex
  obtain rfl : u = Value.ref a := rx
  exact ⟨dict_typeIs I2 g, d_getItem hu I2 g ry fun w' s3 I3 rw' => ⟨v, H2, I3, rw', q2⟩⟩
theorem pc_din (hu : X.A.units + 1 < cLine) (hi : PE X i ty) (ho : PE X o td) : PC X .In i o (tDIn ty td) := by
  intro pins s σ H Q I h
  refine thn (hi pins s σ H _ I h) fun iv s1 ⟨y, H1, I1, ry, q1⟩ => thn (ho pins s1 σ H1 _ I1 q1) fun u s2 ⟨x, H2, I2, rx, a, ov, ex, g, q2⟩ => ?_
  subst ex
  obtain rfl : u = Value.ref a := rx
  exact d_in hu I2 g ry fun s3 I3 => ⟨.bl ov.isSome, H2, I3, rfl, q2⟩
theorem pc_dnotin (hu : X.A.units + 1 < cLine) (hi : PE X i ty) (ho : PE X o td) : PC X .NotIn i o (tDNotIn ty td) := by
  intro pins s σ H Q I h
  refine thn (hi pins s σ H _ I h) fun iv s1 ⟨y, H1, I1, ry, q1⟩ => thn (ho pins s1 σ H1 _ I1 q1) fun u s2 ⟨x, H2, I2, rx, a, ov, ex, g, q2⟩ => ?_
  subst ex
  obtain rfl : u = Value.ref a := rx
  exact d_notIn hu I2 g ry fun s3 I3 => ⟨.bl (!ov.isSome), H2, I3, rfl, q2⟩
theorem ps_dput (hu : X.A.units + 1 < cLine) (ho : PE X o td) (hi : PE X i ty) (hv : PE X value tv) (hs : swapsWith value (some (.Subscript o i pos')) pos.line X.env = pure false) :
    PS X (.Assign [.Subscript o i pos'] value pos) (sDPut td ty tv) := by
  intro pins s σ H D I h
  refine wpAny_Assign_Subscript (thn (hv pins s σ H _ I h) fun r s1 ⟨v, H1, I1, rv, q1⟩ => thn (ho pins s1 σ H1 _ I1 q1) fun u s2 ⟨x, H2, I2, rx, q2⟩ => thn (hi pins s2 σ H2 _ I2 q2) fun iv s3 ⟨y, H3, I3, ry, a, H4, ex, g, q3⟩ => ?_) hs
  subst ex
  obtain rfl : u = Value.ref a := rx
  exact d_setItem hu I3 g ry rv fun s4 I4 => ⟨σ, H4, I4, q3⟩
end
theorem dk_empty {P : Program} {w : World} {H : Hp} (h : Heap) (hb : sysModules < h.objs.size) : ObjOk P w H (h.push { cls := .type "dict", data := .dict #[] }) h.objs.size (.dK []) :=
  ⟨Nat.zero_le _, beq_eq_false_iff_ne.mpr (Ne.symm (Nat.ne_of_lt hb)), [], .nil, Heap.DictOf.new h⟩
theorem dt_empty {P : Program} {w : World} {H : Hp} (h : Heap) (hb : sysModules < h.objs.size) : ObjOk P w H (h.push { cls := .type "dict", data := .dict #[] }) h.objs.size (.dT []) :=
  ⟨Nat.zero_le _, beq_eq_false_iff_ne.mpr (Ne.symm (Nat.ne_of_lt hb)), [], .nil, _, #[], 0, Heap.get?_push_size _ rfl, ⟨rfl, rfl, rfl⟩, rfl, rfl, List.nodup_nil⟩
def tDNewK : TE := fun _ H Q => ∀ p, H p = none → Q (.ref p) (upd H p (.dK []))
def tDNewT : TE := fun _ H Q => ∀ p, H p = none → Q (.ref p) (upd H p (.dT []))
section
variable {X : Cx} {pos : Pos}
theorem pe_dnewK : PE X (.Dict [] [] pos) tDNewK := fun pins s σ H Q I h =>
  wpAny_Dict_empty ⟨.ref s.heap.objs.size, _, I.laid (a := s.heap.objs.size) (o := .dK []) (t' := s.toks) (fun _ _ q => Heap.get?_push_of_some _ q) (Nat.le_refl _) (dk_empty s.heap I.big), rfl, h _ (I.hok.fresh (Nat.le_refl _))⟩
theorem pe_dnewT : PE X (.Dict [] [] pos) tDNewT := fun pins s σ H Q I h =>
  wpAny_Dict_empty ⟨.ref s.heap.objs.size, _, I.laid (a := s.heap.objs.size) (o := .dT []) (t' := s.toks) (fun _ _ q => Heap.get?_push_of_some _ q) (Nat.le_refl _) (dt_empty s.heap I.big), rfl, h _ (I.hok.fresh (Nat.le_refl _))⟩
end
end L2
namespace L2
open PySem PySem.Spec PyProof.Rows
end L2
namespace L2
open PySem PySem.Spec PyProof.Rows
theorem boot_reversed5 : bootBuiltins "reversed" = some (.type "reversed") := by decide +kernel
section
variable {X : Cx} {pins : List (Addr × Obj)} {σ : St} {H : Hp} {s : Shared} {h' : Heap}
theorem Inv.turnedNew {t' : Nat} {ch : List Addr} {T : Addr} {ob : HO} (I : Inv X pins σ H s) (k : ∀ b o, b ∉ ch → s.heap.get? b = some o → h'.get? b = some o) (hf : ∀ b ∈ ch, FpOk X pins H b) (hT : s.heap.objs.size ≤ T)
    (new : ObjOk X.prog X.w (upd H T ob) h' T ob) : Inv X pins σ (upd H T ob) { s with heap := h', toks := t' } := by
  have hn : H T = none := I.hok.fresh hT
  have nit : ∀ b u, H b = some u → b ∉ ch := fun b u e z => by
    have q := (hf b z).1
    rw [q] at e; cases e
  refine I.step (g' := s.gens) (d' := s.drawn) (ch := ch) (fun b hb => ⟨(hf b hb).2.2.2.1, (hf b hb).2.1, (hf b hb).2.2.2.2.1, (hf b hb).2.2.2.2.2⟩) (fun b o _ _ hc e _ => k b o hc e) (fun b o _ _ hc e _ => ⟨o.slots, k b o hc e⟩)
    (fun b o _ e n => ?_) (fun b o hc e => ⟨o, k b o hc e⟩) (fun b xs e => ?_) (fun b o u e => ?_) (fun b ps e => ⟨#[], ?_⟩) (fun m hm => ?_) (fun b u e => ?_) I.bare
  · rw [upd_ne (Nat.ne_of_lt (Nat.lt_of_lt_of_le (Heap.lt_size e) hT))]; exact n
  · rw [upd_ne (ne_of_none e hn)]; exact e
  · rw [upd_ne (ne_of_none e hn)]; exact e
  · rw [upd_ne (ne_of_none e hn), e]; simp
  · obtain ⟨o, es, ep, ho, r⟩ := hm
    exact ⟨o, es, ep, k _ o (fun z => (hf _ z).2.1 rfl) ho, r⟩
  · by_cases hb : b = T
    · subst hb
      rw [upd_same] at e
      cases e
      exact new
    · rw [upd_ne hb] at e
      refine (I.hok b u e).stay (fun c v hc q => k c v ?_ q) (fun c q => by rw [upd_ne (ne_of_none q hn)]; exact q) fun c xs q => by rw [upd_ne (ne_of_none q hn)]; exact q
      rcases hc with z | z
      · rw [z]; exact nit b u e
      · exact nit c _ z
theorem Inv.lock {d : Addr} {u : HO} (I : Inv X pins σ H s) (h : H d = some u) (mu : Mut (some u)) : ∃ od, Inv X pins σ (upd H d (.frz od u)) s := by
  have x := I.hok d u h
  have ex : ∃ od, s.heap.get? d = some od := by
    cases u with
    | lst xs => obtain ⟨_, _, _, _, e⟩ := x; exact ⟨_, e⟩
    | dK kvs => obtain ⟨_, _, _, _, o, _, _, e, _⟩ := x; exact ⟨o, e⟩
    | dT kvs => obtain ⟨_, _, _, _, o, _, _, e, _⟩ := x; exact ⟨o, e⟩
    | set S n => obtain ⟨o, _, _, _, e, _⟩ := x; exact ⟨o, e⟩
    | ins C dx fs => obtain ⟨_, _, _, e, _⟩ := x; exact ⟨_, e⟩
    | ext φ => obtain ⟨_, ⟨_, e⟩, _⟩ := x; exact ⟨_, e⟩
    | _ => exact False.elim mu
  obtain ⟨od, e⟩ := ex
  have new : ObjOk X.prog X.w (upd H d (.frz od u)) s.heap d (.frz od u) := by
    refine ⟨e, x.stay (fun b v _ q => q) (fun b q => ?_) fun b xs q => ?_⟩
    · rw [upd_ne (fun z => by rw [z, h] at q; cases q; exact mu)]; exact q
    · rw [upd_ne (fun z => by rw [z, h] at q; cases q; exact mu)]; exact q
  exact ⟨od, I.write (x := d) (e := d) (t' := s.toks) (h' := s.heap) (by rw [h]; exact mu) (.inl rfl) (fun b v _ q => q) ⟨od, e⟩ new⟩
theorem Inv.nofrz {d : Addr} {u : HO} (I : Inv X pins σ H s) (h : H d = some u) (mu : Mut (some u)) : ∀ o' u', X.H_0 d ≠ some (.frz o' u') := fun o' u' e => by
  have q := I.base.frzs d o' u' e
  rw [h] at q
  cases q
  exact mu
theorem Inv.unlock {d : Addr} {od : Obj} {u : HO} (I : Inv X pins σ H s) (h : H d = some (.frz od u)) (hn : ∀ o' u', X.H_0 d ≠ some (.frz o' u')) : Inv X pins σ (upd H d u) s := by
  have neH : ∀ b o, H b = some o → (∀ o' u', o ≠ .frz o' u') → b ≠ d := fun b o e hne z => by
    rw [z, h] at e
    cases e
    exact hne _ _ rfl
  have neN : ∀ b, H b = none → b ≠ d := fun b e z => by rw [z, h] at e; cases e
  refine ⟨I.ok, I.os, I.bare, ⟨I.base.keep, I.base.slot, fun b o e n hx => ?_, I.base.there, fun b xs e => ?_, fun b o x e => ?_, fun b ps e => ?_⟩, I.loc, I.cell, ?_, fun x c e => ?_, fun p hp => ?_, fun b o e => ?_, I.len⟩
  · rw [upd_ne (neN b (I.base.free b o e n hx))]; exact I.base.free b o e n hx
  · have q := I.base.tups b xs e
    rw [upd_ne (neH b _ q (fun _ _ z => nomatch z))]; exact q
  · have q := I.base.frzs b o x e
    rw [upd_ne (fun z => by rw [z] at e; exact hn _ _ e)]; exact q
  · obtain ⟨m, q⟩ := I.base.tbls b ps e
    exact ⟨m, by rw [upd_ne (neH b _ q (fun _ _ z => nomatch z))]; exact q⟩
  · rw [upd_ne (neN _ I.free)]; exact I.free
  · rw [upd_ne (neN c (I.freeC x c e))]; exact I.freeC x c e
  · obtain ⟨e, n, r⟩ := I.pin p hp
    exact ⟨e, by rw [upd_ne (neN _ n)]; exact n, r⟩
  · by_cases hb : b = d
    · rw [hb, upd_same] at e
      cases e
      rw [hb]
      obtain ⟨_, x⟩ := I.hok d _ h
      exact x.stay (fun c v _ q => q) (fun c q => by rw [upd_ne (neH c _ q (fun _ _ z => nomatch z))]; exact q) fun c xs q => by rw [upd_ne (neH c _ q (fun _ _ z => nomatch z))]; exact q
    · rw [upd_ne hb] at e
      exact (I.hok b o e).stay (fun c v _ q => q) (fun c q => by rw [upd_ne (neH c _ q (fun _ _ z => nomatch z))]; exact q) fun c xs q => by rw [upd_ne (neH c _ q (fun _ _ z => nomatch z))]; exact q
end
def tLockE (t : TE) : TE := fun σ H Q => ∃ d u, H d = some u ∧ Mut (some u) ∧ ∀ od, t σ (upd H d (.frz od u)) fun v H' => H' d = some (.frz od u) ∧ Q v (upd H' d u)
section
variable {X : Cx}
theorem pe_lock {e : Expr} {t : TE} (h : PE X e t) : PE X e (tLockE t) := by
  intro pins s σ H Q I hw
  obtain ⟨d, u, hd, mu, hw⟩ := hw
  obtain ⟨od, I1⟩ := I.lock hd mu
  refine thn (h pins s σ _ _ I1 (hw od)) fun v s1 ⟨x, H1, I2, r, e2, q⟩ => ?_
  exact ⟨x, _, I2.unlock e2 (I.nofrz hd mu), r, q⟩
theorem pi_one {tg : Expr} {pins : List (Addr × Obj)} {σ : St} {H : Hp} {s : Shared} {R : It → Hp → Prop} {J : It} {tn : Nat → Heap → Prop} {tk : Nat} (I : Inv X pins σ H s) (o : Obj)
    (T : Turn X.prog X.w X.K tg J [s.heap.objs.size] s.heap.objs.size tn) (st : tn 0 (s.heap.push o)) (q : R J H) : PIE X pins σ tg R (.ref s.heap.objs.size) { s with heap := s.heap.push o, toks := tk } := by
  refine ⟨s.heap.objs.size, [s.heap.objs.size], tn, J, H, rfl, I.kept fun b ob e => Heap.get?_push_of_some _ e, T, st, fun b hb => ?_, q⟩
  have e : b = s.heap.objs.size := by simpa using hb
  subst e
  exact I.fpOk (Nat.le_refl _) (I.hok.fresh (Nat.le_refl _))
end
def Itc (lo c : Int) (n : Nat) : It := ⟨fun i _ => i < n, fun i H x H' => H' = H ∧ x = .int (lo + (i : Nat) * c), fun i _ => n ≤ i⟩
theorem turn_rangeC {P : Program} {w : World} {K : PySem.W.Frag} {tg : Expr} (it : Addr) (lo c : Int) (n : Nat) : Turn P w K tg (Itc lo c n) [it] it (fun i h => IsRangeIter h it (lo + (i : Nat) * c) ((n : Int) - (i : Nat)) c) where
  mem := by simp
  obj := fun i h st b hb => by
    have e : b = it := by simpa using hb
    subst e
    exact ⟨_, st, fun v z => nomatch z⟩
  keep := fun i h h' st k => k it (by simp) _ st
  item := by
    intro X hP hw hK hc i pins s σ H E I hf st hg
    subst hP hw hK
    obtain ⟨f0, f1, f2, f3, f4, f5⟩ := hf it (by simp)
    have W := Walks.range (prog := X.prog) (w := X.w) (I.ok.hd hc) it lo c n
    refine W.item i s _ _ hg st fun v h' tk hv st' kk => ?_
    obtain ⟨t, rfl⟩ := hv
    have I1 : Inv X pins σ H { s with heap := h', toks := tk } := I.turned (fun b o hb e => kk b o (by simpa using hb) e) f0 f1 f3 f4 f5
    exact ⟨_, rfl, go_of (s := { s with heap := h', toks := tk }) (n := "range_iterator") st' rfl rfl (by decide) ⟨.int (lo + (i : Nat) * c), H, I1, ⟨t, rfl⟩, ⟨rfl, rfl⟩, st', fun b hb => (hf b hb).1⟩⟩
  done := by
    intro X hP hw hK hc i pins s σ H E I hf st hg
    subst hP hw hK
    obtain ⟨f0, f1, f2, f3, f4, f5⟩ := hf it (by simp)
    exact wpAny_pyNext_range_end (I.ok.hd hc) st (by have : n ≤ i := hg; omega) fun h' eb => ⟨rfl, I.turned (t' := s.toks) (fun b o hb e => eb b o hb e) f0 f1 f3 f4 f5⟩
  self := fun A i s Q E st h => wpAny_pyIter_rangeiter st h
def RgC (i j c : Int) (n : Nat) : Prop := c ≠ 0 ∧ c.natAbs < 1073741824 ∧ Builtin.Range.small i j c = true ∧ Builtin.Range.rangeSize i j c = n
theorem RgC.neg {i j : Int} (ha : -(2 ^ 62) ≤ i) (ha' : i < 2 ^ 62) (hb : -(2 ^ 62) ≤ j) (hb' : j < 2 ^ 62) : RgC i j (-1) (i - j).toNat :=
  ⟨by decide, by decide, PySem.W.small_down ha ha' hb hb', PySem.W.rangeSize_downNat i j⟩
def iRng3 (ta : TA) : TI := fun σ H R => ta σ H fun vs H1 => ∃ (i j c : Int) (n : Nat), vs = [.int i, .int j, .int c] ∧ RgC i j c n ∧ R (Itc i c n) H1
section
variable {X : Cx} {tg : Expr}
theorem pi_range3 {a b c : Expr} {ta : TA} {p pos : Pos} (hg : Gl X "range") (hm : X.mg "range" = none) (ha : PA X [a, b, c] ta)
    (hs : starEach [a, b, c] X.env = (false, eval a X.env) :: starEach [b, c] X.env := by rfl) (hpl : (backTo pos (starEach [b, c] X.env)).any (·.1) = false := by rfl) :
    PI X tg (.Call (.Name "range" p) [a, b, c] [] pos) (iRng3 ta) := by
  intro pins s σ H R I h
  refine Call_ (ld_blt I hg hm boot_range (PyProof.Rows.callWith_type1 (thn (ha pos pins s σ H _ I h) fun us s1 ⟨vs, H1, I1, r1, q1⟩ => ?_) hs hpl))
  obtain ⟨i, j, k, n, e, ⟨c0, c1, c2, c3⟩, q⟩ := q1
  subst e
  cases r1 with
  | cons r rr =>
    cases rr with
    | cons r' rr =>
      cases rr with
      | cons r'' rr =>
        cases rr
        obtain ⟨t, rfl⟩ := r
        obtain ⟨t', rfl⟩ := r'
        obtain ⟨t'', rfl⟩ := r''
        refine call_range_3 c0 ?_ (.inl (PyProof.noPylong_small c1))
        refine wpAny_pyIter_range (IsRange.new ..) c2 ?_
        have I2 : Inv X pins σ H1 { s1 with heap := s1.heap.push { cls := .type "range", data := .fields #[.int i t, .int j t', .int k t''] } } := I1.kept (t' := s1.toks) fun b o e => Heap.get?_push_of_some _ e
        refine pi_one (tk := s1.toks) I2 _ (turn_rangeC _ i k n) ?_ q
        have e1 : i + ((0 : Nat) : Int) * k = i := by simp
        have e2 : (n : Int) - ((0 : Nat) : Int) = Builtin.Range.rangeSize i j k := by rw [c3]; simp
        show IsRangeIter _ _ (i + ((0 : Nat) : Int) * k) ((n : Int) - ((0 : Nat) : Int)) k
        rw [e1, e2]
        exact Heap.get?_push_size _ rfl
end
theorem for_rangeC {lo c : Int} {n : Nat} {g : TG} {tb : TS} {D : Ends} {σ : St} {H : Hp} (Pv : Nat → St → Hp → Prop) (h0 : Pv 0 σ H)
    (hs : ∀ i σ H, i < n → Pv i σ H → g (.int (lo + (i : Nat) * c)) σ H fun σ2 H2 => tb { D with nx := Pv (i + 1), ct := Pv (i + 1), bk := D.nx } σ2 H2) (hd : ∀ σ H, Pv n σ H → D.nx σ H) :
    ∃ W : Nat → Nat → St → Hp → Prop, (∃ m, W 0 m σ H) ∧ ∀ i m σ H, W i m σ H →
      ((Itc lo c n).stop i H ∧ D.nx σ H) ∨ ((Itc lo c n).go i H ∧ ∃ N : St → Hp → Prop, (∀ σ' H', N σ' H' → ∃ m', m' < m ∧ W (i + 1) m' σ' H') ∧ ∀ x H', (Itc lo c n).yld i H x H' → g x σ H' fun σ2 H2 => tb { D with nx := N, ct := N, bk := D.nx } σ2 H2) := by
  refine ⟨fun i m σ H => m = n - i ∧ i ≤ n ∧ Pv i σ H, ⟨n, by simp, Nat.zero_le _, h0⟩, ?_⟩
  rintro i m σ H ⟨rfl, hi, p⟩
  by_cases hlt : i < n
  · refine .inr ⟨hlt, Pv (i + 1), fun σ' H' p' => ⟨n - (i + 1), by omega, rfl, hlt, p'⟩, fun x H' y => ?_⟩
    obtain ⟨e, y⟩ := y
    subst e y
    exact hs i σ _ hlt p
  · have e : i = n := by omega
    subst e
    exact .inl ⟨Nat.le_refl _, hd σ H p⟩
def Itv (K : PySem.W.Frag) (a : Addr) (n : Nat) : It :=
  ⟨fun i H => i < n ∧ ∃ (xs : List V) (x : V), SqL K H a xs ∧ xs[n - 1 - i]? = some x, fun i H x H' => H' = H ∧ ∀ xs, SqL K H a xs → xs[n - 1 - i]? = some x, fun i _ => n ≤ i⟩
theorem turn_rev {P : Program} {w : World} {K : PySem.W.Frag} {tg : Expr} (a it : Addr) (n : Nat) : Turn P w K tg (Itv K a n) [it] it (fun i h => i ≤ n ∧ h.IsRevIter it a ((n : Int) - 1 - (i : Nat))) where
  mem := by simp
  obj := fun i h st b hb => by
    have e : b = it := by simpa using hb
    subst e
    obtain ⟨_, o, e, c, d⟩ := st
    exact ⟨o, e, fun v z => by rw [d] at z; cases z⟩
  keep := fun i h h' st k => ⟨st.1, st.2.at fun o e => k it (by simp) o e⟩
  item := by
    intro X hP hw hK hc i pins s σ H E I hf st hg
    subst hP hw hK
    obtain ⟨hin, xs, x, hq, hx⟩ := hg
    obtain ⟨its, rv, p, hz⟩ := I.list hq
    obtain ⟨u, hu, ru⟩ := rv.get hx
    obtain ⟨f0, f1, f2, f3, f4, f5⟩ := hf it (by simp)
    obtain ⟨_, hit⟩ := st
    have e1 : (n : Int) - 1 - ((i : Nat) : Int) = ((n - 1 - i : Nat) : Int) := by omega
    rw [e1] at hit
    refine wpAny_pyNext_rev_item hit p.isList (x := u) (by simpa using hu) fun h' st' sb => ?_
    have e2 : ((n - 1 - i : Nat) : Int) - 1 = (n : Int) - 1 - ((i + 1 : Nat) : Int) := by omega
    rw [e2] at st'
    have I1 : Inv X pins σ H { s with heap := h' } := I.turned (t' := s.toks) (fun b o hb e => (sb.2 b hb).trans e) f0 f1 f3 f4 f5
    obtain ⟨o, e, c, d⟩ := id st'
    exact ⟨u, rfl, go_of (s := { s with heap := h' }) e c d (by decide) ⟨x, H, I1, ru, ⟨rfl, fun ys hy => by rw [I.list_inj hy hq]; exact hx⟩, ⟨hin, st'⟩, fun b hb => (hf b hb).1⟩⟩
  done := by
    intro X hP hw hK hc i pins s σ H E I hf st hg
    subst hP hw hK
    obtain ⟨f0, f1, f2, f3, f4, f5⟩ := hf it (by simp)
    obtain ⟨hin, hit⟩ := st
    have hge : n ≤ i := hg
    have e1 : (n : Int) - 1 - ((i : Nat) : Int) = -1 := by omega
    rw [e1] at hit
    exact wpAny_pyNext_rev_end (I.ok.hd hc) hit fun h' eb => ⟨rfl, I.turned (t' := s.toks) (fun b o hb e => eb b o hb e) f0 f1 f3 f4 f5⟩
  self := fun A i s Q E st h => wpAny_pyIter_revIter st.2 h
def iRev (K : PySem.W.Frag) (ta : TA) : TI := fun σ H R => ta σ H fun vs H1 => ∃ (a : Addr) (xs : List V), vs = [.ref a] ∧ SqL K H1 a xs ∧ R (Itv K a xs.length) H1
section
variable {X : Cx} {tg : Expr}
theorem pi_reversed {e : Expr} {ta : TA} {p pos : Pos} (hg : Gl X "reversed") (hm : X.mg "reversed" = none) (ha : PA X [e] ta) (hs : starEach [e] X.env = [(false, eval e X.env)] := by rfl) : PI X tg (.Call (.Name "reversed" p) [e] [] pos) (iRev X.K ta) := by
  intro pins s σ H R I h
  refine Call_ (ld_blt I hg hm boot_reversed5 (PyProof.Rows.callWith_type1 (thn (ha pos pins s σ H _ I h) fun us s1 ⟨vs, H1, I1, r1, q1⟩ => ?_) hs rfl))
  obtain ⟨a, xs, e, hq, q⟩ := q1
  subst e
  cases r1 with
  | cons r rr =>
    cases rr
    cases r
    obtain ⟨its, rv, p', hz⟩ := I1.list hq
    have hl := rv.length
    have e1 : ((its.toArray.size : Nat) : Int) - 1 = (xs.length : Int) - 1 - ((0 : Nat) : Int) := by simp only [List.size_toArray]; omega
    refine call_reversed_list p'.isList (wpAny_pyIter_revIter (l := a) (i := ((its.toArray.size : Nat) : Int) - 1) ⟨_, Heap.get?_push_size _ rfl, rfl, rfl⟩ ?_)
    refine pi_one (tk := s1.toks) I1 _ (turn_rev a _ xs.length) ⟨Nat.zero_le _, ?_⟩ q
    rw [← e1]
    exact ⟨_, Heap.get?_push_size _ rfl, rfl, rfl⟩
end
section
variable {prog : Program} {w : World} {A : Around} {E : Value → Shared → Prop} {s : Shared}
theorem iter_keys {d : Addr} {o : Obj} {es : Array DictEntry} {ep : Nat} {Q : Value → Shared → Prop} (hd : (d == sysModules) = false) (ho : s.heap.get? d = some o) (hc : o.ExactDict) (hdat : o.data = .dict es ep)
    (hQ : Q (.ref s.heap.objs.size) { s with heap := s.heap.push { cls := .type "dict_keyiterator", data := .fields #[.ref d, .int 0 0, .int es.size 0, .int ep 0] } }) :
    wpAny (model prog w) A (pyIter (.ref d)) Q E s := by
  have hT : s.TypeIs (.ref d) "dict" := ⟨o, ho, hc.1⟩
  refine wpAny_pyIter_slot hT F.slot_dict_iter (wpAny_call_entry F.slot_dict_iter hT F.entry_dict_iter ?_ (F.args_dict_iter_1 _))
  unfold Builtin.«dict.__iter__»
  refine wpAny_bind ?_
  unfold Builtin.Dict.dictSlotNone
  refine wpAny_bind (wpAny_notOrdered_dict hT ?_)
  show wpAny _ _ (pure (Value.ref d)) _ _ s
  refine wpAny_pure ?_
  show wpAny _ _ (Builtin.Dict.showsAll d >>= _) _ _ s
  unfold Builtin.Dict.showsAll
  rw [if_neg (by rw [hd]; exact Bool.false_ne_true)]
  refine wpAny_bind (wpAny_pure ?_)
  refine wpAny_bind (wpAny_dictEntries ho hdat ?_)
  refine wpAny_bind (wpAny_dictEpoch ho hdat ?_)
  refine wpAny_bind (wpAny_newObj_type (wpAny_pure ⟨_, rfl, "dict_keyiterator", _, ⟨_, Heap.get?_push_size _ rfl, rfl⟩, F.slot_dict_keyiterator_next.lookup, ?_⟩))
  simpa [rawInt] using hQ
theorem next_key_item {it d : Addr} {i n ep : Nat} {od : Obj} {es : Array DictEntry} {en : DictEntry} {Q : Option Value → Shared → Prop} (hit : s.heap.IsKeyIter it d i n ep) (hod : s.heap.get? d = some od) (hdd : od.data = .dict es ep)
    (hsz : es.size = n) (hx : es[i]? = some en) (hQ : ∀ h', h'.IsKeyIter it d (i + 1) n ep → Heap.SameBut it s.heap h' → Q (some en.key) { s with heap := h' }) : wpAny (model prog w) A (pyNext (.ref it)) Q E s := by
  obtain ⟨o, ho, hc, hd⟩ := id hit
  unfold pyNext
  refine wpAny_bind (wpAny_attempt (wpAny_callSpecial?_slot (name := Str.ofString "__next__") hit.typeIs F.slot_dict_keyiterator_next
    (wpAny_call_entry F.slot_dict_keyiterator_next hit.typeIs F.entry_dict_keyiterator_next ?_ (F.args_dict_keyiterator_next_1 _))))
  refine wpAny_bind (wpAny_pure ?_)
  refine wpAny_bind ?_
  refine wpAny_bind ?_
  first | refine wpAny_bind (wpAny_typeNameOfWhole_keyiter hit.typeIs (wpAny_pure ?_)) | refine wpAny_bind (wpAny_typeNameOf_keyiter hit.typeIs (wpAny_pure ?_))
  refine wpAny_bind (wpAny_fieldsOf ho hd ?_)
  have hown : Builtin.Dict_items.ownsTuple "dict_keyiterator" = false := by decide
  simp only [hown, Bool.false_eq_true, if_false]
  show wpAny _ _ (if (Value.ref d == Value.none) = true then _ else _) _ _ s
  rw [if_neg (show ¬ ((Value.ref d == Value.none) = true) from Bool.false_ne_true)]
  refine wpAny_bind (wpAny_pure ?_)
  refine wpAny_bind (wpAny_dictEntries hod hdd ?_)
  rw [if_neg (by rw [hsz]; simp)]
  refine wpAny_bind (wpAny_pure ?_)
  refine wpAny_bind (wpAny_dictEpoch hod hdd ?_)
  rw [if_neg (by simp)]
  refine wpAny_pure ?_
  obtain ⟨hlt', hen⟩ := Array.getElem?_eq_some_iff.mp hx
  simp only [show ¬ ((i : Int) < 0) from by omega, if_false, Int.toNat_natCast, Array.getElem?_eq_getElem hlt']
  refine wpAny_bind ?_
  first | refine wpAny_bind (wpAny_typeNameOfWhole_keyiter hit.typeIs (wpAny_pure ?_)) | refine wpAny_bind (wpAny_typeNameOf_keyiter hit.typeIs (wpAny_pure ?_))
  refine wpAny_bind (wpAny_isOneOf_keyiter hit.typeIs ?_)
  show wpAny _ _ (setField (.ref it) 1 (rawInt ((i : Int) + 1)) >>= _) _ _ s
  refine wpAny_bind (wpAny_setField ho hd (by simp) ?_)
  have hit' : (s.heap.update it (Obj.mapFields (·.setIfInBounds 1 (rawInt ((i : Int) + 1))))).IsKeyIter it d (i + 1) n ep :=
    ⟨_, Heap.get?_update_self _ ho (Obj.isFreed_of_fields (Obj.data_mapFields hd _)), (Obj.cls_mapFields ..).trans hc, by rw [Obj.data_mapFields hd]; simp [rawInt]⟩
  refine wpAny_bind (wpAny_holding ?_)
  refine wpAny_bind (wpAny_isOneOf_keyiter (s := { s with heap := s.heap.update it (Obj.mapFields (·.setIfInBounds 1 (rawInt ((i : Int) + 1)))) }) hit'.typeIs ?_)
  show wpAny _ _ (pure es[i].key) _ _ _
  rw [hen]
  exact wpAny_pure (wpAny_pure ⟨_, rfl, wpAny_pure (hQ _ hit' (Heap.SameBut.update ..))⟩)
theorem next_key_end {it d : Addr} {i n ep : Nat} {od : Obj} {es : Array DictEntry} {Q : Option Value → Shared → Prop} (hh : A.handled = none) (hit : s.heap.IsKeyIter it d i n ep) (hod : s.heap.get? d = some od) (hdd : od.data = .dict es ep)
    (hsz : es.size = n) (hge : n ≤ i) (hQ : ∀ h', Heap.ExtBut it s.heap h' → Q none { s with heap := h' }) : wpAny (model prog w) A (pyNext (.ref it)) Q E s := by
  obtain ⟨o, ho, hc, hd⟩ := id hit
  unfold pyNext
  refine wpAny_bind (wpAny_attempt (wpAny_callSpecial?_slot (name := Str.ofString "__next__") hit.typeIs F.slot_dict_keyiterator_next
    (wpAny_call_entry F.slot_dict_keyiterator_next hit.typeIs F.entry_dict_keyiterator_next ?_ (F.args_dict_keyiterator_next_1 _))))
  refine wpAny_bind (wpAny_pure ?_)
  refine wpAny_bind ?_
  refine wpAny_bind ?_
  first | refine wpAny_bind (wpAny_typeNameOfWhole_keyiter hit.typeIs (wpAny_pure ?_)) | refine wpAny_bind (wpAny_typeNameOf_keyiter hit.typeIs (wpAny_pure ?_))
  refine wpAny_bind (wpAny_fieldsOf ho hd ?_)
  have hown : Builtin.Dict_items.ownsTuple "dict_keyiterator" = false := by decide
  simp only [hown, Bool.false_eq_true, if_false]
  show wpAny _ _ (if (Value.ref d == Value.none) = true then _ else _) _ _ s
  rw [if_neg (show ¬ ((Value.ref d == Value.none) = true) from Bool.false_ne_true)]
  refine wpAny_bind (wpAny_pure ?_)
  refine wpAny_bind (wpAny_dictEntries hod hdd ?_)
  rw [if_neg (by rw [hsz]; simp)]
  refine wpAny_bind (wpAny_pure ?_)
  refine wpAny_bind (wpAny_dictEpoch hod hdd ?_)
  rw [if_neg (by simp)]
  refine wpAny_pure ?_
  have hge' : es.size ≤ i := by rw [hsz]; exact hge
  simp only [show ¬ ((i : Int) < 0) from by omega, if_false, Int.toNat_natCast, Array.getElem?_eq_none hge']
  refine wpAny_bind ?_
  first | refine wpAny_bind (wpAny_typeNameOfWhole_keyiter hit.typeIs (wpAny_pure ?_)) | refine wpAny_bind (wpAny_typeNameOf_keyiter hit.typeIs (wpAny_pure ?_))
  show wpAny _ _ (setField (.ref it) 0 .none >>= _) _ _ s
  refine wpAny_bind (wpAny_setField ho hd (by simp) ?_)
  show wpAny _ _ (newExc (.type "StopIteration") [] >>= _) _ _ _
  refine wpAny_bind ?_
  simp only [newExc, newTuple]
  refine wpAny_bind (wpAny_newObj_type ?_ (by size_fits))
  refine wpAny_bind (m := firstArgMember _ _) (wpAny_of_eq (a := Value.none) (by first | rfl | (simp only [firstArgMember]; rfl)) ?_)
  refine wpAny_newObj_type ?_ (by size_fits)
  simp only [raiseNew]
  refine wpAny_bind (wpAny_handled ?_)
  rw [show A.in1.handled = none from hh]
  refine wpAny_bind (wpAny_pure (wpAny_throw ?_))
  refine wpAny_bind (wpAny_isInstance (T := "StopIteration") (b := true) ⟨_, Heap.get?_push_size _ rfl, rfl⟩ isSubtype_stop ?_)
  exact wpAny_pure (hQ _ (((Heap.SameBut.update ..).extBut.push _).push _))
end
theorem kv_get {κ : Type} {kvs : List (κ × V)} {vs : List (κ × Value)} (h : KV kvs vs) : ∀ {i : Nat} {k : κ} {v : V}, kvs[i]? = some (k, v) → ∃ u, vs[i]? = some (k, u) ∧ RelV v u := by
  unfold KV at h
  induction h with
  | nil => intro i k v e; simp at e
  | @cons a b l₁ l₂ r t ih =>
    intro i k v e
    cases i with
    | zero =>
      simp only [List.getElem?_cons_zero, Option.some.injEq] at e
      subst e
      refine ⟨b.2, ?_, r.2⟩
      simp only [List.getElem?_cons_zero]
      exact congrArg some (Prod.ext r.1.symm rfl)
    | succ j =>
      simp only [List.getElem?_cons_succ] at e ⊢
      exact ih e
theorem paired_get {α β : Type} {G : α → β → Prop} {l₁ : List α} {l₂ : List β} (h : Paired G l₁ l₂) : ∀ {i : Nat} {a : α}, l₁[i]? = some a → ∃ b, l₂[i]? = some b ∧ G a b := by
  induction h with
  | nil => intro i a e; simp at e
  | @cons a b l₁ l₂ r t ih =>
    intro i a' e
    cases i with
    | zero =>
      simp only [List.getElem?_cons_zero, Option.some.injEq] at e
      subst e
      exact ⟨b, rfl, r⟩
    | succ j =>
      simp only [List.getElem?_cons_succ] at e ⊢
      exact ih e
theorem relV_key {k : Key} {u : Value} (h : keyIs k u = true) : RelV (kV k) u := by
  rcases keyIs_shape h with ⟨i, t, rfl, rfl⟩ | ⟨x, t, rfl, rfl⟩
  · exact ⟨t, rfl⟩
  · exact ⟨t, rfl⟩
section
variable {X : Cx} {pins : List (Addr × Obj)} {σ : St} {H : Hp} {s : Shared} {d : Addr} {o : Obj}
theorem Inv.frzK {kvs : List (Key × V)} (I : Inv X pins σ H s) (h : H d = some (.frz o (.dK kvs))) :
    (d == sysModules) = false ∧ s.heap.get? d = some o ∧ o.ExactDict ∧ ∃ (es : Array DictEntry) (ep : Nat) (vs : List (Key × Value)), o.data = .dict es ep ∧ es.size = kvs.length ∧ KV kvs vs ∧ s.heap.DictAt (mixKind X.prog X.w) d vs ep := by
  obtain ⟨hd, z, hs, vs, kv, o', es, ep, ho, hx, hdt, r⟩ := I.hok d _ h
  rw [hd] at ho
  cases ho
  refine ⟨hs, hd, hx, es, ep, vs, hdt, ?_, kv, o, es, hd, hx, hdt, r⟩
  have l1 := r.2.1.length
  have l2 : kvs.length = vs.length := Paired.length kv
  rw [Array.length_toList] at l1
  omega
theorem Inv.frzT {kvs : List (List Key × V)} (I : Inv X pins σ H s) (h : H d = some (.frz o (.dT kvs))) :
    (d == sysModules) = false ∧ s.heap.get? d = some o ∧ o.ExactDict ∧ ∃ (es : Array DictEntry) (ep : Nat), o.data = .dict es ep ∧ es.size = kvs.length ∧
      ∀ (i : Nat) (k : List Key) (v : V), kvs[i]? = some (k, v) → ∃ (en : DictEntry) (q : Addr), es[i]? = some en ∧ en.key = .ref q ∧ H q = some (.tup (k.map kV)) := by
  obtain ⟨hd, z, hs, xs, pr, o', es, ep, ho, hx, hdt, he, _⟩ := I.hok d _ h
  rw [hd] at ho
  cases ho
  refine ⟨hs, hd, hx, es, ep, hdt, ?_, fun i k v e => ?_⟩
  · have l1 : es.size = xs.length := size_of_entries he
    have l2 : kvs.length = xs.length := Paired.length pr
    omega
  · obtain ⟨b, hb, e1, e2, _⟩ := paired_get pr e
    have q := entry_at he i
    rw [hb] at q
    exact ⟨_, b.2.1, q, rfl, e2⟩
end
def Itk (d : Addr) (o : Obj) (kvs : List (Key × V)) : It :=
  ⟨fun i H => H d = some (.frz o (.dK kvs)) ∧ i < kvs.length, fun i H x H' => H' = H ∧ ∃ k v, kvs[i]? = some (k, v) ∧ x = kV k, fun i H => H d = some (.frz o (.dK kvs)) ∧ kvs.length ≤ i⟩
def Itkt (d : Addr) (o : Obj) (kvs : List (List Key × V)) : It :=
  ⟨fun i H => H d = some (.frz o (.dT kvs)) ∧ i < kvs.length, fun i H x H' => H' = H ∧ ∃ (k : List Key) (v : V) (q : Addr), kvs[i]? = some (k, v) ∧ x = .ref q ∧ H q = some (.tup (k.map kV)), fun i H => H d = some (.frz o (.dT kvs)) ∧ kvs.length ≤ i⟩
theorem dict_ep {o : Obj} {es es' : Array DictEntry} {ep ep' : Nat} (h : o.data = .dict es ep) (h' : o.data = .dict es' ep') : es' = es ∧ ep' = ep := by
  rw [h] at h'
  cases h'
  exact ⟨rfl, rfl⟩
section
variable {P : Program} {w : World} {K : PySem.W.Frag} {tg : Expr} {d : Addr} {o : Obj} {es : Array DictEntry} {ep : Nat}
theorem turn_keys {kvs : List (Key × V)} (it : Addr) (hod : o.data = .dict es ep) : Turn P w K tg (Itk d o kvs) [it] it (fun i h => h.IsKeyIter it d i kvs.length ep) where
  mem := by simp
  obj := fun i h st b hb => by
    have e : b = it := by simpa using hb
    subst e
    obtain ⟨oi, e, c, dd⟩ := st
    exact ⟨oi, e, fun v z => by rw [dd] at z; cases z⟩
  keep := fun i h h' st k => st.at fun oi e => k it (by simp) oi e
  item := by
    intro X hP hw hK hc i pins s σ H E I hf st hg
    subst hP hw hK
    obtain ⟨hd, hi⟩ := hg
    obtain ⟨f0, f1, f2, f3, f4, f5⟩ := hf it (by simp)
    obtain ⟨hs, hgd, hx, es', ep', vs, hdt, hsz, kv, hm⟩ := I.frzK hd
    obtain ⟨rfl, rfl⟩ := dict_ep hod hdt
    obtain ⟨⟨k, v⟩, hkv⟩ : ∃ p, kvs[i]? = some p := ⟨kvs[i], List.getElem?_eq_getElem hi⟩
    obtain ⟨u, hu, ru⟩ := kv_get kv hkv
    have hl : kvs.length = vs.length := Paired.length kv
    rw [hl] at st
    refine wpAny_pyNext_dict_item st hm hu fun key h' hkey st' sb => ?_
    have I1 : Inv X pins σ H { s with heap := h' } := I.turned (t' := s.toks) (fun b ob hb e => (sb.2 b hb).trans e) f0 f1 f3 f4 f5
    obtain ⟨oi, e, c, dd⟩ := id st'
    refine ⟨key, rfl, go_of (s := { s with heap := h' }) e c dd (by decide) ⟨kV k, H, I1, relV_key (show keyIs k key = true from hkey), ⟨rfl, k, v, hkv, rfl⟩, ?_, fun b hb => (hf b hb).1⟩⟩
    show h'.IsKeyIter it d (i + 1) kvs.length _
    rw [hl]
    exact st'
  done := by
    intro X hP hw hK hc i pins s σ H E I hf st hg
    subst hP hw hK
    obtain ⟨hd, hi⟩ := hg
    obtain ⟨f0, f1, f2, f3, f4, f5⟩ := hf it (by simp)
    obtain ⟨hs, hgd, hx, es', ep', vs, hdt, hsz, kv, hm⟩ := I.frzK hd
    obtain ⟨rfl, rfl⟩ := dict_ep hod hdt
    exact next_key_end (I.ok.hd hc) st hgd hdt hsz hi fun h' eb => ⟨rfl, I.turned (t' := s.toks) (fun b ob hb e => eb b ob hb e) f0 f1 f3 f4 f5⟩
  self := fun A i s Q E st h => wpAny_pyIter_keyiter st h
theorem turn_keysT {kvs : List (List Key × V)} (it : Addr) (hod : o.data = .dict es ep) : Turn P w K tg (Itkt d o kvs) [it] it (fun i h => h.IsKeyIter it d i kvs.length ep) where
  mem := by simp
  obj := fun i h st b hb => by
    have e : b = it := by simpa using hb
    subst e
    obtain ⟨oi, e, c, dd⟩ := st
    exact ⟨oi, e, fun v z => by rw [dd] at z; cases z⟩
  keep := fun i h h' st k => st.at fun oi e => k it (by simp) oi e
  item := by
    intro X hP hw hK hc i pins s σ H E I hf st hg
    subst hP hw hK
    obtain ⟨hd, hi⟩ := hg
    obtain ⟨f0, f1, f2, f3, f4, f5⟩ := hf it (by simp)
    obtain ⟨hs, hgd, hx, es', ep', hdt, hsz, ent⟩ := I.frzT hd
    obtain ⟨rfl, rfl⟩ := dict_ep hod hdt
    obtain ⟨⟨k, v⟩, hkv⟩ : ∃ p, kvs[i]? = some p := ⟨kvs[i], List.getElem?_eq_getElem hi⟩
    obtain ⟨en, q, hen, hkey, hq⟩ := ent i k v hkv
    refine next_key_item st hgd hdt hsz hen fun h' st' sb => ?_
    have I1 : Inv X pins σ H { s with heap := h' } := I.turned (t' := s.toks) (fun b ob hb e => (sb.2 b hb).trans e) f0 f1 f3 f4 f5
    obtain ⟨oi, e, c, dd⟩ := id st'
    exact ⟨en.key, rfl, go_of (s := { s with heap := h' }) e c dd (by decide) ⟨.ref q, H, I1, hkey, ⟨rfl, k, v, q, hkv, rfl, hq⟩, st', fun b hb => (hf b hb).1⟩⟩
  done := by
    intro X hP hw hK hc i pins s σ H E I hf st hg
    subst hP hw hK
    obtain ⟨hd, hi⟩ := hg
    obtain ⟨f0, f1, f2, f3, f4, f5⟩ := hf it (by simp)
    obtain ⟨hs, hgd, hx, es', ep', hdt, hsz, ent⟩ := I.frzT hd
    obtain ⟨rfl, rfl⟩ := dict_ep hod hdt
    exact next_key_end (I.ok.hd hc) st hgd hdt hsz hi fun h' eb => ⟨rfl, I.turned (t' := s.toks) (fun b ob hb e => eb b ob hb e) f0 f1 f3 f4 f5⟩
  self := fun A i s Q E st h => by
    refine wpAny_pyIter_slot st.typeIs F.slot_dict_keyiterator_iter (wpAny_call_entry F.slot_dict_keyiterator_iter st.typeIs F.entry_dict_keyiterator_iter ?_ (F.args_dict_keyiterator_iter_1 _))
    show wpAny _ _ (ret (.ref it)) _ _ s
    exact wpAny_pure ⟨_, rfl, "dict_keyiterator", _, st.typeIs, F.slot_dict_keyiterator_next.lookup, h⟩
end
def iKeys (td : TE) : TI := fun σ H R => td σ H fun x H1 => ∃ d o, x = .ref d ∧ ((∃ kvs, H1 d = some (.frz o (.dK kvs)) ∧ R (Itk d o kvs) H1) ∨ ∃ kvs, H1 d = some (.frz o (.dT kvs)) ∧ R (Itkt d o kvs) H1)
section
variable {X : Cx} {tg e : Expr} {td : TE} {apos cpos : Pos}
theorem pi_keys (he : PE X e td) : PI X tg e (iKeys td) := by
  intro pins s σ H R I h
  refine thn (he pins s σ H _ I h) fun u s1 ⟨x, H1, I1, rx, d, o, ex, q⟩ => ?_
  subst ex
  obtain rfl : u = Value.ref d := rx
  rcases q with ⟨kvs, hd, q⟩ | ⟨kvs, hd, q⟩
  · obtain ⟨hs, hgd, hx, es, ep, vs, hdt, hsz, kv, hm⟩ := I1.frzK hd
    refine iter_keys hs hgd hx hdt (pi_one (tk := s1.toks) I1 _ (turn_keys _ hdt) ⟨_, Heap.get?_push_size _ rfl, rfl, ?_⟩ q)
    rw [hsz] <;> rfl
  · obtain ⟨hs, hgd, hx, es, ep, hdt, hsz, ent⟩ := I1.frzT hd
    refine iter_keys hs hgd hx hdt (pi_one (tk := s1.toks) I1 _ (turn_keysT _ hdt) ⟨_, Heap.get?_push_size _ rfl, rfl, ?_⟩ q)
    rw [hsz] <;> rfl
end
def Ite (K : PySem.W.Frag) (a : Addr) : It :=
  ⟨fun i H => ∃ (xs : List V) (x : V), SqL K H a xs ∧ xs[i]? = some x, fun i H v H' => ∃ T x, v = .ref T ∧ H T = none ∧ H' = upd H T (.tup [.int (i : Nat), x]) ∧ ∀ xs, SqL K H a xs → xs[i]? = some x, fun i H => ∃ xs : List V, SqL K H a xs ∧ xs.length ≤ i⟩
theorem turn_enum {P : Program} {w : World} {K : PySem.W.Frag} {elts : List Expr} {kk : Nat} {tpos : Pos} (a e it : Addr) :
    Turn P w K (.Tuple elts kk tpos) (Ite K a) [e, it] e (fun i h => (∃ old, IsEnum h e it ((i : Nat) : Int) old) ∧ h.IsListIter it a i ∧ e ≠ it) where
  mem := by simp
  obj := fun i h st b hb => by
    obtain ⟨⟨old, he⟩, ⟨o, ho, hc, hd⟩, _⟩ := st
    have e' : b = e ∨ b = it := by simpa using hb
    rcases e' with z | z
    · rw [z]; exact ⟨_, he, fun v q => nomatch q⟩
    · rw [z]; exact ⟨o, ho, fun v q => by rw [hd] at q; cases q⟩
  keep := fun i h h' st k => let ⟨⟨old, he⟩, hi, hne⟩ := st; ⟨⟨old, k e (by simp) _ he⟩, hi.at fun o q => k it (by simp) o q, hne⟩
  item := by
    intro X hP hw hK hc i pins s σ H E I hf st hg
    subst hP hw hK
    obtain ⟨⟨old, he⟩, hit, hne⟩ := st
    obtain ⟨xs, x, hq, hx⟩ := hg
    obtain ⟨its, rv, p, hz⟩ := I.list hq
    obtain ⟨u, hu, ru⟩ := rv.get hx
    have hel : e < s.heap.objs.size := Heap.lt_size he
    have hil : it < s.heap.objs.size := by obtain ⟨_, q, _⟩ := hit; exact Heap.lt_size q
    refine wpAny_pyNext_enum_item he hit p.isList (x := u) (by simpa using hu) hne fun h' ho hit' hT hsz hk => ?_
    refine ⟨_, rfl, wpAny_letOwnedTupleGo_enum (s := { s with heap := h', toks := s.toks + 1 }) ho fun h'' he' sb => ?_⟩
    have hT2 : h''.get? s.heap.objs.size = some { cls := .type "tuple", data := .seq #[.int i s.toks, u] } := (sb.2 _ (Nat.ne_of_gt hel)).trans hT
    have new : ObjOk X.prog X.w (upd H s.heap.objs.size (.tup [.int (i : Nat), x])) h'' s.heap.objs.size (.tup [.int (i : Nat), x]) :=
      ⟨by show 2 ≤ sizeLine; decide, [.int i s.toks, u], .cons ⟨_, rfl⟩ (.cons ru .nil), ⟨_, hT2, rfl, _, rfl⟩⟩
    have I1 : Inv X pins σ (upd H s.heap.objs.size (.tup [.int (i : Nat), x])) { s with heap := h'', toks := s.toks + 1 } :=
      I.turnedNew (ch := [e, it]) (fun b ob hb q => (sb.2 b (fun z => hb (by simp [z]))).trans (hk b ob (fun z => hb (by simp [z])) (fun z => hb (by simp [z])) q)) hf (Nat.le_refl _) new
    refine ⟨.ref s.heap.objs.size, _, I1, rfl, ⟨_, x, rfl, I.hok.fresh (Nat.le_refl _), rfl, fun ys hy => by rw [I.list_inj hy hq]; exact hx⟩, ⟨⟨u, ?_⟩, hit'.at fun o q => (sb.2 it (Ne.symm hne)).trans q, hne⟩, fun b hb => ?_⟩
    · have e1 : ((i + 1 : Nat) : Int) = (i : Int) + 1 := by omega
      rw [e1]; exact he'
    · have hb' : b < s.heap.objs.size := by
        have e' : b = e ∨ b = it := by simpa using hb
        rcases e' with z | z
        · rw [z]; exact hel
        · rw [z]; exact hil
      rw [upd_ne (Nat.ne_of_lt hb')]
      exact (hf b hb).1
  done := by
    intro X hP hw hK hc i pins s σ H E I hf st hg
    subst hP hw hK
    obtain ⟨⟨old, he⟩, hit, hne⟩ := st
    obtain ⟨xs, hq, hx⟩ := hg
    obtain ⟨its, rv, p, hz⟩ := I.list hq
    obtain ⟨f0, f1, f2, f3, f4, f5⟩ := hf it (by simp)
    have hl := rv.length
    exact wpAny_pyNext_enum_end (I.ok.hd hc) he hit p.isList (by simp; omega) fun h' eb => ⟨rfl, I.turned (t' := s.toks) (fun b o hb q => eb b o hb q) f0 f1 f3 f4 f5⟩
  self := fun A i s Q E st h => let ⟨⟨_, he⟩, _⟩ := st; wpAny_pyIter_enum he h
def iEnum (K : PySem.W.Frag) (ta : TA) : TI := fun σ H R => ta σ H fun vs H1 => ∃ a xs, vs = [.ref a] ∧ SqL K H1 a xs ∧ R (Ite K a) H1
theorem pi_enum {X : Cx} {e : Expr} {ta : TA} {p pos tpos : Pos} {elts : List Expr} {kk : Nat} (hg : Gl X "enumerate") (hm : X.mg "enumerate" = none) (ha : PA X [e] ta) (hs : starEach [e] X.env = [(false, eval e X.env)] := by rfl) :
    PI X (.Tuple elts kk tpos) (.Call (.Name "enumerate" p) [e] [] pos) (iEnum X.K ta) := by
  intro pins s σ H R I h
  refine Call_ (ld_blt I hg hm boot_enumerate (PyProof.Rows.callWith_type1 (thn (ha pos pins s σ H _ I h) fun us s1 ⟨vs, H1, I1, r1, q1⟩ => ?_) hs rfl))
  obtain ⟨a, xs, ex, hq, q⟩ := q1
  subst ex
  cases r1 with
  | cons r rr =>
    cases rr
    cases r
    obtain ⟨its, rv, p', hz⟩ := I1.list hq
    refine call_enumerate_list p'.isList fun h' he hit hsz hk => wpAny_pyIter_enum he ?_
    have I2 : Inv X pins σ H1 { s1 with heap := h' } := I1.kept (t' := s1.toks) hk
    refine ⟨s1.heap.objs.size + 1, [s1.heap.objs.size + 1, s1.heap.objs.size], _, _, H1, rfl, I2, turn_enum a (s1.heap.objs.size + 1) s1.heap.objs.size, ⟨⟨.none, he⟩, hit, Nat.succ_ne_self _⟩, fun b hb => ?_, q⟩
    have e' : b = s1.heap.objs.size + 1 ∨ b = s1.heap.objs.size := by simpa using hb
    have hle : s1.heap.objs.size ≤ b := by
      rcases e' with z | z
      · rw [z]; exact Nat.le_add_right _ _
      · rw [z]; exact Nat.le_refl _
    exact I1.fpOk hle (I1.hok.fresh hle)
end L2
section 
namespace Bits
open PySem PyProof.Rows
end Bits
end 
section 
namespace TL
open PySem PySem.Builtin PySem.Builtin.Str PySem.StrLaws
abbrev tl (x : Str) : List Nat := x.cps.toList
def pre (S l : List Nat) : Bool := l.take S.length == S
def par (S : List Nat) : List Nat → List Nat → Option (List Nat × List Nat)
  | _, [] => none
  | acc, c :: r => if pre S (c :: r) = true then some (acc, (c :: r).drop S.length) else par S (acc ++ [c]) r
end TL
end 
namespace L2
open PySem PySem.Spec PyProof.Rows
end L2
namespace L2
open PySem PySem.Spec PyProof.Rows
theorem IsPart.raw {v : Value} {o : Option Int} (p : IsPart v o) : ∃ l : Option (Int × Tok), v = partValue l ∧ l.map (·.1) = o := by
  cases p with
  | none => exact ⟨none, rfl, rfl⟩
  | int i t => exact ⟨some (i, t), rfl, rfl⟩
end L2
namespace Att
open PySem PySem.W PySem.Calls PyProof.Rows
end Att
namespace L2
open PySem PySem.Spec PyProof.Rows
end L2
namespace L2
open PySem PySem.Spec PyProof.Rows
end L2
namespace L2
open PySem PySem.Spec PyProof.Rows
def inClass (s : Stmt) (j : Nat) : Stmt := match s with
  | .ClassDef _ _ _ body _ _ _ _ _ _ _ => body.getD j (.Pass ⟨0, 0, 0, 0⟩)
  | _ => .Pass ⟨0, 0, 0, 0⟩
def defArgs (s : Stmt) : Arguments := match s with
  | .FunctionDef _ a _ _ _ _ _ _ _ _ => a
  | _ => { posonlyargs := [], args := [], vararg := none, kwonlyargs := [], kw_defaults := [], kwarg := none, defaults := [] }
def defBody (s : Stmt) : List Stmt := match s with
  | .FunctionDef _ _ b _ _ _ _ _ _ _ => b
  | _ => []
def defScope (s : Stmt) : Scope := match s with
  | .FunctionDef _ _ _ _ _ _ sc _ _ _ => sc
  | _ => { kind := .function, names := [], isGenerator := false, isCoroutine := false }
abbrev CX0 : CXT := fun _ _ _ _ _ _ => False
abbrev E0 : XK := fun _ _ _ => False
theorem pass0 {X : Cx} : Passes CX0 X E0 := fun _ _ _ _ _ _ _ h => h.elim
structure Fun (K : PySem.W.Frag) (x qual : Str) (st : Stmt) (f : Addr) (fd : FuncData) : Prop where
  ex : ∃ (oc : Value) (od : Option Addr) (kV doc pm : Value) (an : Option Addr) (cdv ct : Value) (osl : Array (Option Value)),
    fd = PySem.W.fnOf x qual (defArgs st) (defBody st) (defScope st) .none kV doc pm an cdv ct ∧ K.lookup f = some ⟨oc, od, .func fd, osl⟩ ∧ PySem.W.codeIn K cdv qual = true
  kp : PySem.W.keepIn K (.ref f) = true
section
variable {P : Program} {w : World} {K : PySem.W.Frag} {mg : Str → Option Value} {base : Heap}
theorem Fun.ok {x qual : Str} {st : Stmt} {f : Addr} {fd : FuncData} {N ps : List Str} {k : Nat} {sp : Sp} (F : Fun K x qual st f fd) (S : FnScope N ps (defScope st)) (len : ∀ vs H Q E, sp vs H Q E → vs.length = ps.length)
    (hbody : ∀ (cdv : Value) (A : Around) (outer : List Env) (s : Shared) (H : Hp) (vs : List V) (Q : VK) (E : XK), Room k (A.deeper (envOfC qual (defScope st) s.heap.objs.size f cdv)) → sp vs H Q E →
      ∃ t, PSs (cxOf CX0 P w K mg base N qual (defScope st) f cdv A outer s H E).nox (defBody st) t ∧ t { nx := fun _ H' => Q .non H', rt := Q } (start N vs) H) : FnOk P w K mg base CX0 (k + 1) f fd ps sp := by
  obtain ⟨oc, od, kV, doc, pm, an, cdv, ct, osl, rfl, lk, hcd⟩ := F.ex
  refine fn_of lk hcd S len fun A outer s H vs Q E hr hsp => ?_
  obtain ⟨t, h, q⟩ := hbody cdv A outer s H vs Q E hr hsp
  exact ⟨t, h.nox, q⟩
theorem Fun.binds {x qual : Str} {st : Stmt} {f : Addr} {fd : FuncData} {ps : List Str} (F : Fun K x qual st f fd)
    (h : ∀ (kV doc pm : Value) (an : Option Addr) (cdv ct : Value) (us : List Value), us.length = ps.length → bindArgs (PySem.W.fnOf x qual (defArgs st) (defBody st) (defScope st) .none kV doc pm an cdv ct) ⟨us, []⟩ = pure (ps.zip us)) : Binds K fd ps [] := by
  obtain ⟨oc, od, kV, doc, pm, an, cdv, ct, osl, rfl, lk, hcd⟩ := F.ex
  exact .all (h kV doc pm an cdv ct)
theorem fun_mk {x qual : Str} {st : Stmt} {f : Addr} {oc : Value} {od an : Option Addr} {osl : Array (Option Value)} {kV doc pm cdv ct : Value} (l : K.lookup f = some ⟨oc, od, .func (PySem.W.fnOf x qual (defArgs st) (defBody st) (defScope st) .none kV doc pm an cdv ct), osl⟩)
    (c : PySem.W.codeIn K cdv qual = true) (k : PySem.W.keepIn K (.ref f) = true) : Fun K x qual st f (PySem.W.fnOf x qual (defArgs st) (defBody st) (defScope st) .none kV doc pm an cdv ct) := ⟨⟨oc, od, kV, doc, pm, an, cdv, ct, osl, rfl, l, c⟩, k⟩
end
theorem hu_of {A : Around} {k : Nat} (hr : Room k A) : A.units + 1 < cLine := Nat.lt_of_le_of_lt (Nat.add_le_add_left (by decide : 1 ≤ 64) _) hr.units
section
variable {X : Cx}
theorem pv (i : Nat) {x : Str} {pos : Pos} (hN : X.N[i]? = some x := by rfl) (hv : Vis X.env.scope x := by first | exact Or.inl rfl | exact Or.inr (Or.inl rfl) | exact Or.inr (Or.inr rfl)) (hd : (x == ("__debug__" : Str)) = false := by decide)
    (hcd : (x == ("__classdict__" : Str)) = false := by decide) : PE X (.Name x pos) (tVar i) := pe_var hN hv hd hcd
end
theorem iteF {A B : Prop} (h : B) : if false = true then A else B := by
  rw [if_neg Bool.false_ne_true]
  exact h
theorem iteT {A B : Prop} (h : A) : if true = true then A else B := by
  rw [if_pos rfl]
  exact h
theorem ite2 {c A B : Prop} [Decidable c] (h1 : c → A) (h2 : ¬ c → B) : if c then A else B := by
  by_cases h : c
  · rw [if_pos h]
    exact h1 h
  · rw [if_neg h]
    exact h2 h
def Same (H H' : Hp) : Prop := ∀ b o, H b = some o → H' b = some o
theorem Same.refl (H : Hp) : Same H H := fun _ _ h => h
theorem Same.trans {H H1 H2 : Hp} (a : Same H H1) (b : Same H1 H2) : Same H H2 := fun c o h => b c o (a c o h)
theorem Same.free {H H' : Hp} (e : Same H H') {l : Addr} (h : H' l = Option.none) : H l = Option.none := by
  cases q : H l with
  | none => rfl
  | some o =>
    rw [e l o q] at h
    cases h
theorem Same.seq {K : PySem.W.Frag} {H H' : Hp} {a : Addr} {xs : List V} (e : Same H H') (h : SqL K H a xs) : SqL K H' a xs := by
  rcases h with (h | ⟨o, h⟩) | h
  · exact .inl (.inl (e _ _ h))
  · exact .inl (.inr ⟨o, e _ _ h⟩)
  · exact .inr h
theorem at_of {xs : List V} {z : Int} {j : Nat} {v : V} (e : z = (j : Int)) (h : xs[j]? = some v) : atI xs z = some v := by
  rw [e]
  exact atI_nat h
theorem sum_take : ∀ {l : List Int} {i : Nat} {z : Int}, l[i]? = some z → (l.take (i + 1)).sum = (l.take i).sum + z
  | [], i, z, h => by simp at h
  | a :: r, 0, z, h => by
    have e : a = z := Option.some.inj h
    subst e
    show ([a] : List Int).sum = ([] : List Int).sum + a
    rw [List.sum_cons]
    exact Int.add_comm _ _
  | a :: r, i + 1, z, h => by
    have ih := sum_take (l := r) (i := i) (z := z) h
    show (a :: r.take (i + 1)).sum = (a :: r.take i).sum + z
    rw [List.sum_cons, List.sum_cons, ih]
    omega
theorem Same.made {H H1 : Hp} {x dx C : Addr} (nx : H x = Option.none) (nd : H dx = Option.none) (k : ∀ b o, (upd (upd H dx (.own x)) x (.ins C dx [])) b = some o → b ≠ x → H1 b = some o) : Same H H1 := fun b o e =>
  k b o (by rw [upd_ne (ne_of_none e nx), upd_ne (ne_of_none e nd)]; exact e) (ne_of_none e nx)
end L2
set_option Elab.async false
set_option linter.all false
set_option maxRecDepth 100000
namespace L2
open PySem PySem.Spec PyProof.Rows
open PySem.W (WData Codec OpenSpec Well WellAll ReadsW ReadsAllW)
mutual
/-- x stands for the datum d, lists and tuples all the way -/
inductive Dw (K : PySem.W.Frag) (H : Hp) : V → WData → Prop
  | non : Dw K H .non .none
  | bl (b : Bool) : Dw K H (.bl b) (.bool b)
  | int (i : Int) : Dw K H (.int i) (.int i)
  | str (x : Str) : Dw K H (.str x) (.str x)
  | byt (b : Array UInt8) : Dw K H (.byt b) (.bytes b.toList)
  | lst {a : Addr} {xs : List V} {ds : List WData} : SqL K H a xs → DwAll K H xs ds → Dw K H (.ref a) (.list ds)
  | tup {a : Addr} {xs : List V} {ds : List WData} : SqT K H a xs → DwAll K H xs ds → Dw K H (.ref a) (.tuple ds)
inductive DwAll (K : PySem.W.Frag) (H : Hp) : List V → List WData → Prop
  | nil : DwAll K H [] []
  | cons {v : V} {vs : List V} {d : WData} {ds : List WData} : Dw K H v d → DwAll K H vs ds → DwAll K H (v :: vs) (d :: ds)
end
theorem dw_ints {K : PySem.W.Frag} {H : Hp} : ∀ ns : List Int, DwAll K H (ns.map V.int) (ns.map WData.int)
  | [] => .nil
  | n :: r => .cons (.int n) (dw_ints r)
theorem ints_dw {K : PySem.W.Frag} {H : Hp} : ∀ (ns : List Int) (xs : List V), DwAll K H xs (ns.map WData.int) → xs = ns.map V.int
  | [], xs, h => by
    cases h
    rfl
  | n :: r, xs, h => by
    cases h with
    | cons h1 h2 =>
      cases h1
      rw [ints_dw r _ h2] <;> rfl
section
variable {P : Program} {w : World} {K : PySem.W.Frag} {H : Hp} {h : Heap} {R : PySem.W.WRecords} {cl : Str → Option Addr}
theorem sqL_at {a : Addr} {xs : List V} (hok : HOk P w H h) (KX : K.In h) (q : SqL K H a xs) : ∃ (its : List Value) (o : Obj) (n : Nat), Vals xs its ∧ h.get? a = some o ∧ o.cls = .type "list" ∧ o.data = .seq its.toArray n := by
  rcases q with q | ⟨o, its, n, e, hc, _, hd, _, hv⟩
  · obtain ⟨_, its, n, hv, e⟩ := (show ObjOk P w H h a (.lst xs) from q.ok hok)
    exact ⟨its, _, n, hv, e, rfl, rfl⟩
  · exact ⟨its.toList, o, n, hv, KX _ _ e, hc, by simp [hd]⟩
theorem sqT_at {a : Addr} {xs : List V} (hok : HOk P w H h) (KX : K.In h) (q : SqT K H a xs) : ∃ (its : List Value) (o : Obj) (n : Nat), Vals xs its ∧ h.get? a = some o ∧ o.cls = .type "tuple" ∧ o.data = .seq its.toArray n := by
  rcases q with q | ⟨o, its, n, e, hc, hd, _, hv⟩
  · obtain ⟨_, its, hv, o, e, hc, n, hd⟩ := (show ObjOk P w H h a (.tup xs) from q.ok hok)
    exact ⟨its, o, n, hv, e, hc, hd⟩
  · exact ⟨its.toList, o, n, hv, KX _ _ e, hc, by simp [hd]⟩
mutual
theorem Dw.reads (hok : HOk P w H h) (KX : K.In h) : ∀ (d : WData) (v : V) (u : Value), Dw K H v d → RelV v u → ∃ as, ReadsW R cl h u d as
  | .none, _, _, x, r => by
    cases x
    cases r
    exact ⟨_, ReadsW.none⟩
  | .bool b, _, _, x, r => by
    cases x
    cases r
    exact ⟨_, ReadsW.bool b⟩
  | .int i, _, _, x, r => by
    cases x
    obtain ⟨t, rfl⟩ := r
    exact ⟨_, ReadsW.int i t⟩
  | .str s, _, _, x, r => by
    cases x
    obtain ⟨t, rfl⟩ := r
    exact ⟨_, ReadsW.str s t⟩
  | .bytes b, _, _, x, r => by
    cases x
    obtain ⟨t, rfl⟩ := r
    exact ⟨_, ReadsW.bytes _ t⟩
  | .list ds, _, _, x, r => by
    cases x with
    | lst hs ha =>
      cases r
      obtain ⟨its, o, n, rv, ho, hc, hd⟩ := sqL_at hok KX hs
      obtain ⟨as, hr⟩ := Dw.readsAll hok KX ds _ its ha rv
      exact ⟨_, ReadsW.list ho hc hd hr⟩
  | .tuple ds, _, _, x, r => by
    cases x with
    | tup hs ha =>
      cases r
      obtain ⟨its, o, n, rv, ho, hc, hd⟩ := sqT_at hok KX hs
      obtain ⟨as, hr⟩ := Dw.readsAll hok KX ds _ its ha rv
      exact ⟨_, ReadsW.tuple ho hc hd hr⟩
  | .float _, _, _, x, _ => by cases x
  | .dict _, _, _, x, _ => by cases x
  | .bytearray _, _, _, x, _ => by cases x
  | .set _, _, _, x, _ => by cases x
  | .frozenset _, _, _, x, _ => by cases x
  | .obj _ _, _, _, x, _ => by cases x
theorem Dw.readsAll (hok : HOk P w H h) (KX : K.In h) : ∀ (ds : List WData) (vs : List V) (us : List Value), DwAll K H vs ds → Vals vs us → ∃ as, ReadsAllW R cl h us ds as
  | [], _, _, x, r => by
    cases x
    cases r
    exact ⟨_, ReadsAllW.nil⟩
  | d :: ds, _, _, x, r => by
    cases x with
    | cons h1 h2 =>
      cases r with
      | cons r1 r2 =>
        obtain ⟨as, q1⟩ := Dw.reads hok KX d _ _ h1 r1
        obtain ⟨bs, q2⟩ := Dw.readsAll hok KX ds _ _ h2 r2
        exact ⟨_, ReadsAllW.cons q1 q2⟩
end
end
mutual
/-- data that a codec tells -/
def plW : WData → Bool
  | .none => true
  | .bool _ => true
  | .int _ => true
  | .str _ => true
  | .bytes _ => true
  | .list xs => plWs xs
  | .tuple xs => plWs xs
  | _ => false
def plWs : List WData → Bool
  | [] => true
  | x :: r => plW x && plWs r
end
theorem plWs_map {α : Type} {f : α → WData} (h : ∀ a, plW (f a) = true) : ∀ l : List α, plWs (l.map f) = true
  | [] => rfl
  | x :: r => by
    show (plW (f x) && plWs (r.map f)) = true
    rw [h x, plWs_map h r] <;> rfl
theorem pl_enc : ∀ (c : Codec) (a : c.denote), plW (c.enc a) = true
  | .unit, _ => rfl
  | .bool, _ => rfl
  | .int _ _, _ => rfl
  | .nat _ _, _ => rfl
  | .u8, _ => rfl
  | .bytes _ _, _ => rfl
  | .text _ _ _ _, _ => rfl
  | .list _ _ c, a => plWs_map (fun x => pl_enc c x) a
  | .pair c d, a => by
    show (plW (c.enc a.1) && (plW (d.enc a.2) && true)) = true
    rw [pl_enc c a.1, pl_enc d a.2] <;> rfl
  | .triple c d e, a => by
    show (plW (c.enc a.1) && (plW (d.enc a.2.1) && (plW (e.enc a.2.2) && true))) = true
    rw [pl_enc c a.1, pl_enc d a.2.1, pl_enc e a.2.2] <;> rfl
  | .option c, none => rfl
  | .option c, some x => pl_enc c x
theorem pl_encAll : ∀ (cs : List Codec) (a : Codec.denoteAll cs), plWs (Codec.encAll cs a) = true
  | [], _ => rfl
  | c :: cs, a => by
    show (plW (c.enc a.1) && plWs (Codec.encAll cs a.2)) = true
    rw [pl_enc c a.1, pl_encAll cs a.2] <;> rfl
theorem weight_mem : ∀ {xs : List WData} {d : WData}, d ∈ xs → d.weight ≤ WData.weightAll xs
  | [], d, h => absurd h (by simp)
  | x :: r, d, h => by
    show d.weight ≤ x.weight + 1 + WData.weightAll r
    rcases List.mem_cons.mp h with e | m
    · rw [e]
      omega
    · have z := weight_mem m
      omega
def toV : Value → V
  | .none => .non
  | .bool b => .bl b
  | .int i _ => .int i
  | .str x _ => .str x
  | .bytes b _ => .byt b
  | .ref a => .ref a
  | _ => .non
def OkU (A : List Addr) : Value → Prop
  | .none => True
  | .bool _ => True
  | .int _ _ => True
  | .str _ _ => True
  | .bytes _ _ => True
  | .ref a => a ∈ A
  | _ => False
theorem OkU.mono {A B : List Addr} (h : ∀ a ∈ A, a ∈ B) : ∀ {u : Value}, OkU A u → OkU B u := fun {u} x => by
  cases u with
  | ref a => exact h a x
  | none => trivial
  | bool b => trivial
  | int i t => trivial
  | str s t => trivial
  | bytes b t => trivial
  | _ => exact False.elim x
theorem relV_toV {A : List Addr} {u : Value} (x : OkU A u) : RelV (toV u) u := by
  cases u with
  | ref a => rfl
  | none => rfl
  | bool b => rfl
  | int i t => exact ⟨t, rfl⟩
  | str s t => exact ⟨t, rfl⟩
  | bytes b t => exact ⟨t, rfl⟩
  | _ => exact False.elim x
theorem vals_toV {A : List Addr} : ∀ {vs : List Value}, (∀ u ∈ vs, OkU A u) → Vals (vs.map toV) vs
  | [], _ => .nil
  | u :: r, h => .cons (relV_toV (h u (List.mem_cons_self ..))) (vals_toV fun x hx => h x (List.mem_cons_of_mem _ hx))
def ArgOb (h : Heap) (A : List Addr) (a : Addr) : Prop := ∃ vs : List Value, vs.length ≤ sizeLine ∧ (∀ u ∈ vs, OkU A u) ∧
  (h.get? a = some { cls := .type "list", data := .seq vs.toArray } ∨ h.get? a = some { cls := .type "tuple", data := .seq vs.toArray })
theorem ArgOb.mono {h : Heap} {A B : List Addr} {a : Addr} (k : ∀ a ∈ A, a ∈ B) (x : ArgOb h A a) : ArgOb h B a := by
  obtain ⟨vs, h1, h2, h3⟩ := x
  exact ⟨vs, h1, fun u hu => (h2 u hu).mono k, h3⟩
theorem wellAll_len {P : Params} {h : Heap} : ∀ {vs : List Value} {ds : List WData}, WellAll P h vs ds → vs.length = ds.length
  | _, _, .nil => rfl
  | _, _, .cons _ b => by
    show _ + 1 = _ + 1
    rw [wellAll_len b]
theorem well_list {P : Params} {h : Heap} {v : Value} {ds : List WData} (x : Well P h v (.list ds)) : ∃ (a : Addr) (vs : List Value), v = .ref a ∧ h.get? a = some { cls := .type "list", data := .seq vs.toArray } ∧ WellAll P h vs ds := by
  cases x with
  | list ho hall => exact ⟨_, _, rfl, ho, hall⟩
theorem well_tuple {P : Params} {h : Heap} {v : Value} {ds : List WData} (x : Well P h v (.tuple ds)) : ∃ (a : Addr) (vs : List Value), v = .ref a ∧ h.get? a = some { cls := .type "tuple", data := .seq vs.toArray } ∧ WellAll P h vs ds := by
  cases x with
  | tuple ho hall => exact ⟨_, _, rfl, ho, hall⟩
theorem well_cons {P : Params} {h : Heap} {us : List Value} {d : WData} {ds : List WData} (x : WellAll P h us (d :: ds)) : ∃ (v : Value) (vs : List Value), us = v :: vs ∧ Well P h v d ∧ WellAll P h vs ds := by
  cases x with
  | cons a b => exact ⟨_, _, rfl, a, b⟩
theorem line_of {n : Nat} (h : n ≤ 1048576) : n ≤ sizeLine := Nat.le_trans h (by decide)
section
variable {P : Params} {h : Heap}
mutual
theorem area_one : ∀ (d : WData) (v : Value), Well P h v d → plW d = true → d.weight ≤ 1048576 → ∃ A : List Addr, OkU A v ∧ ∀ a ∈ A, ArgOb h A a
  | .none, _, x, _, _ => by
    cases x
    exact ⟨[], trivial, fun a m => absurd m (by simp)⟩
  | .bool b, _, x, _, _ => by
    cases x
    exact ⟨[], trivial, fun a m => absurd m (by simp)⟩
  | .int i, _, x, _, _ => by
    cases x
    exact ⟨[], trivial, fun a m => absurd m (by simp)⟩
  | .str s, _, x, _, _ => by
    cases x
    exact ⟨[], trivial, fun a m => absurd m (by simp)⟩
  | .bytes b, _, x, _, _ => by
    cases x
    exact ⟨[], trivial, fun a m => absurd m (by simp)⟩
  | .list ds, _, x, p, z => by
    obtain ⟨a, vs, rfl, ho, hall⟩ := well_list x
    have z2 : WData.weightAll ds ≤ 1048576 := z
    obtain ⟨A, h1, h2⟩ := area_all ds _ hall p fun d hd => Nat.le_trans (weight_mem hd) z2
    have k : ∀ b ∈ A, b ∈ a :: A := fun b hb => List.mem_cons_of_mem _ hb
    refine ⟨a :: A, List.mem_cons_self .., fun b hb => ?_⟩
    rcases List.mem_cons.mp hb with e | m
    · rw [e]
      exact ⟨vs, line_of (by rw [wellAll_len hall]; exact Nat.le_trans (PySem.W.length_le_weightAllW ds) z2), fun u hu => (h1 u hu).mono k, .inl ho⟩
    · exact (h2 b m).mono k
  | .tuple ds, _, x, p, z => by
    obtain ⟨a, vs, rfl, ho, hall⟩ := well_tuple x
    have z2 : WData.weightAll ds ≤ 1048576 := z
    obtain ⟨A, h1, h2⟩ := area_all ds _ hall p fun d hd => Nat.le_trans (weight_mem hd) z2
    have k : ∀ b ∈ A, b ∈ a :: A := fun b hb => List.mem_cons_of_mem _ hb
    refine ⟨a :: A, List.mem_cons_self .., fun b hb => ?_⟩
    rcases List.mem_cons.mp hb with e | m
    · rw [e]
      exact ⟨vs, line_of (by rw [wellAll_len hall]; exact Nat.le_trans (PySem.W.length_le_weightAllW ds) z2), fun u hu => (h1 u hu).mono k, .inr ho⟩
    · exact (h2 b m).mono k
  | .float _, _, _, p, _ => Bool.noConfusion (show false = true from p)
  | .dict _, _, _, p, _ => Bool.noConfusion (show false = true from p)
  | .bytearray _, _, _, p, _ => Bool.noConfusion (show false = true from p)
  | .set _, _, _, p, _ => Bool.noConfusion (show false = true from p)
  | .frozenset _, _, _, p, _ => Bool.noConfusion (show false = true from p)
  | .obj _ _, _, _, p, _ => Bool.noConfusion (show false = true from p)
theorem area_all : ∀ (ds : List WData) (vs : List Value), WellAll P h vs ds → plWs ds = true → (∀ d ∈ ds, d.weight ≤ 1048576) → ∃ A : List Addr, (∀ u ∈ vs, OkU A u) ∧ ∀ a ∈ A, ArgOb h A a
  | [], _, x, _, _ => by
    cases x
    exact ⟨[], fun u m => absurd m (by simp), fun a m => absurd m (by simp)⟩
  | d :: ds, _, x, p, z => by
    obtain ⟨v, vs, rfl, x1, x2⟩ := well_cons x
    have q : plW d = true ∧ plWs ds = true := Bool.and_eq_true_iff.mp p
    obtain ⟨A, a1, a2⟩ := area_one d v x1 q.1 (z d (List.mem_cons_self ..))
    obtain ⟨B, b1, b2⟩ := area_all ds vs x2 q.2 fun e he => z e (List.mem_cons_of_mem _ he)
    have kA : ∀ b ∈ A, b ∈ A ++ B := fun b hb => List.mem_append.mpr (.inl hb)
    have kB : ∀ b ∈ B, b ∈ A ++ B := fun b hb => List.mem_append.mpr (.inr hb)
    refine ⟨A ++ B, fun u hu => ?_, fun b hb => ?_⟩
    · rcases List.mem_cons.mp hu with e | m
      · rw [e]
        exact a1.mono kA
      · exact (b1 u m).mono kB
    · rcases List.mem_append.mp hb with m | m
      · exact (a2 b m).mono kA
      · exact (b2 b m).mono kB
end
end
def hoOf (o : Obj) : Option HO := match o.data with
  | .seq vs _ => if (o.cls == Value.type "list") = true then some (.frz o (.lst (vs.toList.map toV))) else some (.frz o (.tup (vs.toList.map toV)))
  | _ => none
def argH (K : PySem.W.Frag) (h : Heap) (A : List Addr) : Hp := fun b => if b ∈ A then (if (K.lookup b).isNone = true then (h.get? b).bind hoOf else none) else none
def OnlyF (H : Hp) : Prop := ∀ b, H b = none ∨ ∃ o u, H b = some (.frz o u)
theorem hoOf_lst (vs : List Value) : hoOf { cls := .type "list", data := .seq vs.toArray } = some (.frz { cls := .type "list", data := .seq vs.toArray } (.lst (vs.map toV))) := by
  show (if (Value.type "list" == Value.type "list") = true then some (HO.frz { cls := .type "list", data := .seq vs.toArray } (.lst (vs.toArray.toList.map toV))) else some (HO.frz { cls := .type "list", data := .seq vs.toArray } (.tup (vs.toArray.toList.map toV)))) = _
  rw [if_pos (beq_self_eq_true _)]
theorem hoOf_tup (vs : List Value) : hoOf { cls := .type "tuple", data := .seq vs.toArray } = some (.frz { cls := .type "tuple", data := .seq vs.toArray } (.tup (vs.map toV))) := by
  show (if (Value.type "tuple" == Value.type "list") = true then some (HO.frz { cls := .type "tuple", data := .seq vs.toArray } (.lst (vs.toArray.toList.map toV))) else some (HO.frz { cls := .type "tuple", data := .seq vs.toArray } (.tup (vs.toArray.toList.map toV)))) = _
  rw [if_neg (by decide)]
section
variable {P : Program} {w : World} {K : PySem.W.Frag} {h : Heap} {A : List Addr}
theorem argH_at {b : Addr} {o : Obj} (hb : b ∈ A) (hk : K.lookup b = none) (e : h.get? b = some o) : argH K h A b = hoOf o := by
  unfold argH
  rw [if_pos hb, hk, if_pos (show (none : Option Obj).isNone = true from rfl), e] <;> rfl
theorem of_argH {b : Addr} {u : HO} (q : argH K h A b = some u) : b ∈ A ∧ K.lookup b = none := by
  unfold argH at q
  by_cases hb : b ∈ A
  · rw [if_pos hb] at q
    cases hk : K.lookup b with
    | none => exact ⟨hb, rfl⟩
    | some o =>
      rw [hk, if_neg (by simp)] at q
      cases q
  · rw [if_neg hb] at q
    cases q
theorem argH_is (ar : ∀ a ∈ A, ArgOb h A a) {b : Addr} {u : HO} (q : argH K h A b = some u) : K.lookup b = none ∧ ∃ vs : List Value, vs.length ≤ sizeLine ∧ (∀ u ∈ vs, OkU A u) ∧
    ((h.get? b = some { cls := .type "list", data := .seq vs.toArray } ∧ u = .frz { cls := .type "list", data := .seq vs.toArray } (.lst (vs.map toV))) ∨
     (h.get? b = some { cls := .type "tuple", data := .seq vs.toArray } ∧ u = .frz { cls := .type "tuple", data := .seq vs.toArray } (.tup (vs.map toV)))) := by
  obtain ⟨hb, hk⟩ := of_argH q
  obtain ⟨vs, h1, h2, h3⟩ := ar b hb
  refine ⟨hk, vs, h1, h2, ?_⟩
  rcases h3 with e | e
  · rw [argH_at hb hk e, hoOf_lst] at q
    exact .inl ⟨e, (Option.some.inj q).symm⟩
  · rw [argH_at hb hk e, hoOf_tup] at q
    exact .inr ⟨e, (Option.some.inj q).symm⟩
theorem argH_only (ar : ∀ a ∈ A, ArgOb h A a) : OnlyF (argH K h A) := fun b => by
  cases q : argH K h A b with
  | none => exact .inl rfl
  | some u =>
    obtain ⟨_, vs, _, _, ⟨_, e⟩ | ⟨_, e⟩⟩ := argH_is ar q
    · exact .inr ⟨_, _, by rw [e]⟩
    · exact .inr ⟨_, _, by rw [e]⟩
theorem argH_ok (ar : ∀ a ∈ A, ArgOb h A a) : HOk P w (argH K h A) h := fun b u q => by
  obtain ⟨_, vs, h1, h2, ⟨e, rfl⟩ | ⟨e, rfl⟩⟩ := argH_is ar q
  · exact ⟨e, by rw [List.length_map]; exact h1, vs, _, vals_toV h2, e⟩
  · exact ⟨e, by rw [List.length_map]; exact h1, vs, vals_toV h2, _, e, rfl, _, rfl⟩
theorem seq_inj {c c' : Value} {vs us : List Value} (e : (some { cls := c, data := .seq vs.toArray } : Option Obj) = some { cls := c', data := .seq us.toArray }) : c = c' ∧ vs = us := by
  have e1 := Option.some.inj e
  have e2 : c = c' := congrArg Obj.cls e1
  have e3 : Data.seq vs.toArray = Data.seq us.toArray := congrArg Obj.data e1
  injection e3 with e4
  refine ⟨e2, ?_⟩
  have e5 := congrArg Array.toList e4
  simpa using e5
theorem argL (KX : K.In h) (ar : ∀ a ∈ A, ArgOb h A a) {a : Addr} {vs : List Value} (ha : a ∈ A) (e : h.get? a = some { cls := .type "list", data := .seq vs.toArray }) : (∀ u ∈ vs, OkU A u) ∧ SqL K (argH K h A) a (vs.map toV) := by
  obtain ⟨us, h1, h2, h3⟩ := ar a ha
  have hu : us = vs := by
    rcases h3 with q | q
    · rw [e] at q
      exact (seq_inj q).2.symm
    · rw [e] at q
      exact absurd (Value.type.inj (seq_inj q).1) (by decide)
  subst hu
  refine ⟨h2, ?_⟩
  cases hk : K.lookup a with
  | none => exact .inl (.inr ⟨_, by rw [argH_at ha hk e, hoOf_lst]⟩)
  | some o =>
    have e2 := KX a o hk
    rw [e] at e2
    obtain rfl := Option.some.inj e2
    exact .inr ⟨_, us.toArray, _, hk, rfl, rfl, rfl, by rw [List.size_toArray]; exact h1, by simpa using vals_toV h2⟩
theorem argT (KX : K.In h) (ar : ∀ a ∈ A, ArgOb h A a) {a : Addr} {vs : List Value} (ha : a ∈ A) (e : h.get? a = some { cls := .type "tuple", data := .seq vs.toArray }) : (∀ u ∈ vs, OkU A u) ∧ SqT K (argH K h A) a (vs.map toV) := by
  obtain ⟨us, h1, h2, h3⟩ := ar a ha
  have hu : us = vs := by
    rcases h3 with q | q
    · rw [e] at q
      exact absurd (Value.type.inj (seq_inj q).1) (by decide)
    · rw [e] at q
      exact (seq_inj q).2.symm
  subst hu
  refine ⟨h2, ?_⟩
  cases hk : K.lookup a with
  | none => exact .inl (.inr ⟨_, by rw [argH_at ha hk e, hoOf_tup]⟩)
  | some o =>
    have e2 := KX a o hk
    rw [e] at e2
    obtain rfl := Option.some.inj e2
    exact .inr ⟨_, us.toArray, _, hk, rfl, rfl, by rw [List.size_toArray]; exact h1, by simpa using vals_toV h2⟩
mutual
theorem dw_one {Pm : Params} (KX : K.In h) (ar : ∀ a ∈ A, ArgOb h A a) : ∀ (d : WData) (v : Value), Well Pm h v d → plW d = true → OkU A v → Dw K (argH K h A) (toV v) d
  | .none, _, x, _, _ => by
    cases x
    exact .non
  | .bool b, _, x, _, _ => by
    cases x
    exact .bl b
  | .int i, _, x, _, _ => by
    cases x
    exact .int i
  | .str s, _, x, _, _ => by
    cases x
    exact .str s
  | .bytes b, _, x, _, _ => by
    cases x
    have z := Dw.byt (K := K) (H := argH K h A) b.toArray
    exact z
  | .list ds, _, x, p, hu => by
    obtain ⟨a, vs, rfl, ho, hall⟩ := well_list x
    obtain ⟨h2, hs⟩ := argL KX ar hu ho
    exact .lst hs (dw_all KX ar ds _ hall p h2)
  | .tuple ds, _, x, p, hu => by
    obtain ⟨a, vs, rfl, ho, hall⟩ := well_tuple x
    obtain ⟨h2, hs⟩ := argT KX ar hu ho
    exact .tup hs (dw_all KX ar ds _ hall p h2)
  | .float _, _, _, p, _ => Bool.noConfusion (show false = true from p)
  | .dict _, _, _, p, _ => Bool.noConfusion (show false = true from p)
  | .bytearray _, _, _, p, _ => Bool.noConfusion (show false = true from p)
  | .set _, _, _, p, _ => Bool.noConfusion (show false = true from p)
  | .frozenset _, _, _, p, _ => Bool.noConfusion (show false = true from p)
  | .obj _ _, _, _, p, _ => Bool.noConfusion (show false = true from p)
theorem dw_all {Pm : Params} (KX : K.In h) (ar : ∀ a ∈ A, ArgOb h A a) : ∀ (ds : List WData) (vs : List Value), WellAll Pm h vs ds → plWs ds = true → (∀ u ∈ vs, OkU A u) → DwAll K (argH K h A) (vs.map toV) ds
  | [], _, x, _, _ => by
    cases x
    exact .nil
  | d :: ds, _, x, p, hu => by
    obtain ⟨v, vs, rfl, x1, x2⟩ := well_cons x
    have q : plW d = true ∧ plWs ds = true := Bool.and_eq_true_iff.mp p
    exact .cons (dw_one KX ar d v x1 q.1 (hu _ (List.mem_cons_self ..))) (dw_all KX ar ds vs x2 q.2 fun u m => hu u (List.mem_cons_of_mem _ m))
end
end
theorem spec_call {P : Program} {w : World} {K : PySem.W.Frag} {mg mb : Str → Option Value} {CX : CXT} {k : Nat} {fa : Addr} {fd : FuncData} {ps : List Str} {sp : Sp} {s₁ : Shared} {vals : List Value} {ds : List WData} {R : PySem.W.WRecords} {cl : Str → Option Addr} {d0 : WData}
    (KX : K.In s₁.heap) (hns : s₁.heap.Ns mainGlobals mg) (hb : s₁.heap.Ns builtinsNs mb) (hbb : ∀ x : Str, x ≠ "__name__" → mb x = bootBuiltins x) (hlim : s₁.heap.NoLimit) (hg : s₁.gens = #[])
    (hwl : WellAll w.params s₁.heap vals ds) (hpl : plWs ds = true) (hwt : ∀ d ∈ ds, d.weight ≤ 1048576) (hr : Room k callerA)
    (F : ∀ base : Heap, K.In base → base.Ns mainGlobals mg → FnOk P w K mg base CX k fa fd ps sp) (hbind : ∀ (s : Shared) (us : List Value), us.length = ps.length → BindsTo s fd ⟨us, []⟩ (ps.zip us)) (hlen : ds.length = ps.length)
    (hsp : ∀ (H : Hp) (xs : List V), OnlyF H → DwAll K H xs ds → sp xs H (fun v H' => Dw K H' v d0) fun _ _ _ => False)
    (hCX : ∀ H e s', CX [] H s₁ (fun _ _ _ => False) e s' → False) :
    codeAny (model P w) callerA (.call (.ref fa) ⟨vals, []⟩) (fun r s' => ∃ u as, r = .ok (.ret u) ∧ ReadsW R cl s'.heap u d0 as ∧ OldK s₁.heap s'.heap ∧ s'.os = s₁.os ∧ AllBare s'.gens) s₁ := by
  obtain ⟨A, ho, ar⟩ := area_all ds vals hwl hpl hwt
  have hO : OnlyF (argH K s₁.heap A) := argH_only ar
  have hok : HOk P w (argH K s₁.heap A) s₁.heap := argH_ok ar
  have hS := dw_all KX ar ds vals hwl hpl ho
  have hV := vals_toV ho
  have hK : ∀ b u, argH K s₁.heap A b = some u → K.lookup b = none := fun b u q => (argH_is ar q).1
  have noA : ∀ {b : Addr} {o : Obj} {es : Array DictEntry} {ep : Nat}, s₁.heap.get? b = some o → o.data = .dict es ep → argH K s₁.heap A b = none := fun {b o es ep} e d => by
    cases q : argH K s₁.heap A b with
    | none => rfl
    | some u =>
      obtain ⟨_, vs, _, _, ⟨e2, _⟩ | ⟨e2, _⟩⟩ := argH_is ar q
      · rw [e2] at e
        cases e
        have d' : Data.seq vs.toArray _ = Data.dict es ep := d
        cases d'
      · rw [e2] at e
        cases e
        have d' : Data.seq vs.toArray _ = Data.dict es ep := d
        cases d'
  generalize argH K s₁.heap A = H at hO hok hS hK noA
  have base_of : ∀ {b : Addr} {o : Obj}, s₁.heap.get? b = some o → H b = none → (hidT s₁.heap H).get? b = some o := fun e n => hidT_get e n
  have nsK : ∀ {b : Addr} {m : Str → Option Value}, s₁.heap.Ns b m → (hidT s₁.heap H).Ns b m := fun {b m} ⟨o, es, ep, e, d, r⟩ => ⟨o, es, ep, base_of e (noA e d), d, r⟩
  have nK : ∀ b o, K.lookup b = some o → H b = none := fun b o e => by
    cases q : H b with
    | none => rfl
    | some u =>
      rw [hK b u q] at e
      cases e
  have hKb : K.In (hidT s₁.heap H) := fun b o e => base_of (KX b o e) (nK b o e)
  have hM : Mod K mg (hidT s₁.heap H) := ⟨hKb, nsK hns, ⟨mb, nsK hb, hbb⟩, let ⟨mc, h1, h2⟩ := hlim; ⟨mc, nsK h1, h2⟩⟩
  have e0 : Env0 P w K mg (hidT s₁.heap H) callerA [] s₁ H := ⟨rfl, hM, fun b o e => of_hidT e, Nat.le_of_eq (hidT_size _ _), trivial, fun b hb => absurd (show b ∈ ([] : List Addr) from hb) (by simp), hok, .of_eq hg⟩
  have hl : vals.length = ps.length := by rw [wellAll_len hwl]; exact hlen
  refine codeAny_mono ((F _ hKb (nsK hns)).run callerA [] s₁ H ⟨vals, []⟩ vals (vals.map toV) _ _ hr e0 (hbind s₁ vals hl) hV (hsp H _ hO hS)) fun r s' x => ?_
  cases r with
  | error e => exact (hCX H e s' x).elim
  | ok fl =>
    cases fl with
    | next => exact False.elim x
    | brk => exact False.elim x
    | cont => exact False.elim x
    | ret u =>
      obtain ⟨v, H', os, bare, un, hok', r', q⟩ := x
      have kept : ∀ b o, s₁.heap.get? b = some o → s'.heap.get? b = some o := fun b o e => by
        cases q2 : H b with
        | none => exact un.keep b o e q2 (by intro z; exact absurd (show b ∈ ([] : List Addr) from z) (by simp)) (by simp)
        | some u2 =>
          rcases hO b with z | ⟨ob, u3, z⟩
          · rw [q2] at z
            cases z
          · have z2 := un.frzs b ob _ z
            obtain ⟨e1, _⟩ := hok b _ z
            obtain ⟨e2, _⟩ := hok' b _ z2
            rw [e] at e1
            cases e1
            exact e2
      have KX' : K.In s'.heap := fun b o e => kept b o (KX b o e)
      obtain ⟨as, hrd⟩ := Dw.reads (R := R) (cl := cl) hok' KX' d0 v u q r'
      exact ⟨u, as, rfl, hrd, OldK.of_keep kept, os, bare⟩
theorem layable_weight {ds : List WData} (h : WData.layableAll ds = true) : ∀ d ∈ ds, d.weight ≤ 1048576 := fun d hd =>
  (PySem.W.layableW_iff.mp (List.all_eq_true.mp h d hd)).2.2
theorem encAll_len : ∀ (cs : List Codec) (a : Codec.denoteAll cs), (Codec.encAll cs a).length = cs.length
  | [], _ => rfl
  | c :: cs, a => by
    show (Codec.encAll cs a.2).length + 1 = cs.length + 1
    rw [encAll_len cs a.2]
theorem walk_spec {r : OpenSpec} {k : Nat} {q : Program} {loose : List Str} {XP : (Str → Option Value) → Heap → Prop} {YP : World → Heap → Prop} {d : DefRec} {K : Params → PySem.W.Frag} {CX : World → CXT} {ps : List Str} {sp : World → Sp}
    (hwell : r.wellSaid = true) (hdf : d.params.defaults = []) (hlen : r.args.length = ps.length) (hr : Room k callerA)
    (hY : ∀ (w : World) (h : Heap), YP w h → (K w.params).In h)
    (F : ∀ (w : World) (mg : Str → Option Value) (fa : Addr) (h : Heap), YP w h → (K w.params).In h → h.Ns mainGlobals mg → mg d.name = some (.ref fa) →
      ∃ fd : FuncData, (∀ (s : Shared) (us : List Value), us.length = ps.length → BindsTo s fd ⟨us, []⟩ (ps.zip us)) ∧
        ∀ base : Heap, (K w.params).In base → base.Ns mainGlobals mg → FnOk r.prog w (K w.params) mg base (CX w) k fa fd ps (sp w))
    (hsp : ∀ (w : World) (H : Hp) (xs : List V) (a : Codec.denoteAll r.args), OnlyF H → Codec.withinAll r.args a = true → Codec.app r.args r.asked a = true → DwAll (K w.params) H xs (Codec.encAll r.args a) →
      sp w xs H (fun v H' => Dw (K w.params) H' v (r.ret.enc (Codec.app r.args r.f a))) fun _ _ _ => False)
    (hCX : ∀ (w : World) (H : Hp) (s : Shared) (e : Value) (s' : Shared), CX w [] H s (fun _ _ _ => False) e s' → False) :
    PySem.W.WalkOS q loose XP YP r d [] (fun f vs => PySem.call f vs) := by
  intro w s_0 s₁ mg mb G Y fa o pm cd doc dV kV ho hd hcd hD hmg hg args vals as hpre hlay hrd hwl hlo
  obtain ⟨a, e1, e2⟩ := PySem.W.os_pre_some hpre
  obtain ⟨e3, hwi⟩ := Codec.encAll_of_decAll r.args args a e1
  subst e3
  have KX := hY w _ Y
  obtain ⟨fd, hb, hF⟩ := F w mg fa _ Y KX G.T.g hmg
  refine PySem.W.enter_call (codeAny_mono (spec_call (R := []) (cl := classAt s_0.heap) (d0 := r.ret.enc (Codec.app r.args r.f a)) KX G.T.g G.T.b G.T.builtins G.T.nolimit hg hwl (pl_encAll _ _) (layable_weight hlay) hr hF hb (by rw [encAll_len]; exact hlen)
    (fun H xs hO hS => hsp w H xs a hO hwi e2 hS) fun H e s' => hCX w H s₁ e s') fun r' s' hq => ?_)
  obtain ⟨u, as', rfl, h1, h2, h3, h4⟩ := hq
  exact ⟨.inl ⟨u, _, as', rfl, fun _ => rfl, h1, (OpenSpec.post_iff hwell hwi _ _).mpr rfl, fun z => Bool.noConfusion (show false = true from z)⟩, h2, h3, h4⟩
theorem walk_specK {r : OpenSpec} {k : Nat} {q : Program} {loose : List Str} {XP : (Str → Option Value) → Heap → Prop} {YP : World → Heap → Prop} {d : DefRec} {K : Params → PySem.W.Frag} {CX : CXT} {ps : List Str} {sp : PySem.W.Frag → Sp}
    (hwell : r.wellSaid = true) (hdf : d.params.defaults = []) (hlen : r.args.length = ps.length) (hr : Room k callerA)
    (hY : ∀ (w : World) (h : Heap), YP w h → (K w.params).In h)
    (F : ∀ (w : World) (mg : Str → Option Value) (fa : Addr) (h : Heap), YP w h → (K w.params).In h → h.Ns mainGlobals mg → mg d.name = some (.ref fa) →
      ∃ fd : FuncData, (∀ (s : Shared) (us : List Value), us.length = ps.length → BindsTo s fd ⟨us, []⟩ (ps.zip us)) ∧
        ∀ base : Heap, (K w.params).In base → base.Ns mainGlobals mg → FnOk r.prog w (K w.params) mg base CX k fa fd ps (sp (K w.params)))
    (hsp : ∀ (K : PySem.W.Frag) (H : Hp) (xs : List V) (a : Codec.denoteAll r.args), OnlyF H → Codec.withinAll r.args a = true → Codec.app r.args r.asked a = true → DwAll K H xs (Codec.encAll r.args a) →
      sp K xs H (fun v H' => Dw K H' v (r.ret.enc (Codec.app r.args r.f a))) fun _ _ _ => False)
    (hCX : ∀ (H : Hp) (s : Shared) (e : Value) (s' : Shared), CX [] H s (fun _ _ _ => False) e s' → False) :
    PySem.W.WalkOS q loose XP YP r d [] (fun f vs => PySem.call f vs) :=
  walk_spec (K := K) (CX := fun _ => CX) (sp := fun w => sp (K w.params)) hwell hdf hlen hr hY F (fun w H xs a h1 h2 h3 h4 => hsp (K w.params) H xs a h1 h2 h3 h4) fun _ H s e s' => hCX H s e s'
end L2
set_option Elab.async false
set_option linter.all false
set_option maxRecDepth 100000
/-! My own additions to the hand layer: calls with their text facts put together, list.count, xs[i] read by values. -/
namespace Ta
open PySem PySem.Spec PyProof.Rows L2

/-- a def of the text that may be called by its name: k levels of room, its promise -/
def Cal (P : Program) (w : World) (K : PySem.W.Frag) (mg : Str → Option Value) (base : Heap) (k : Nat) (x : Str) (ps : List Str) (sp : Sp) : Prop :=
  ∃ (f : Addr) (fd : FuncData), mg x = some (.ref f) ∧ PySem.W.keepIn K (.ref f) = true ∧ Binds K fd ps [] ∧ FnOk P w K mg base CX0 k f fd ps sp
/-- a method -/
def MCal (P : Program) (w : World) (K : PySem.W.Frag) (mg : Str → Option Value) (base : Heap) (C : Addr) (k : Nat) (m : Str) (ps : List Str) (sp : Sp) : Prop :=
  ∃ (f : Addr) (fd : FuncData), Cls K C ∧ Meth K C m f ∧ Binds K fd ps [] ∧ FnOk P w K mg base CX0 k f fd ps sp
/-- a class that may be called -/
def NCal (P : Program) (w : World) (K : PySem.W.Frag) (mg : Str → Option Value) (base : Heap) (C : Addr) (k : Nat) (x : Str) (ps : List Str) (sp : Sp) : Prop :=
  ∃ (f : Addr) (fd : FuncData), Mk K C f ∧ mg x = some (.ref C) ∧ Binds K fd ps [] ∧ FnOk P w K mg base CX0 k f fd ps sp
section
variable {X : Cx} {k : Nat} {C : Addr} {ps : List Str} {sp : Sp} {x m : Str} {p pos apos : Pos} {e o : Expr} {es : List Expr} {ta : TE} {t : TA}
theorem pe_fn (c : Cal X.prog X.w X.K X.mg X.base k x ps sp) (hr : Room k X.A) (ha : PA X (e :: es) t) (hg : Gl X x := by rfl)
    (hdb : (x == ("__debug__" : Str)) = false := by decide) (he : starEach (e :: es) X.env = (false, eval e X.env) :: starEach es X.env := by rfl) (hpl : (backTo pos (starEach es X.env)).any (·.1) = false := by rfl) :
    PE X (.Call (.Name x p) (e :: es) [] pos) (tCall sp [] E0 t) := by
  obtain ⟨f, fd, h1, h2, h3, h4⟩ := c
  exact pe_call h4 hr hg h1 h2 h3 .nil pass0 ha hdb he hpl
theorem pe_me {pl : Sem Bool} (c : MCal X.prog X.w X.K X.mg X.base C k m ps sp) (ho : PE X o ta) (hr : Room k X.A) (ha : PA X (e :: es) t)
    (hst : starEach (e :: es) X.env = (false, eval e X.env) :: starEach es X.env := by rfl) (hpl : (backTo pos (starEach es X.env)).any (·.1) = false := by rfl)
    (ht : eval (.Call (.Attribute o m apos) (e :: es) [] pos) X.env = (do
      let ov ← eval o X.env
      standAt apos.atName
      let (f, first) ← holding [ov] (getMethod ov m pl)
      callWith pos f first (backTo pos (starEach (e :: es) X.env)) (backToKw pos (keywordEach [] X.env))) := by rfl) :
    PE X (.Call (.Attribute o m apos) (e :: es) [] pos) (tMeth C m sp [] E0 ta t) := by
  obtain ⟨f, fd, h1, h2, h3, h4⟩ := c
  exact pe_meth ho h1 h2 h4 hr h3 .nil pass0 ha hst hpl ht
theorem pe_me0 {pl : Sem Bool} (c : MCal X.prog X.w X.K X.mg X.base C k m ps sp) (ho : PE X o ta) (hr : Room k X.A)
    (ht : eval (.Call (.Attribute o m apos) [] [] pos) X.env = (do
      let ov ← eval o X.env
      standAt apos.atName
      let (f, first) ← holding [ov] (getMethod ov m pl)
      callWith pos f first (backTo pos (starEach [] X.env)) (backToKw pos (keywordEach [] X.env))) := by rfl) :
    PE X (.Call (.Attribute o m apos) [] [] pos) (tMeth C m sp [] E0 ta tNil) := by
  obtain ⟨f, fd, h1, h2, h3, h4⟩ := c
  exact pe_meth0 ho h1 h2 h4 hr h3 .nil pass0 ht
theorem pe_mk (c : NCal X.prog X.w X.K X.mg X.base C k x ps sp) (hr : Room (k + 1) X.A) (ha : PA X (e :: es) t) (hg : Gl X x := by rfl)
    (hdb : (x == ("__debug__" : Str)) = false := by decide) (he : starEach (e :: es) X.env = (false, eval e X.env) :: starEach es X.env := by rfl) (hpl : (backTo pos (starEach es X.env)).any (·.1) = false := by rfl) :
    PE X (.Call (.Name x p) (e :: es) [] pos) (tMake C sp [] E0 t) := by
  obtain ⟨f, fd, h1, h2, h3, h4⟩ := c
  exact pe_make h1 h4 hr hg h2 h3 .nil pass0 ha hdb he hpl
theorem pe_mk0 (c : NCal X.prog X.w X.K X.mg X.base C k x ps sp) (hr : Room (k + 1) X.A) (hg : Gl X x := by rfl)
    (hdb : (x == ("__debug__" : Str)) = false := by decide) :
    PE X (.Call (.Name x p) [] [] pos) (tMake C sp [] E0 tNil) := by
  obtain ⟨f, fd, h1, h2, h3, h4⟩ := c
  exact pe_make0 h1 h4 hr hg h2 h3 .nil pass0 hdb
/-- a whole number of the module's top -/
theorem pe_gi {i : Int} (hm : ∃ t, X.mg x = some (.int i t)) (hg : Gl X x := by rfl) (hd : (x == ("__debug__" : Str)) = false := by decide) : PE X (.Name x pos) (tC (.int i)) := by
  obtain ⟨t, h⟩ := hm
  exact pe_glob hg h ⟨t, rfl⟩ hd
/-- an object of the module's top -/
theorem pe_gr {a : Addr} (hm : X.mg x = some (.ref a)) (hg : Gl X x := by rfl) (hd : (x == ("__debug__" : Str)) = false := by decide) : PE X (.Name x pos) (tC (.ref a)) :=
  pe_glob (v := .ref a) hg hm rfl hd
end
section
variable {X : Cx}
/-- xs.count(n), ints -/
def rCount (K : PySem.W.Frag) : V → List V → Hp → VK → Prop := fun x vs H Q => ∃ (a : Addr) (ns : List Int) (n : Int), x = .ref a ∧ vs = [.int n] ∧ SqL K H a (ns.map V.int) ∧ Q (.int (ns.count n : Nat)) H
theorem mt_countI : MtR X "list.count" (rCount X.K) := by
  intro pins s σ H x xs v us Q I rx rxs h
  obtain ⟨a, ns, n, rfl, rfl, hs, q⟩ := h
  cases rx
  cases rxs with
  | cons ry rt =>
    cases rt
    obtain ⟨t, rfl⟩ := ry
    obtain ⟨its, rv, pl, hlen⟩ := I.list hs
    exact count_list_ints pl.isList rv.ints ⟨.int _, H, I.tok _, ⟨_, rfl⟩, q⟩
/-- xs[i] by values, 0 ≤ i -/
def gIxL (K : PySem.W.Frag) : V → V → Hp → VK → Prop := fun x y H Q => ∃ (p : Addr) (xs : List V) (j : Nat) (v : V), x = .ref p ∧ y = .int (j : Int) ∧ SqL K H p xs ∧ xs[j]? = some v ∧ Q v H
theorem get_list : PGet X (gIxL X.K) := by
  intro pins s σ H o i ov iv Q I ro ri h
  obtain ⟨p, xs, j, v, rfl, rfl, hq, he, q⟩ := h
  cases ro
  obtain ⟨t, rfl⟩ := ri
  obtain ⟨its, r, pl, hz⟩ := I.list hq
  obtain ⟨w, ew, rw'⟩ := r.get he
  have hn := line63
  have hl := r.length
  have hj : j < xs.length := (List.getElem?_eq_some_iff.mp he).1
  exact wpAny_getItem_list pl.isList (by omega) (by omega) (by simpa using ew) ⟨v, H, I, rw', q⟩
end
end Ta

set_option Elab.async false
set_option linter.all false
set_option maxRecDepth 100000
/-! Plain facts about the specification: rows in order, the least best answer, what plans win. -/
namespace Tm
open Su172
theorem rows_zero (k : Nat) : rows k 0 = [[]] := rfl
theorem rows_succ (k n : Nat) : rows k (n + 1) = (List.range k).flatMap fun c => (rows k n).map fun l => c :: l := rfl
/-- the rows, grown at their end -/
theorem rows_snoc (k : Nat) : ∀ n : Nat, rows k (n + 1) = (rows k n).flatMap fun l => (List.range k).map fun c => l ++ [c]
  | 0 => by
    rw [rows_succ, rows_zero]
    simp only [List.map_cons, List.map_nil, List.flatMap_cons, List.flatMap_nil, List.append_nil, List.nil_append]
    generalize List.range k = l
    induction l with
    | nil => rfl
    | cons a l ih => rw [List.flatMap_cons, ih]; rfl
  | n + 1 => by
    have e : (rows k (n + 1)).flatMap (fun l => (List.range k).map fun c => l ++ [c]) = ((List.range k).flatMap fun c => (rows k n).map fun l => c :: l).flatMap (fun l => (List.range k).map fun c => l ++ [c]) := rfl
    rw [e, rows_succ k (n + 1), rows_snoc k n, List.flatMap_assoc]
    congr 1
    funext c
    rw [List.map_flatMap, List.flatMap_map]
    congr 1
    funext l
    rw [List.map_map]
    rfl
theorem mem_rows {k : Nat} : ∀ {n : Nat} {l : List Nat}, l ∈ rows k n ↔ l.length = n ∧ ∀ v ∈ l, v < k
  | 0, l => by
    rw [rows_zero, List.mem_singleton]
    constructor
    · rintro rfl; simp
    · rintro ⟨h, _⟩; exact List.eq_nil_of_length_eq_zero h
  | n + 1, l => by
    rw [rows_succ, List.mem_flatMap]
    constructor
    · rintro ⟨c, hc, h⟩
      rw [List.mem_map] at h
      obtain ⟨r, hr, rfl⟩ := h
      have := mem_rows.mp hr
      rw [List.mem_range] at hc
      refine ⟨by simp [this.1], fun v hv => ?_⟩
      rcases List.mem_cons.mp hv with rfl | hv
      · exact hc
      · exact this.2 v hv
    · rintro ⟨h1, h2⟩
      cases l with
      | nil => simp at h1
      | cons c r =>
        refine ⟨c, List.mem_range.mpr (h2 c (List.mem_cons_self ..)), List.mem_map.mpr ⟨r, mem_rows.mpr ⟨by simpa using h1, fun v hv => h2 v (List.mem_cons_of_mem _ hv)⟩, rfl⟩⟩
theorem rows_length (k : Nat) : ∀ n : Nat, (rows k n).length = k ^ n
  | 0 => rfl
  | n + 1 => by
    rw [rows_snoc, List.length_flatMap]
    have : ((rows k n).map fun l => ((List.range k).map fun c => l ++ [c]).length) = (rows k n).map fun _ => k := by
      congr 1; funext l; simp
    rw [this, List.map_const', List.sum_replicate_nat, rows_length k n, Nat.pow_succ]
/-! ### the least best place -/
theorem most_go {v : Nat → Nat} : ∀ (n : Nat), (List.range (n + 1)).foldl (fun m i => if v m < v i then i else m) 0 < n + 1 ∧
    (∀ i, i < n + 1 → v i ≤ v ((List.range (n + 1)).foldl (fun m i => if v m < v i then i else m) 0)) ∧
    ∀ i, i < (List.range (n + 1)).foldl (fun m i => if v m < v i then i else m) 0 → v i < v ((List.range (n + 1)).foldl (fun m i => if v m < v i then i else m) 0)
  | 0 => by
    have e : (List.range 1).foldl (fun m i => if v m < v i then i else m) 0 = 0 := by
      show (if v 0 < v 0 then 0 else 0) = 0
      rw [if_neg (Nat.lt_irrefl _)]
    rw [e]
    exact ⟨by omega, fun i hi => by rw [show i = 0 by omega]; exact Nat.le_refl _, fun i hi => by omega⟩
  | n + 1 => by
    obtain ⟨h1, h2, h3⟩ := most_go (v := v) n
    rw [List.range_succ, List.foldl_append]
    generalize (List.range (n + 1)).foldl (fun m i => if v m < v i then i else m) 0 = m at h1 h2 h3
    show (if v m < v (n + 1) then n + 1 else m) < n + 1 + 1 ∧ _
    show _ ∧ (∀ i, i < n + 1 + 1 → v i ≤ v (if v m < v (n + 1) then n + 1 else m)) ∧ ∀ i, i < (if v m < v (n + 1) then n + 1 else m) → v i < v (if v m < v (n + 1) then n + 1 else m)
    by_cases h : v m < v (n + 1)
    · rw [if_pos h]
      refine ⟨by omega, fun i hi => ?_, fun i hi => ?_⟩
      · rcases Nat.lt_or_ge i (n + 1) with q | q
        · exact Nat.le_of_lt (Nat.lt_of_le_of_lt (h2 i q) h)
        · rw [show i = n + 1 by omega]; exact Nat.le_refl _
      · exact Nat.lt_of_le_of_lt (h2 i hi) h
    · rw [if_neg h]
      refine ⟨by omega, fun i hi => ?_, h3⟩
      rcases Nat.lt_or_ge i (n + 1) with q | q
      · exact h2 i q
      · rw [show i = n + 1 by omega]; omega
theorem most_lt {n : Nat} {v : Nat → Nat} (h : 0 < n) : most n v < n := by
  obtain ⟨m, rfl⟩ : ∃ m, n = m + 1 := ⟨n - 1, by omega⟩
  exact (most_go m).1
theorem most_le {n : Nat} {v : Nat → Nat} {i : Nat} (h : i < n) : v i ≤ v (most n v) := by
  obtain ⟨m, rfl⟩ : ∃ m, n = m + 1 := ⟨n - 1, by omega⟩
  exact (most_go m).2.1 i h
theorem most_first {n : Nat} {v : Nat → Nat} {i : Nat} (hn : 0 < n) (h : i < most n v) : v i < v (most n v) := by
  obtain ⟨m, rfl⟩ : ∃ m, n = m + 1 := ⟨n - 1, by omega⟩
  exact (most_go m).2.2 i h
/-- the first of a list's greatest: its place -/
def topN (l : List Nat) : Nat := most l.length fun i => l.getD i 0
/-- .. and how much it is -/
def topV (l : List Nat) : Nat := l.getD (topN l) 0
theorem topN_range (n : Nat) (v : Nat → Nat) : topN ((List.range n).map v) = most n v := by
  unfold topN most
  rw [List.length_map, List.length_range]
  have : ∀ (r : List Nat) (m : Nat), (∀ i ∈ r, i < n) → (m < n ∨ r = []) → r.foldl (fun m i => if ((List.range n).map v).getD m 0 < ((List.range n).map v).getD i 0 then i else m) m = r.foldl (fun m i => if v m < v i then i else m) m := by
    intro r
    induction r with
    | nil => intros; rfl
    | cons a r ih =>
      intro m h1 h2
      have hm : m < n := by rcases h2 with h | h; exact h; cases h
      have ha : a < n := h1 a (List.mem_cons_self ..)
      rw [List.foldl_cons, List.foldl_cons]
      have e1 : ((List.range n).map v).getD m 0 = v m := by simp [List.getD, hm]
      have e2 : ((List.range n).map v).getD a 0 = v a := by simp [List.getD, ha]
      rw [e1, e2]
      refine ih _ (fun i hi => h1 i (List.mem_cons_of_mem _ hi)) (.inl ?_)
      by_cases q : v m < v a
      · rw [if_pos q]; exact ha
      · rw [if_neg q]; exact hm
  refine this _ 0 (fun i hi => List.mem_range.mp hi) ?_
  cases n with
  | zero => exact .inr rfl
  | succ n => exact .inl (by omega)
theorem topV_range {n : Nat} (hn : 0 < n) (v : Nat → Nat) : topV ((List.range n).map v) = v (most n v) := by
  unfold topV
  rw [topN_range]
  simp [List.getD, most_lt (v := v) hn]
theorem topN_lt {l : List Nat} (h : 0 < l.length) : topN l < l.length := most_lt h
theorem topV_le {l : List Nat} {a : Nat} (h : a ∈ l) : a ≤ topV l := by
  obtain ⟨i, hi, rfl⟩ := List.mem_iff_getElem.mp h
  have h2 := most_le (n := l.length) (v := fun i => l.getD i 0) hi
  have e : l.getD i 0 = l[i] := by simp [List.getD, hi]
  rw [← e]
  exact h2
theorem topN_get {l : List Nat} (h : 0 < l.length) : l[topN l]? = some (topV l) := by
  have := topN_lt h
  unfold topV
  simp [List.getD, this]
theorem topN_first {l : List Nat} {m a : Nat} (h : m < topN l) (hl : 0 < l.length) (ha : l[m]? = some a) : a < topV l := by
  have q := most_first (n := l.length) (v := fun i => l.getD i 0) hl h
  have : l.getD m 0 = a := by simp [List.getD, ha]
  rw [← this]; exact q
/-! ### what rows win -/
def winsOf (G : List (List Nat)) : List Nat := G.foldl (fun tot gain => tot.flatMap fun t => gain.map (t + ·)) [0]
theorem winsOf_rows (B : Nat) (v : Nat → Nat → Nat) : ∀ Y : Nat, winsOf ((List.range Y).map fun y => (List.range B).map (v y)) = (rows B Y).map fun h => ((List.range Y).map fun y => v y (h.getD y 0)).sum
  | 0 => rfl
  | Y + 1 => by
    rw [List.range_succ, List.map_append, winsOf, List.foldl_append]
    show List.foldl _ (winsOf _) _ = _
    rw [winsOf_rows B v Y, List.map_cons, List.map_nil, List.foldl_cons, List.foldl_nil, rows_snoc, List.flatMap_map, List.map_flatMap]
    have : ∀ (L : List (List Nat)), (∀ l ∈ L, l.length = Y) → (L.flatMap fun a => ((List.range B).map (v Y)).map fun x => ((List.range Y).map fun y => v y (a.getD y 0)).sum + x) =
        L.flatMap fun b => ((List.range B).map fun c => b ++ [c]).map fun h => (((List.range Y).map fun y => v y (h.getD y 0)) ++ [v Y (h.getD Y 0)]).sum := by
      intro L
      induction L with
      | nil => intros; rfl
      | cons a L ih =>
        intro hl
        rw [List.flatMap_cons, List.flatMap_cons, ih fun l hm => hl l (List.mem_cons_of_mem _ hm)]
        congr 1
        rw [List.map_map, List.map_map]
        apply List.map_congr_left
        intro c hc
        have ha := hl a (List.mem_cons_self ..)
        simp only [Function.comp]
        rw [List.sum_append, List.sum_singleton]
        congr 1
        · congr 1
          apply List.map_congr_left
          intro y hy
          rw [List.mem_range] at hy
          congr 1
          simp [List.getD, List.getElem?_append_left (show y < a.length by omega)]
        · congr 1
          rw [← ha]
          simp [List.getD]
    rw [this _ fun l hm => (mem_rows.mp hm).1]
    congr 1
    funext b
    apply List.map_congr_left
    intro c hc
    rw [List.map_append]
    rfl
end Tm

set_option Elab.async false
set_option linter.all false
set_option maxRecDepth 100000
set_option maxHeartbeats 2000000
namespace L2
open PySem PySem.Spec PyProof.Rows
theorem Same.upd_new {H H' : Hp} {p : Addr} {o : HO} (s : Same H H') (h : H' p = none) : Same H (upd H' p o) := fun b u e => by
  rw [upd_ne (ne_of_none (s b u e) h)]
  exact s b u e
theorem Same.upd_free {H H' : Hp} {p : Addr} {o : HO} (s : Same H H') (h : H p = none) : Same H (upd H' p o) := fun b u e => by
  rw [upd_ne (ne_of_none e h)]
  exact s b u e
theorem Same.new {H : Hp} {p : Addr} {o : HO} (h : H p = none) : Same H (upd H p o) := (Same.refl H).upd_new h
theorem Same.seqT {K : PySem.W.Frag} {H H' : Hp} {a : Addr} {xs : List V} (e : Same H H') (h : SqT K H a xs) : SqT K H' a xs := by
  rcases h with (h | ⟨o, h⟩) | h
  · exact .inl (.inl (e _ _ h))
  · exact .inl (.inr ⟨o, e _ _ h⟩)
  · exact .inr h
theorem Same.rd {H H' : Hp} {a : Addr} {u : HO} (e : Same H H') (h : Rd H a u) : Rd H' a u := by
  rcases h with h | ⟨o, h⟩
  · exact .inl (e _ _ h)
  · exact .inr ⟨o, e _ _ h⟩
end L2
namespace Ta
open PySem PySem.Spec PyProof.Rows L2
/-- all but what stands at D is as it was -/
def But (D : Addr) (H H' : Hp) : Prop := ∀ b o, b ≠ D → H b = some o → H' b = some o
theorem But.same {D : Addr} {H H' : Hp} (h : But D H H') (n : H D = none) : Same H H' := fun b o e => h b o (ne_of_none e n) e
theorem _root_.L2.Same.but {D : Addr} {H H' : Hp} (h : Same H H') : But D H H' := fun b o _ e => h b o e
theorem But.trans {D : Addr} {H H' H'' : Hp} (a : But D H H') (b : But D H' H'') : But D H H'' := fun c o n e => b c o n (a c o n e)
theorem But.upd {D : Addr} {H : Hp} {o : HO} : But D H (upd H D o) := fun b u n e => by rw [upd_ne n]; exact e
theorem But.seq {K : PySem.W.Frag} {D : Addr} {H H' : Hp} {a : Addr} {xs : List V} (e : But D H H') (n : a ≠ D) (h : SqL K H a xs) : SqL K H' a xs := by
  rcases h with (h | ⟨o, h⟩) | h
  · exact .inl (.inl (e _ _ n h))
  · exact .inl (.inr ⟨o, e _ _ n h⟩)
  · exact .inr h
theorem But.same' {D : Addr} {H1 H H' : Hp} (b : But D H H') (s : Same H1 H) (hD : H1 D = none) : Same H1 H' := fun c o e => b c o (ne_of_none e hD) (s c o e)
theorem set_twice {α : Type} (l : List α) (i : Nat) (a b : α) : (l.set i a).set i b = l.set i b := by
  rw [List.set_set]
/-- [elt for x in range(..)], one name: each item as R says; the heap grows -/
theorem lc_range1 {lo : Int} {n j : Nat} {te : TE} {σ : L2.St} {H1 : Hp} {D : Addr} {Qd : Hp → Prop} (hD : H1 D = none) (hn : n < sizeLine) (R : Nat → V → Hp → Prop)
    (mono : ∀ i y H H', But D H H' → R i y H → R i y H')
    (hs : ∀ i H (Q' : VK), i < n → Same H1 H → (∃ ys, H D = some (.lst ys)) → (∀ y H4, Same H H4 → R i y H4 → Q' y H4) → te ((σ.set j none).set j (some (.int (lo + i)))) H Q')
    (hd : ∀ H ys, Same H1 H → H D = some (.lst ys) → ys.length = n → (∀ i y, ys[i]? = some y → R i y H) → Qd H) :
    ∃ W : Nat → Nat → Hp → Prop, (∃ m, W 0 m (upd H1 D (.lst []))) ∧ ∀ i m H, W i m H →
      ((Itr lo n).stop i H ∧ Qd H) ∨ ((Itr lo n).go i H ∧ ∃ Nx : Hp → Prop, (∀ H', Nx H' → ∃ m', m' < m ∧ W (i + 1) m' H') ∧ ∀ x H', (Itr lo n).yld i H x H' → gName j x (wipe σ [j]) H' fun σ2 H2 => wipe σ2 [j] = wipe σ [j] ∧ tYes σ2 H2 fun b H3 =>
        if b = true then te σ2 H3 fun y H4 => ∃ acc, H4 D = some (.lst acc) ∧ acc.length < sizeLine ∧ Nx (upd H4 D (.lst (acc ++ [y]))) else Nx H3) := by
  refine lc_range (Pv := fun i H => Same H1 H ∧ ∃ ys, H D = some (.lst ys) ∧ ys.length = i ∧ ∀ i y, ys[i]? = some y → R i y H) ⟨.new hD, [], upd_same, rfl, by simp⟩ ?_ ?_
  · rintro i H hi ⟨sm, ys, hy, hl, hR⟩
    refine ⟨?_, ?_⟩
    · show ((σ.set j none).set j _).set j none = σ.set j none
      rw [set_twice, set_twice]
    · refine hs i H _ hi sm ⟨_, hy⟩ fun y H4 s4 r => ⟨ys, s4 _ _ hy, by omega, ?_⟩
      have b4 : But D H (upd H4 D (.lst (ys ++ [y]))) := (s4.but).trans .upd
      refine ⟨b4.same' sm hD, ys ++ [y], upd_same, by simp [hl], fun i' y' h => ?_⟩
      rcases Nat.lt_or_ge i' ys.length with q | q
      · rw [List.getElem?_append_left q] at h
        exact mono _ _ _ _ b4 (hR i' y' h)
      · rw [List.getElem?_append_right q] at h
        have e : i' - ys.length = 0 := by
          rcases Nat.eq_zero_or_pos (i' - ys.length) with z | z
          · exact z
          · rw [List.getElem?_eq_none (by simp; omega)] at h; cases h
        rw [e] at h
        obtain rfl : y = y' := by simpa using h
        rw [show i' = i by omega]
        exact mono _ _ _ _ .upd r
  · rintro H ⟨sm, ys, hy, hl, hR⟩
    exact hd H ys sm hy hl hR
/-- [elt for x in xs], one name, a list that stays -/
theorem lc_list1 {K : PySem.W.Frag} {a : Addr} {xs : List V} {j : Nat} {te : TE} {σ : L2.St} {H1 : Hp} {D : Addr} {Qd : Hp → Prop} (hD : H1 D = none) (hn : xs.length < sizeLine) (hl : SqL K H1 a xs) (R : Nat → V → Hp → Prop)
    (mono : ∀ i y H H', But D H H' → R i y H → R i y H')
    (hs : ∀ i x H (Q' : VK), xs[i]? = some x → Same H1 H → (∃ ys, H D = some (.lst ys)) → (∀ y H4, Same H H4 → R i y H4 → Q' y H4) → te ((σ.set j none).set j (some x)) H Q')
    (hd : ∀ H ys, Same H1 H → H D = some (.lst ys) → ys.length = xs.length → (∀ i y, ys[i]? = some y → R i y H) → Qd H) :
    ∃ W : Nat → Nat → Hp → Prop, (∃ m, W 0 m (upd H1 D (.lst []))) ∧ ∀ i m H, W i m H →
      ((Itl K a).stop i H ∧ Qd H) ∨ ((Itl K a).go i H ∧ ∃ Nx : Hp → Prop, (∀ H', Nx H' → ∃ m', m' < m ∧ W (i + 1) m' H') ∧ ∀ x H', (Itl K a).yld i H x H' → gName j x (wipe σ [j]) H' fun σ2 H2 => wipe σ2 [j] = wipe σ [j] ∧ tYes σ2 H2 fun b H3 =>
        if b = true then te σ2 H3 fun y H4 => ∃ acc, H4 D = some (.lst acc) ∧ acc.length < sizeLine ∧ Nx (upd H4 D (.lst (acc ++ [y]))) else Nx H3) := by
  refine lc_list (xs := xs) (Pv := fun i H => Same H1 H ∧ ∃ ys, H D = some (.lst ys) ∧ ys.length = i ∧ ∀ i y, ys[i]? = some y → R i y H) ⟨.new hD, [], upd_same, rfl, by simp⟩ (fun i H _ p => p.1.seq hl) ?_ ?_
  · rintro i x H hi ⟨sm, ys, hy, hl, hR⟩
    have hi2 : i < xs.length := (List.getElem?_eq_some_iff.mp hi).1
    refine ⟨?_, ?_⟩
    · show ((σ.set j none).set j _).set j none = σ.set j none
      rw [set_twice, set_twice]
    · refine hs i x H _ hi sm ⟨_, hy⟩ fun y H4 s4 r => ⟨ys, s4 _ _ hy, by omega, ?_⟩
      have b4 : But D H (upd H4 D (.lst (ys ++ [y]))) := (s4.but).trans .upd
      refine ⟨b4.same' sm hD, ys ++ [y], upd_same, by simp [hl], fun i' y' h => ?_⟩
      rcases Nat.lt_or_ge i' ys.length with q | q
      · rw [List.getElem?_append_left q] at h
        exact mono _ _ _ _ b4 (hR i' y' h)
      · rw [List.getElem?_append_right q] at h
        have e : i' - ys.length = 0 := by
          rcases Nat.eq_zero_or_pos (i' - ys.length) with z | z
          · exact z
          · rw [List.getElem?_eq_none (by simp; omega)] at h; cases h
        rw [e] at h
        obtain rfl : y = y' := by simpa using h
        rw [show i' = i by omega]
        exact mono _ _ _ _ .upd r
  · rintro H ⟨sm, ys, hy, hl, hR⟩
    exact hd H ys sm hy hl hR
/-- items that are told by their place -/
theorem items_eq {ys : List V} {n : Nat} {f : Nat → V} (hl : ys.length = n) (h : ∀ (i : Nat) y, ys[i]? = some y → y = f i) : ys = (List.range n).map f := by
  apply List.ext_getElem
  · simp [hl]
  · intro i h1 h2
    rw [List.getElem_map, List.getElem_range]
    exact h i _ (List.getElem?_eq_getElem h1)
theorem items_map {α : Type} {ys : List V} {xs : List α} {f : α → V} (hl : ys.length = xs.length) (h : ∀ (i : Nat) y x, ys[i]? = some y → xs[i]? = some x → y = f x) : ys = xs.map f := by
  apply List.ext_getElem
  · simp [hl]
  · intro i h1 h2
    rw [List.getElem_map]
    exact h i _ _ (List.getElem?_eq_getElem h1) (List.getElem?_eq_getElem (by omega))
end Ta

set_option Elab.async false
set_option linter.all false
set_option maxRecDepth 100000
set_option maxHeartbeats 2000000
namespace Ta
open PySem PySem.Spec PyProof.Rows L2
def top (i : Nat) : Stmt := PySem.Challenge.pw_twoaskedapart_s01_answers.main.body.getD i (.Pass ⟨0, 0, 0, 0⟩)
theorem rep_one (B : Nat) : (List.replicate B [V.int 0]).flatten = (List.range B).map fun b => V.int ((0 : Nat) : Int) := by
  apply List.ext_getElem
  · rw [len_rep]; simp
  · intro i h1 h2
    have : ∀ (B : Nat), (List.replicate B [V.int 0]).flatten = List.replicate B (V.int 0) := by
      intro B
      induction B with
      | zero => rfl
      | succ n ih => rw [List.replicate_succ, List.flatten_cons, ih, List.replicate_succ]; rfl
    simp [this]
theorem ite_cg {α : Type} {p q : Prop} [Decidable p] [Decidable q] {a b c d : α} (h : p ↔ q) (e : a = c) (e' : b = d) : (if p then a else b) = if q then c else d := by
  subst e e'
  by_cases hp : p
  · rw [if_pos hp, if_pos (h.mp hp)]
  · rw [if_neg hp, if_neg fun hq => hp (h.mpr hq)]
end Ta

set_option Elab.async false
set_option linter.all false
set_option maxRecDepth 100000
set_option maxHeartbeats 2000000
namespace Ta
open PySem PySem.Spec PyProof.Rows L2
/-- no name of the module's top hides a built-in that the text calls -/
structure Blt (mg : Str → Option Value) : Prop where
  range : mg "range" = none
  len : mg "len" = none
  all : mg "all" = none
  sum : mg "sum" = none
  max : mg "max" = none
  min : mg "min" = none
  any : mg "any" = none
  list : mg "list" = none
  tuple : mg "tuple" = none
  reversed : mg "reversed" = none
  enumerate : mg "enumerate" = none
def natsV (l : List Nat) : List V := l.map fun (n : Nat) => V.int (n : Int)
theorem natsV_len (l : List Nat) : (natsV l).length = l.length := List.length_map _
theorem natsV_get {l : List Nat} {i n : Nat} (h : l[i]? = some n) : (natsV l)[i]? = some (V.int (n : Int)) := by
  unfold natsV
  rw [List.getElem?_map, h]; rfl
theorem natsV_of {l : List Nat} {i : Nat} {v : V} (h : (natsV l)[i]? = some v) : ∃ n, l[i]? = some n ∧ v = .int (n : Nat) := by
  unfold natsV at h
  rw [List.getElem?_map] at h
  cases e : l[i]? with
  | none => rw [e] at h; cases h
  | some n => rw [e] at h; exact ⟨n, rfl, (Option.some.inj h).symm⟩
theorem natsV_append (l r : List Nat) : natsV (l ++ r) = natsV l ++ natsV r := List.map_append ..
theorem natsV_ints (l : List Nat) : natsV l = (l.map fun (n : Nat) => (n : Int)).map V.int := by
  unfold natsV; rw [List.map_map]; rfl
theorem natsV_all (l : List Nat) : (natsV l).all flatV = true := by
  unfold natsV
  rw [List.all_map, List.all_eq_true]
  intro x _; rfl
theorem last_of {α : Type} {l : List α} {a b : α} {i : Nat} (h : (l ++ [a])[i]? = some b) : (l[i]? = some b) ∨ (i = l.length ∧ b = a) := by
  rcases Nat.lt_or_ge i l.length with q | q
  · rw [List.getElem?_append_left q] at h
    exact .inl h
  · rw [List.getElem?_append_right q] at h
    have e : i - l.length = 0 := by
      rcases Nat.eq_zero_or_pos (i - l.length) with z | z
      · exact z
      · rw [List.getElem?_eq_none (by simp; omega)] at h; cases h
    rw [e] at h
    exact .inr ⟨by omega, by simpa using h.symm⟩
/-- the list at p holds lists, of these numbers -/
structure LR (H : Hp) (p : Addr) (rs : List Addr) (L : List (List Nat)) : Prop where
  lst : H p = some (.lst (rs.map V.ref))
  len : rs.length = L.length
  row : ∀ (i : Nat) r l, rs[i]? = some r → L[i]? = some l → H r = some (.lst (natsV l))
def LL (H : Hp) (p : Addr) (L : List (List Nat)) : Prop := ∃ rs, LR H p rs L
theorem LR.same {H H' : Hp} {p : Addr} {rs : List Addr} {L : List (List Nat)} (T : LR H p rs L) (s : Same H H') : LR H' p rs L :=
  ⟨s _ _ T.lst, T.len, fun i r l a b => s _ _ (T.row i r l a b)⟩
theorem LL.same {H H' : Hp} {p : Addr} {L : List (List Nat)} (T : LL H p L) (s : Same H H') : LL H' p L := let ⟨rs, t⟩ := T; ⟨rs, t.same s⟩
theorem LR.ne {H : Hp} {p r : Addr} {rs : List Addr} {L : List (List Nat)} {i : Nat} (T : LR H p rs L) (h : rs[i]? = some r) : r ≠ p := by
  intro e
  obtain ⟨l, hl⟩ : ∃ l, L[i]? = some l := ⟨_, List.getElem?_eq_getElem (by rw [← T.len]; exact (List.getElem?_eq_some_iff.mp h).1)⟩
  have h1 := T.row i r l h hl
  rw [e, T.lst] at h1
  have h2 : rs.map V.ref = natsV l := by injection h1 with h1; injection h1
  cases rs with
  | nil => simp at h
  | cons c cs =>
    cases l with
    | nil => cases h2
    | cons d ds => cases h2
theorem LR.snoc {H H' : Hp} {p u : Addr} {rs : List Addr} {L : List (List Nat)} {l : List Nat} (T : LR H p rs L) (b : But p H H') (h : H' p = some (.lst (rs.map V.ref ++ [V.ref u]))) (hu : H' u = some (.lst (natsV l))) : LR H' p (rs ++ [u]) (L ++ [l]) := by
  refine ⟨by rw [h, List.map_append]; rfl, by simp [T.len], fun i r l' h1 h2 => ?_⟩
  rcases last_of h1 with q | ⟨q, rfl⟩
  · rcases last_of h2 with q2 | ⟨q2, _⟩
    · exact b _ _ (T.ne q) (T.row i r l' q q2)
    · have := (List.getElem?_eq_some_iff.mp q).1
      rw [T.len] at this
      omega
  · rcases last_of h2 with q2 | ⟨_, rfl⟩
    · have := (List.getElem?_eq_some_iff.mp q2).1
      rw [← T.len] at this
      omega
    · exact hu
theorem LL.nil {H : Hp} {p : Addr} (h : H p = some (.lst [])) : LL H p [] := ⟨[], h, rfl, by simp⟩
/-! ### is_row -/
def spIsRow (K : PySem.W.Frag) : Sp := fun vs H Q _ => ∃ (r : Addr) (l : List Nat) (n k : Nat), vs = [.ref r, .int n, .int k] ∧ SqL K H r (natsV l) ∧ l.length < sizeLine ∧
  ∀ H' : Hp, Same H H' → Q (.bl (Su172.okRow n k l)) H'
section
variable {P : Program} {w : World} {K : PySem.W.Frag} {mg : Str → Option Value} {base : Heap}
abbrev sIsRow : Stmt := top 29
/-- slots: 0:row 1:questions 2:choices 3:answer -/
theorem scIsRow : FnScope ["row", "questions", "choices", "answer"] ["row", "questions", "choices"] (defScope sIsRow) := ⟨rfl, rfl, rfl, by decide +kernel, rfl, by decide +kernel, by decide +kernel⟩
theorem ok_isRow {f : Addr} {fd : FuncData} (F : Fun K "is_row" "is_row" sIsRow f fd) (B : Blt mg) : FnOk P w K mg base CX0 1 f fd ["row", "questions", "choices"] (spIsRow K) := by
  refine F.ok scIsRow (fun vs H Q E h => ?_) (fun cdv A outer s H vs Q E hr h => ?_)
  · obtain ⟨r, l, n, k, rfl, _⟩ := h
    rfl
  · obtain ⟨r, l, n, c, rfl, hl, hz, k⟩ := h
    refine ⟨_, pss_one (ps_ret (pe_and (pe_cmpR op_eq (pe_callB call_len_seq rfl B.len PySem.boot_len (pa_cons (pv 0) pa_nil)) (pv 1) (nomark _))
      (pe_one (pe_callB (cr_all rfl) rfl B.all PyProof.Rows.boot_all (pa_cons (pe_lc rfl scIsRow.nd (pi_list (pv 0)) (own := [("answer", 3)]) (blkOk_by rfl) (fun _ _ _ _ _ => pg_name (i := 3) scIsRow.nd rfl (Or.inl rfl)) (fun _ _ _ _ _ => pts_nil)
        (fun _ _ _ _ _ => pe_cmpR op_lt (pv 3) (pv 2) (nomark _))) pa_nil))))), ?_⟩
    refine ⟨_, rfl, r, _, rfl, .inl hl, _, rfl, rfl, _, rfl, ?_⟩
    refine ite2 (fun hc => ?_) fun hc => ?_
    · have hc' : l.length = n := by
        have := of_decide_eq_true hc
        injection this with this
        rw [natsV_len] at this
        omega
      refine ⟨_, rfl, r, rfl, ⟨_, hl⟩, fun D hD => ?_⟩
      refine lc_list1 (xs := natsV l) hD (by rw [natsV_len]; exact hz) hl (fun i y _ => ∃ m : Nat, l[i]? = some m ∧ y = .bl (decide (m < c))) (fun _ _ _ _ _ h => h) ?_ ?_
      · intro i x H' Q' hx sm _ k'
        obtain ⟨m, hm, rfl⟩ := natsV_of hx
        refine ⟨_, rfl, _, rfl, _, _, rfl, rfl, k' _ _ (.refl _) ⟨m, hm, ?_⟩⟩
        exact congrArg V.bl (decide_eq_decide.mpr Int.ofNat_lt)
      · intro H' ys sm hD' hlen hR
        have e : ys = (l.map fun m => decide (m < c)).map V.bl := by
          rw [List.map_map]
          refine items_map (by rw [hlen, natsV_len]) fun i y x h1 h2 => ?_
          obtain ⟨m, hm, rfl⟩ := hR i y h1
          rw [hm] at h2
          cases h2
          rfl
        refine ⟨D, _, rfl, SqL.of (by rw [hD', e]), ?_⟩
        have e2 : ((l.map fun m => decide (m < c)).all id) = Su172.okRow n c l := by
          unfold Su172.okRow
          rw [hc', beq_self_eq_true, Bool.true_and, List.all_map]
          rfl
        rw [e2]
        exact k _ sm
    · have e2 : Su172.okRow n c l = false := by
        unfold Su172.okRow
        have : (l.length == n) = false := by
          rw [beq_eq_false_iff_ne]
          intro e
          apply hc
          apply decide_eq_true
          rw [natsV_len, e]
        rw [this, Bool.false_and]
      have := k H (.refl H)
      rw [e2] at this
      exact this
end
end Ta

set_option Elab.async false
set_option linter.all false
set_option maxRecDepth 100000
set_option maxHeartbeats 2000000
namespace Ta
open PySem PySem.Spec PyProof.Rows L2
theorem take_snoc {α : Type} : ∀ {l : List α} {i : Nat} {x : α}, l[i]? = some x → l.take (i + 1) = l.take i ++ [x]
  | [], i, x, h => by simp at h
  | a :: l, 0, x, h => by
    have e : a = x := Option.some.inj h
    subst e
    rfl
  | a :: l, i + 1, x, h => by
    have ih := take_snoc (l := l) (i := i) (x := x) h
    show a :: l.take (i + 1) = a :: l.take i ++ [x]
    rw [ih]
    rfl
theorem flatMap_snoc {α β : Type} (l : List α) (a : α) (f : α → List β) : (l ++ [a]).flatMap f = l.flatMap f ++ f a := by
  rw [List.flatMap_append, List.flatMap_cons, List.flatMap_nil, List.append_nil]
theorem map_range_snoc {β : Type} (n : Nat) (f : Nat → β) : (List.range (n + 1)).map f = (List.range n).map f ++ [f n] := by
  rw [List.range_succ, List.map_append]; rfl
theorem LR.at {H : Hp} {p : Addr} {rs : List Addr} {L : List (List Nat)} {i : Nat} {v : V} (T : LR H p rs L) (h : (rs.map V.ref)[i]? = some v) : ∃ r l, rs[i]? = some r ∧ v = .ref r ∧ L[i]? = some l ∧ H r = some (.lst (natsV l)) := by
  rw [List.getElem?_map] at h
  cases e : rs[i]? with
  | none => rw [e] at h; cases h
  | some r =>
    rw [e] at h
    obtain ⟨l, hl⟩ : ∃ l, L[i]? = some l := ⟨_, List.getElem?_eq_getElem (by rw [← T.len]; exact (List.getElem?_eq_some_iff.mp e).1)⟩
    exact ⟨r, l, rfl, (Option.some.inj h).symm, hl, T.row i r l e hl⟩
theorem flat_len {α : Type} (l : List α) (k : Nat) (f : α → List α) (h : ∀ a ∈ l, (f a).length = k) : (l.flatMap f).length = l.length * k := by
  induction l with
  | nil => simp
  | cons a l ih =>
    rw [List.flatMap_cons, List.length_append, h a (List.mem_cons_self ..), ih fun b hb => h b (List.mem_cons_of_mem _ hb), List.length_cons, Nat.succ_mul, Nat.add_comm]
/-! ### rows_in_order -/
def spRows : Sp := fun vs H Q _ => ∃ (n k : Nat), vs = [.int n, .int k] ∧ n ≤ 4 ∧ k ≤ 4 ∧
  ∀ (H' : Hp) (p : Addr), Same H H' → H p = none → LL H' p (Su172.rows k n) → Q (.ref p) H'
section
variable {P : Program} {w : World} {K : PySem.W.Frag} {mg : Str → Option Value} {base : Heap}
abbrev sRows : Stmt := top 30
/-- slots: 0:questions 1:choices 2:rows 3:question 4:longer 5:row 6:answer -/
theorem scRows : FnScope ["questions", "choices", "rows", "question", "longer", "row", "answer"] ["questions", "choices"] (defScope sRows) := ⟨rfl, rfl, rfl, by decide +kernel, rfl, by decide +kernel, by decide +kernel⟩
theorem ok_rows {f : Addr} {fd : FuncData} (F : Fun K "rows_in_order" "rows_in_order" sRows f fd) (B : Blt mg) : FnOk P w K mg base CX0 1 f fd ["questions", "choices"] spRows := by
  refine F.ok scRows (fun vs H Q E h => ?_) (fun cdv A outer s H vs Q E hr h => ?_)
  · obtain ⟨n, k, rfl, _⟩ := h
    rfl
  · obtain ⟨n, c, rfl, hn, hc, k⟩ := h
    refine ⟨_, pss_cons (ps_set (i := 2) scRows.nd rfl (Or.inl rfl) (pe_lst (pa_cons (pe_lst pa_nil) pa_nil)))
      (pss_cons (ps_for PassesOwn.never rfl (pi_range1 rfl B.range (pa_cons (pv 0) pa_nil)) (pg_name (i := 3) scRows.nd rfl (Or.inl rfl))
        (pss_cons (ps_set (i := 4) scRows.nd rfl (Or.inl rfl) (pe_lst pa_nil))
        (pss_cons (ps_for PassesOwn.never rfl (pi_list (pv 2)) (pg_name (i := 5) scRows.nd rfl (Or.inl rfl))
          (pss_one (ps_for PassesOwn.never rfl (pi_range1 rfl B.range (pa_cons (pv 1) pa_nil)) (pg_name (i := 6) scRows.nd rfl (Or.inl rfl))
            (pss_one (ps_expr (pe_bm PySem.F.plainAttrs_list PySem.F.slot_list_append PySem.F.type_list_append mt_append (pv 4) (pa_cons (pe_op op_cat (pv 5) (pe_lst (pa_cons (pv 6) pa_nil))) pa_nil)))))))
        (pss_one (ps_set (i := 2) scRows.nd rfl (Or.inl rfl) (pv 4))))))
      (pss_one (ps_ret (pv 2)))), ?_⟩
    refine ⟨by decide, fun r0 h0 => ⟨by show 1 ≤ sizeLine; decide, fun p hp => ?_⟩⟩
    have T0 : LL (upd (upd H r0 (.lst [])) p (.lst [.ref r0])) p (Su172.rows c 0) := ⟨[r0], upd_same, rfl, fun i r l h1 h2 => by
      match i, h1, h2 with
      | 0, h1, h2 =>
        obtain rfl : r0 = r := Option.some.inj h1
        obtain rfl : [] = l := Option.some.inj h2
        rw [upd_ne (ne_of_none upd_same hp), upd_same]; rfl
      | i + 1, h1, h2 => simp at h1⟩
    refine ⟨_, rfl, n, rfl, by omega, by omega, for_range (lo := 0) (n := (n : Int).toNat) (fun i σ H' => ∃ q v3 v4 v5 v6, σ = [some (.int n), some (.int c), some (.ref q), v3, v4, v5, v6] ∧ Same H H' ∧ H q = none ∧ LL H' q (Su172.rows c i)) ?_ ?_ ?_⟩
    · exact ⟨p, none, none, none, none, rfl, (Same.new h0).upd_new hp, (Same.new h0).free hp, T0⟩
    · rintro i σ H1 hi ⟨q, v3, v4, v5, v6, rfl, s1, nq, rs, T1⟩
      refine ⟨Nat.zero_le _, fun g hg => ?_⟩
      have s2 : Same H (upd H1 g (.lst [])) := s1.upd_new hg
      have T2 : LR (upd H1 g (.lst [])) q rs (Su172.rows c i) := T1.same (.new hg)
      have hlen : (Su172.rows c i).length ≤ 64 := by
        rw [Tm.rows_length]
        calc c ^ i ≤ 4 ^ i := Nat.pow_le_pow_left hc i
          _ ≤ 4 ^ 3 := Nat.pow_le_pow_right (by omega) (by omega)
          _ = 64 := rfl
      refine ⟨_, rfl, q, rfl, ⟨_, SqL.of T2.lst⟩, for_list (K := K) (a := q) (xs := rs.map V.ref) (fun j σ H' => ∃ v5 v6, σ = [some (.int n), some (.int c), some (.ref q), some (.int (0 + (i : Nat))), some (.ref g), v5, v6] ∧ Same H H' ∧ Same H1 H' ∧ H1 g = none ∧
        LL H' g (((Su172.rows c i).take j).flatMap fun l => (List.range c).map fun a => l ++ [a])) ⟨v5, v6, rfl, s2, .new hg, hg, .nil upd_same⟩ (fun j σ H' _ ⟨_, _, _, _, s3, _, _⟩ => SqL.of (s3 _ _ T1.lst)) ?_ ?_⟩
      · rintro j y σ H3 hj ⟨v5, v6, rfl, s3, s31, ng, T3⟩
        obtain ⟨r, l, hr', rfl, hl, hrl⟩ := T1.at hj
        refine ⟨_, rfl, c, rfl, by omega, by omega, for_range (lo := 0) (n := (c : Int).toNat) (fun m σ H' => ∃ v6, σ = [some (.int n), some (.int c), some (.ref q), some (.int (0 + (i : Nat))), some (.ref g), some (.ref r), v6] ∧ Same H H' ∧ Same H1 H' ∧
          LL H' g ((((Su172.rows c i).take j).flatMap fun l => (List.range c).map fun a => l ++ [a]) ++ (List.range m).map fun a => l ++ [a])) ⟨v6, rfl, s3, s31, ?_⟩ ?_ ?_⟩
        · simpa using T3
        · rintro m σ H4 hm ⟨v6, rfl, s4, s41, gs, T4⟩
          refine ⟨_, rfl, .inl ⟨rfl, _, SqL.of T4.lst⟩, _, rfl, _, rfl, by show 1 ≤ sizeLine; decide, fun t ht => ?_⟩
          have hrl4 := s41 _ _ hrl
          have hll : l.length = i := (Tm.mem_rows.mp (List.mem_of_getElem? hl)).1
          refine ⟨r, t, natsV l, _, rfl, rfl, (Same.new ht) _ _ hrl4, upd_same, ?_, fun u hu => ?_⟩
          · rw [natsV_len, sizeLine_eq, hll]
            show i + 1 ≤ _
            omega
          have s5 : Same H4 (upd (upd H4 t (.lst [.int (0 + (m : Nat))])) u (.lst (natsV l ++ [.int (0 + (m : Nat))]))) := (Same.new ht).upd_new hu
          have hgl : gs.length < 100000 := by
            rw [T4.len, List.length_append, List.length_map, List.length_range, flat_len _ c _ (fun a _ => by simp)]
            have h1 : ((Su172.rows c i).take j).length ≤ 64 := by rw [List.length_take]; omega
            have h2 : ((Su172.rows c i).take j).length * c ≤ 64 * 4 := Nat.mul_le_mul h1 hc
            omega
          refine ⟨g, _, _, rfl, rfl, s5 _ _ T4.lst, by rw [List.length_map, sizeLine_eq]; omega, ?_⟩
          have b6 : But g H4 (upd (upd (upd H4 t (.lst [.int (0 + (m : Nat))])) u (.lst (natsV l ++ [.int (0 + (m : Nat))]))) g (.lst (gs.map V.ref ++ [.ref u]))) := s5.but.trans .upd
          have ngu : u ≠ g := (ne_of_none (Same.new ht _ _ T4.lst) hu).symm
          refine ⟨_, rfl, b6.same' s4 (s1.free ng), b6.same' s41 ng, gs ++ [u], ?_⟩
          rw [map_range_snoc, ← List.append_assoc]
          refine T4.snoc b6 upd_same ?_
          rw [upd_ne ngu, upd_same, natsV_append]
          congr 3
          show [V.int (0 + (m : Nat))] = [V.int (m : Nat)]
          rw [Int.zero_add]
        · rintro σ H4 ⟨v6, rfl, s4, s41, T4⟩
          refine ⟨_, _, rfl, s4, s41, ng, ?_⟩
          rw [take_snoc hl, flatMap_snoc]
          simpa using T4
      · rintro σ H3 ⟨v5, v6, rfl, s3, s31, ng, T3⟩
        rw [List.length_map, T1.len, List.take_length, ← Tm.rows_snoc] at T3
        exact ⟨_, rfl, g, _, _, _, _, rfl, s3, s1.free ng, T3⟩
    · rintro σ H1 ⟨q, v3, v4, v5, v6, rfl, s1, nq, T1⟩
      exact ⟨_, rfl, k H1 q s1 nq T1⟩
end
end Ta

set_option Elab.async false
set_option linter.all false
set_option maxRecDepth 100000
set_option maxHeartbeats 2000000
namespace Ta
open PySem PySem.Spec PyProof.Rows L2
theorem sum_cast : ∀ l : List Nat, (l.map fun (n : Nat) => (n : Int)).sum = ((l.sum : Nat) : Int)
  | [] => rfl
  | a :: l => by
    rw [List.map_cons, List.sum_cons, sum_cast l, List.sum_cons]
    omega
theorem max_is {l : List Nat} {m : Int} (h : 0 < l.length) (h1 : m ∈ l.map fun (n : Nat) => (n : Int)) (h2 : ∀ y, y ∈ (l.map fun (n : Nat) => (n : Int)) → y ≤ m) : m = (Tm.topV l : Nat) := by
  obtain ⟨a, ha, rfl⟩ := List.mem_map.mp h1
  have q1 := Tm.topV_le ha
  have q2 := h2 _ (List.mem_map.mpr ⟨Tm.topV l, List.mem_of_getElem? (Tm.topN_get h), rfl⟩)
  omega
/-- max(x) in slot i: a list of numbers -/
theorem rMax_of {K : PySem.W.Frag} {H : Hp} {a : Addr} {l : List Nat} {Q : VK} (h : SqL K H a (natsV l)) (h0 : 0 < l.length) (q : Q (.int (Tm.topV l : Nat)) H) : rMax K [.ref a] H Q :=
  ⟨a, _, rfl, by rw [← natsV_ints]; exact h, by simpa using h0, fun m h1 h2 => by rw [max_is h0 h1 h2]; exact q⟩
theorem rIndex_of {K : PySem.W.Frag} {H : Hp} {a : Addr} {l : List Nat} {Q : VK} (h : SqL K H a (natsV l)) (h0 : 0 < l.length) (q : Q (.int (Tm.topN l : Nat)) H) : rIndex K (.ref a) [.int (Tm.topV l : Nat)] H Q := by
  refine ⟨a, _, _, Tm.topN l, _, rfl, rfl, h, rfl, natsV_all l, natsV_get (Tm.topN_get h0), ?_, ?_, q⟩
  · exact beq_self_eq_true _
  · intro m z' hm hz
    obtain ⟨n, hn, rfl⟩ := natsV_of hz
    have := Tm.topN_first hm h0 hn
    show ((n : Int) == ((Tm.topV l : Nat) : Int)) = false
    rw [beq_eq_false_iff_ne]
    omega
/-! ### best_reply -/
def spReply : Sp := fun vs H Q _ => ∃ (p : Addr) (G : List (List Nat)), vs = [.ref p] ∧ LL H p G ∧ (∀ l ∈ G, 0 < l.length) ∧ G.length ≤ 100 ∧
  ∀ (H' : Hp) (q : Addr), Same H H' → H q = none → H' q = some (.lst (natsV ((G.map Tm.topV).sum :: G.map Tm.topN))) → Q (.ref q) H'
section
variable {P : Program} {w : World} {K : PySem.W.Frag} {mg : Str → Option Value} {base : Heap}
abbrev sReply : Stmt := top 32
/-- slots: 0:gains 1:gain -/
theorem scReply : FnScope ["gains", "gain"] ["gains"] (defScope sReply) := ⟨rfl, rfl, rfl, by decide +kernel, rfl, by decide +kernel, by decide +kernel⟩
theorem ok_reply {f : Addr} {fd : FuncData} (F : Fun K "best_reply" "best_reply" sReply f fd) (B : Blt mg) : FnOk P w K mg base CX0 1 f fd ["gains"] spReply := by
  refine F.ok scReply (fun vs H Q E h => ?_) (fun cdv A outer s H vs Q E hr h => ?_)
  · obtain ⟨p, G, rfl, _⟩ := h
    rfl
  · obtain ⟨p, G, rfl, ⟨rs, T⟩, hG, hz, k⟩ := h
    refine ⟨_, pss_one (ps_ret (pe_op op_cat
      (pe_lst (pa_cons (pe_callB (cr_sum (by rfl)) (by rfl) B.sum PyProof.Rows.boot_sum (pa_cons (pe_lc (te := tCB (rMax K) (tCons (tVar 1) tNil)) rfl scReply.nd (pi_list (pv 0)) (own := [("gain", 1)]) (blkOk_by rfl) (fun _ _ _ _ _ => pg_name (i := 1) scReply.nd rfl (Or.inl rfl)) (fun _ _ _ _ _ => pts_nil)
        (fun _ _ _ _ _ => pe_callB (cr_max (by rfl)) (by rfl) B.max PyProof.Rows.boot_max (pa_cons (pv 1) pa_nil))) pa_nil)) pa_nil))
      (pe_lc (te := tBM K "list" (rIndex K) (tVar 1) (tCons (tCB (rMax K) (tCons (tVar 1) tNil)) tNil)) rfl scReply.nd (pi_list (pv 0)) (own := [("gain", 1)]) (blkOk_by rfl) (fun _ _ _ _ _ => pg_name (i := 1) scReply.nd rfl (Or.inl rfl)) (fun _ _ _ _ _ => pts_nil)
        (fun _ _ _ _ _ => pe_bm PySem.F.plainAttrs_list PySem.F.slot_list_index PySem.F.type_list_index mt_index (pv 1) (pa_cons (pe_callB (cr_max (by rfl)) (by rfl) B.max PyProof.Rows.boot_max (pa_cons (pv 1) pa_nil)) pa_nil))))), ?_⟩
    have hlr : (rs.map V.ref).length < sizeLine := by rw [List.length_map, T.len, sizeLine_eq]; omega
    refine ⟨_, rfl, p, rfl, ⟨_, SqL.of T.lst⟩, fun D hD => ?_⟩
    refine lc_list1 (xs := rs.map V.ref) hD hlr (SqL.of T.lst) (fun i y _ => ∃ l, G[i]? = some l ∧ y = .int (Tm.topV l : Nat)) (fun _ _ _ _ _ h => h) ?_ ?_
    · intro i x H' Q' hx sm _ k'
      obtain ⟨r, l, hr', rfl, hl, hrl⟩ := T.at hx
      exact ⟨_, rfl, rMax_of (SqL.of (sm _ _ hrl)) (hG l (List.mem_of_getElem? hl)) (k' _ _ (.refl _) ⟨l, hl, rfl⟩)⟩
    intro H1 ys s1 hD1 hlen hR
    have e1 : ys = ((G.map Tm.topV).map fun (n : Nat) => (n : Int)).map V.int := by
      rw [List.map_map, List.map_map]
      refine items_map (by rw [hlen, List.length_map, T.len]) fun i y x h1 h2 => ?_
      obtain ⟨l, hl, rfl⟩ := hR i y h1
      rw [hl] at h2
      cases h2
      rfl
    refine ⟨D, _, rfl, SqL.of (by rw [hD1, e1]), ?_⟩
    rw [sum_cast]
    refine ⟨by show 1 ≤ sizeLine; decide, fun a ha => ?_⟩
    have s2 : Same H (upd H1 a (.lst [.int ((G.map Tm.topV).sum : Nat)])) := s1.upd_new ha
    have T2 := T.same s2
    refine ⟨_, rfl, p, rfl, ⟨_, SqL.of T2.lst⟩, fun E2 hE => ?_⟩
    refine lc_list1 (xs := rs.map V.ref) hE hlr (SqL.of T2.lst) (fun i y _ => ∃ l, G[i]? = some l ∧ y = .int (Tm.topN l : Nat)) (fun _ _ _ _ _ h => h) ?_ ?_
    · intro i x H' Q' hx sm _ k'
      obtain ⟨r, l, hr', rfl, hl, hrl⟩ := T2.at hx
      have h3 := sm _ _ hrl
      have h4 := hG l (List.mem_of_getElem? hl)
      refine ⟨_, rfl, .inl ⟨rfl, _, SqL.of h3⟩, _, rfl, ?_⟩
      show rMax K [.ref r] H' (fun x H1 => rIndex K (.ref r) [x] H1 Q')
      refine rMax_of (SqL.of h3) h4 ?_
      exact rIndex_of (SqL.of h3) h4 (k' _ _ (.refl _) ⟨l, hl, rfl⟩)
    intro H3 zs s3 hE3 hlen3 hR3
    have e3 : zs = natsV (G.map Tm.topN) := by
      unfold natsV
      rw [List.map_map]
      refine items_map (by rw [hlen3, List.length_map, T.len]) fun i y x h1 h2 => ?_
      obtain ⟨l, hl, rfl⟩ := hR3 i y h1
      rw [hl] at h2
      cases h2
      rfl
    refine ⟨a, E2, _, _, rfl, rfl, s3 _ _ upd_same, hE3, ?_, fun q hq => ?_⟩
    · rw [hlen3, List.length_map, T.len, sizeLine_eq]
      show 1 + _ ≤ _
      omega
    · refine k _ q ((s2.trans s3).upd_new hq) ((s2.trans s3).free hq) ?_
      rw [upd_same, e3]
      rfl
/-! ### what_rows_win -/
def spWins : Sp := fun vs H Q _ => ∃ (p : Addr) (G : List (List Nat)), vs = [.ref p] ∧ LL H p G ∧ (∀ l ∈ G, l.length ≤ 4) ∧ G.length ≤ 4 ∧
  ∀ (H' : Hp) (q : Addr), Same H H' → H q = none → H' q = some (.lst (natsV (Tm.winsOf G))) → Q (.ref q) H'
theorem flatMap_len_le {α β : Type} (l : List α) (k : Nat) (f : α → List β) (h : ∀ a ∈ l, (f a).length ≤ k) : (l.flatMap f).length ≤ l.length * k := by
  induction l with
  | nil => simp
  | cons a l ih =>
    rw [List.flatMap_cons, List.length_append, List.length_cons, Nat.succ_mul]
    have h1 := h a (List.mem_cons_self ..)
    have h2 := ih fun b hb => h b (List.mem_cons_of_mem _ hb)
    omega
theorem winsOf_snoc (G : List (List Nat)) (l : List Nat) : Tm.winsOf (G ++ [l]) = (Tm.winsOf G).flatMap fun t => l.map (t + ·) := by
  unfold Tm.winsOf
  rw [List.foldl_append]
  rfl
theorem winsOf_le : ∀ (n : Nat) (G : List (List Nat)), G.length = n → (∀ l ∈ G, l.length ≤ 4) → (Tm.winsOf G).length ≤ 4 ^ n
  | 0, G, h, _ => by
    rw [List.eq_nil_of_length_eq_zero h]
    decide
  | n + 1, G, h, hl => by
    obtain ⟨l, a, rfl⟩ : ∃ l a, G = l ++ [a] := by
      rcases List.eq_nil_or_concat G with e | ⟨l, a, e⟩
      · rw [e] at h; cases h
      · exact ⟨l, a, by rw [e, List.concat_eq_append]⟩
    rw [winsOf_snoc]
    have h1 := winsOf_le n l (by simpa using h) fun x hx => hl x (List.mem_append_left _ hx)
    have h2 := hl a (by simp)
    have h3 := flatMap_len_le (Tm.winsOf l) 4 (fun t => a.map (t + ·)) fun t _ => by rw [List.length_map]; exact h2
    rw [Nat.pow_succ]
    exact Nat.le_trans h3 (Nat.mul_le_mul_right 4 h1)
abbrev sWins : Stmt := top 31
/-- slots: 0:gains 1:totals 2:gain 3:longer 4:total 5:won -/
theorem scWins : FnScope ["gains", "totals", "gain", "longer", "total", "won"] ["gains"] (defScope sWins) := ⟨rfl, rfl, rfl, by decide +kernel, rfl, by decide +kernel, by decide +kernel⟩
theorem ok_wins {f : Addr} {fd : FuncData} (F : Fun K "what_rows_win" "what_rows_win" sWins f fd) : FnOk P w K mg base CX0 1 f fd ["gains"] spWins := by
  refine F.ok scWins (fun vs H Q E h => ?_) (fun cdv A outer s H vs Q E hr h => ?_)
  · obtain ⟨p, G, rfl, _⟩ := h
    rfl
  · obtain ⟨p, G, rfl, ⟨rs, T⟩, hG, hz, k⟩ := h
    refine ⟨_, pss_cons (ps_set (i := 1) scWins.nd rfl (Or.inl rfl) (pe_lst (pa_cons pe_int pa_nil)))
      (pss_cons (ps_for PassesOwn.never rfl (pi_list (pv 0)) (pg_name (i := 2) scWins.nd rfl (Or.inl rfl))
        (pss_cons (ps_set (i := 3) scWins.nd rfl (Or.inl rfl) (pe_lst pa_nil))
        (pss_cons (ps_for PassesOwn.never rfl (pi_list (pv 1)) (pg_name (i := 4) scWins.nd rfl (Or.inl rfl))
          (pss_one (ps_for PassesOwn.never rfl (pi_list (pv 2)) (pg_name (i := 5) scWins.nd rfl (Or.inl rfl))
            (pss_one (ps_expr (pe_bm PySem.F.plainAttrs_list PySem.F.slot_list_append PySem.F.type_list_append mt_append (pv 3) (pa_cons (pe_op op_add (pv 4) (pv 5)) pa_nil)))))))
        (pss_one (ps_set (i := 1) scWins.nd rfl (Or.inl rfl) (pv 3))))))
      (pss_one (ps_ret (pv 1)))), ?_⟩
    refine ⟨by show 1 ≤ sizeLine; decide, fun t0 h0 => ?_⟩
    refine ⟨_, rfl, p, rfl, ⟨_, SqL.of ((Same.new h0) _ _ T.lst)⟩, for_list (K := K) (a := p) (xs := rs.map V.ref) (fun i σ H' => ∃ q v2 v3 v4 v5, σ = [some (.ref p), some (.ref q), v2, v3, v4, v5] ∧ Same H H' ∧ H q = none ∧ H' q = some (.lst (natsV (Tm.winsOf (G.take i)))))
      ⟨t0, none, none, none, none, rfl, .new h0, h0, upd_same⟩ (fun i σ H' _ ⟨_, _, _, _, _, _, s1, _⟩ => SqL.of (s1 _ _ T.lst)) ?_ ?_⟩
    · rintro i y σ H1 hy ⟨q, v2, v3, v4, v5, rfl, s1, nq, hq⟩
      obtain ⟨r, l, hr', rfl, hl, hrl⟩ := T.at hy
      have hi : i < G.length := (List.getElem?_eq_some_iff.mp hl).1
      have hll : l.length ≤ 4 := hG l (List.mem_of_getElem? hl)
      have hw : (Tm.winsOf (G.take i)).length ≤ 256 := by
        have := winsOf_le i (G.take i) (by rw [List.length_take]; omega) fun l hl => hG l (List.mem_of_mem_take hl)
        refine Nat.le_trans this ?_
        exact Nat.le_trans (Nat.pow_le_pow_right (by omega) (show i ≤ 4 by omega)) (by decide)
      refine ⟨Nat.zero_le _, fun g hg => ?_⟩
      refine ⟨_, rfl, q, rfl, ⟨_, SqL.of ((Same.new hg) _ _ hq)⟩, for_list (K := K) (a := q) (xs := natsV (Tm.winsOf (G.take i))) (fun j σ H' => ∃ v4 v5, σ = [some (.ref p), some (.ref q), some (.ref r), some (.ref g), v4, v5] ∧ Same H1 H' ∧
        H' g = some (.lst (natsV (((Tm.winsOf (G.take i)).take j).flatMap fun t => l.map (t + ·))))) ⟨v4, v5, rfl, .new hg, upd_same⟩ (fun j σ H' _ ⟨_, _, _, s2, _⟩ => SqL.of (s2 _ _ hq)) ?_ ?_⟩
      · rintro j y σ H2 hy ⟨v4, v5, rfl, s2, hg2⟩
        obtain ⟨t, ht, rfl⟩ := natsV_of hy
        have hr2 := s2 _ _ (s1 _ _ hrl)
        refine ⟨_, rfl, r, rfl, ⟨_, SqL.of hr2⟩, for_list (K := K) (a := r) (xs := natsV l) (fun m σ H' => ∃ v5, σ = [some (.ref p), some (.ref q), some (.ref r), some (.ref g), some (.int (t : Nat)), v5] ∧ Same H1 H' ∧
          H' g = some (.lst (natsV ((((Tm.winsOf (G.take i)).take j).flatMap fun t => l.map (t + ·)) ++ (l.take m).map (t + ·))))) ⟨v5, rfl, s2, by simpa using hg2⟩ (fun m σ H' _ ⟨_, _, s3, _⟩ => SqL.of (s3 _ _ (s1 _ _ hrl))) ?_ ?_⟩
        · rintro m y σ H3 hy ⟨v5, rfl, s3, hg3⟩
          obtain ⟨u, hu, rfl⟩ := natsV_of hy
          refine ⟨_, rfl, .inl ⟨rfl, _, SqL.of hg3⟩, _, rfl, _, rfl, _, _, rfl, rfl, g, _, _, rfl, rfl, hg3, ?_, ?_⟩
          · rw [natsV_len, List.length_append, List.length_map, sizeLine_eq]
            have h1 := flatMap_len_le ((Tm.winsOf (G.take i)).take j) 4 (fun t => l.map (t + ·)) fun t _ => by rw [List.length_map]; exact hll
            have h2 : ((Tm.winsOf (G.take i)).take j).length ≤ 256 := by rw [List.length_take]; omega
            have h3 : (l.take m).length ≤ 4 := by rw [List.length_take]; omega
            omega
          · refine ⟨_, rfl, s3.upd_free hg, ?_⟩
            rw [upd_same, take_snoc hu, List.map_append, ← List.append_assoc, natsV_append (_ ++ _)]
            congr 3
        · rintro σ H3 ⟨v5, rfl, s3, hg3⟩
          refine ⟨_, _, rfl, s3, ?_⟩
          rw [hg3, natsV_len, List.take_length, take_snoc ht, flatMap_snoc]
      · rintro σ H2 ⟨v4, v5, rfl, s2, hg2⟩
        refine ⟨_, rfl, g, _, _, _, _, rfl, s1.trans s2, s1.free hg, ?_⟩
        rw [natsV_len, List.take_length] at hg2
        rw [hg2, take_snoc hl, winsOf_snoc]
    · rintro σ H1 ⟨q, v2, v3, v4, v5, rfl, s1, nq, hq⟩
      refine ⟨_, rfl, k H1 q s1 nq ?_⟩
      rw [hq, List.length_map, T.len, List.take_length]
end
end Ta

set_option Elab.async false
set_option linter.all false
set_option maxRecDepth 100000
set_option maxHeartbeats 2000000
/-! sum(d.values()) of a dict whose keys are tuples: the values' walk over the entries as they are, whatever the keys. -/
namespace Tv
open PySem PySem.Spec
/-- the dict at d has these entries -/
def Raw (h : Heap) (d : Addr) (es : Array DictEntry) (ep : Nat) : Prop := ∃ o, h.get? d = some o ∧ o.ExactDict ∧ o.data = .dict es ep
section
variable {prog : Program} {w : World} {A : Around} {E : Value → Shared → Prop} {s : Shared}
theorem Raw.at {h h' : Heap} {d : Addr} {es : Array DictEntry} {ep : Nat} (x : Raw h d es ep) (e : ∀ o, h.get? d = some o → h'.get? d = some o) : Raw h' d es ep := let ⟨o, ho, r⟩ := x; ⟨o, e _ ho, r⟩
theorem Raw.ty {d : Addr} {es : Array DictEntry} {ep : Nat} (x : Raw s.heap d es ep) : s.TypeIs (.ref d) "dict" := let ⟨o, ho, hx, _⟩ := x; ⟨o, ho, hx.1⟩
theorem meets_values (d : Addr) (hd : (d == sysModules) = false) :
    MeetsIn prog w (Builtin.«dict.values» ⟨[.ref d], []⟩) (fun _ R s => (∃ es ep, Raw s.heap d es ep) ∧ R (.ok (.ret (.ref s.heap.objs.size))) { s with heap := s.heap.push { cls := .type "dict_values", data := .fields #[.ref d] } }) :=
  .of_wp fun A R s ⟨⟨es, ep, hm⟩, h⟩ => by
    refine wpAny_bind ?_; unfold Builtin.Dict.noArgs
    refine wpAny_bind (wpAny_notOrdered_dict hm.ty ?_); show wpAny _ _ (pure d) _ _ s
    refine wpAny_pure ?_; show wpAny _ _ (Builtin.Dict.showsAll d >>= _) _ _ s
    unfold Builtin.Dict.showsAll; rw [if_neg (by rw [hd]; exact Bool.false_ne_true)]
    refine wpAny_bind (wpAny_pure ?_); exact wpAny_bind (wpAny_newObj_type (wpAny_pure ⟨_, rfl, h⟩))
theorem iter_values {v d : Addr} {es : Array DictEntry} {ep : Nat} {Q : Value → Shared → Prop} (hv : s.heap.IsValuesView v d) (hm : Raw s.heap d es ep)
    (hQ : Q (.ref s.heap.objs.size) { s with heap := s.heap.push { cls := .type "dict_valueiterator", data := .fields #[.ref d, .int 0 0, .int es.size 0, .int ep 0] } }) : wpAny (model prog w) A (pyIter (.ref v)) Q E s := by
  obtain ⟨ov, hov, hcv, hdv⟩ := id hv; obtain ⟨o, ho, hc, hdat⟩ := id hm
  refine wpAny_pyIter_slot hv.typeIs F.slot_dict_values_iter (wpAny_call_entry F.slot_dict_values_iter hv.typeIs F.entry_dict_values_iter ?_ (F.args_dict_values_iter_1 _)); unfold Builtin.«dict_values.__iter__»
  refine wpAny_bind (wpAny_pure ?_); refine wpAny_bind ?_; unfold Builtin.Dict_items.dictOf
  refine wpAny_bind (wpAny_field hov hdv (x := .ref d) rfl (wpAny_pure ?_)); refine wpAny_bind ?_; unfold Builtin.Dict_items.newIterator
  refine wpAny_bind (wpAny_dictEntries ho hdat ?_); refine wpAny_bind (wpAny_dictEpoch ho hdat ?_)
  have hown : Builtin.Dict_items.ownsTuple "dict_valueiterator" = false := by decide
  simp only [hown, Bool.false_eq_true, if_false]
  refine wpAny_newObj_type (wpAny_pure ⟨_, rfl, "dict_valueiterator", _, ⟨_, Heap.get?_push_size _ rfl, rfl⟩, F.slot_dict_valueiterator_next.lookup, ?_⟩); simpa [rawInt] using hQ
theorem next_item {it d : Addr} {i ep : Nat} {es : Array DictEntry} {en : DictEntry} {Q : Option Value → Shared → Prop} (hit : s.heap.IsValIter it d i es.size ep) (hm : Raw s.heap d es ep) (hx : es[i]? = some en)
    (hQ : ∀ h', h'.IsValIter it d (i + 1) es.size ep → Heap.SameBut it s.heap h' → Q (some en.val) { s with heap := h' }) : wpAny (model prog w) A (pyNext (.ref it)) Q E s := by
  obtain ⟨o, ho, hc, hd⟩ := id hit; obtain ⟨od, hod, hcd, hdd⟩ := id hm
  unfold pyNext; refine wpAny_bind (wpAny_attempt (wpAny_callSpecial?_slot (name := Str.ofString "__next__") hit.typeIs F.slot_dict_valueiterator_next (wpAny_call_entry F.slot_dict_valueiterator_next hit.typeIs F.entry_dict_valueiterator_next ?_ (F.args_dict_valueiterator_next_1 _))))
  refine wpAny_bind (wpAny_pure ?_); refine wpAny_bind ?_; refine wpAny_bind ?_
  (first | refine wpAny_bind (wpAny_typeNameOfWhole_valiter hit.typeIs (wpAny_pure ?_)) | refine wpAny_bind (wpAny_typeNameOf_valiter hit.typeIs (wpAny_pure ?_))); refine wpAny_bind (wpAny_fieldsOf ho hd ?_)
  have hown : Builtin.Dict_items.ownsTuple "dict_valueiterator" = false := by decide
  simp only [hown, Bool.false_eq_true, if_false]; show wpAny _ _ (if (Value.ref d == Value.none) = true then _ else _) _ _ s
  rw [if_neg (show ¬ ((Value.ref d == Value.none) = true) from Bool.false_ne_true)]; refine wpAny_bind (wpAny_pure ?_); refine wpAny_bind (wpAny_dictEntries hod hdd ?_)
  rw [if_neg (by simp)]; refine wpAny_bind (wpAny_pure ?_); refine wpAny_bind (wpAny_dictEpoch hod hdd ?_); rw [if_neg (by simp)]; refine wpAny_pure ?_
  have hlt' : i < es.size := by
    rcases Nat.lt_or_ge i es.size with h | h
    · exact h
    · simp [Array.getElem?_eq_none h] at hx
  have hval : es[i] = en := by rw [Array.getElem?_eq_getElem hlt'] at hx; exact Option.some.inj hx
  simp only [show ¬ ((i : Int) < 0) from by omega, if_false, Int.toNat_natCast, Array.getElem?_eq_getElem hlt']; refine wpAny_bind ?_
  (first | refine wpAny_bind (wpAny_typeNameOfWhole_valiter hit.typeIs (wpAny_pure ?_)) | refine wpAny_bind (wpAny_typeNameOf_valiter hit.typeIs (wpAny_pure ?_))); refine wpAny_bind (wpAny_isOneOf_valiter hit.typeIs ?_)
  show wpAny _ _ (setField (.ref it) 1 (rawInt ((i : Int) + 1)) >>= _) _ _ s; refine wpAny_bind (wpAny_setField ho hd (by simp) ?_)
  have hit' : (s.heap.update it (Obj.mapFields (·.setIfInBounds 1 (rawInt ((i : Int) + 1))))).IsValIter it d (i + 1) es.size ep := ⟨_, Heap.get?_update_self _ ho (Obj.isFreed_of_fields (Obj.data_mapFields hd _)), (Obj.cls_mapFields ..).trans hc, by rw [Obj.data_mapFields hd]; simp [rawInt]⟩
  refine wpAny_bind (wpAny_holding ?_); refine wpAny_bind (wpAny_isOneOf_valiter (s := { s with heap := s.heap.update it (Obj.mapFields (·.setIfInBounds 1 (rawInt ((i : Int) + 1)))) }) hit'.typeIs ?_)
  refine wpAny_bind (wpAny_isOneOf_valiter (s := { s with heap := s.heap.update it (Obj.mapFields (·.setIfInBounds 1 (rawInt ((i : Int) + 1)))) }) hit'.typeIs ?_); show wpAny _ _ (pure es[i].val) _ _ _
  exact wpAny_pure (wpAny_pure ⟨_, rfl, wpAny_pure (hval ▸ hQ _ hit' (Heap.SameBut.update ..))⟩)
theorem next_end {it d : Addr} {ep : Nat} {es : Array DictEntry} {Q : Option Value → Shared → Prop} (hh : A.handled = none) (hit : s.heap.IsValIter it d es.size es.size ep) (hm : Raw s.heap d es ep)
    (hQ : ∀ h', Heap.ExtBut it s.heap h' → Q none { s with heap := h' }) : wpAny (model prog w) A (pyNext (.ref it)) Q E s := by
  obtain ⟨o, ho, hc, hd⟩ := id hit; obtain ⟨od, hod, hcd, hdd⟩ := id hm
  unfold pyNext; refine wpAny_bind (wpAny_attempt (wpAny_callSpecial?_slot (name := Str.ofString "__next__") hit.typeIs F.slot_dict_valueiterator_next (wpAny_call_entry F.slot_dict_valueiterator_next hit.typeIs F.entry_dict_valueiterator_next ?_ (F.args_dict_valueiterator_next_1 _))))
  refine wpAny_bind (wpAny_pure ?_); refine wpAny_bind ?_; refine wpAny_bind ?_
  (first | refine wpAny_bind (wpAny_typeNameOfWhole_valiter hit.typeIs (wpAny_pure ?_)) | refine wpAny_bind (wpAny_typeNameOf_valiter hit.typeIs (wpAny_pure ?_))); refine wpAny_bind (wpAny_fieldsOf ho hd ?_)
  have hown : Builtin.Dict_items.ownsTuple "dict_valueiterator" = false := by decide
  simp only [hown, Bool.false_eq_true, if_false]; show wpAny _ _ (if (Value.ref d == Value.none) = true then _ else _) _ _ s
  rw [if_neg (show ¬ ((Value.ref d == Value.none) = true) from Bool.false_ne_true)]; refine wpAny_bind (wpAny_pure ?_); refine wpAny_bind (wpAny_dictEntries hod hdd ?_)
  rw [if_neg (by simp)]; refine wpAny_bind (wpAny_pure ?_); refine wpAny_bind (wpAny_dictEpoch hod hdd ?_); rw [if_neg (by simp)]; refine wpAny_pure ?_
  simp only [show ¬ ((es.size : Int) < 0) from by omega, if_false, Int.toNat_natCast, Array.getElem?_eq_none (Nat.le_refl es.size)]; refine wpAny_bind ?_
  (first | refine wpAny_bind (wpAny_typeNameOfWhole_valiter hit.typeIs (wpAny_pure ?_)) | refine wpAny_bind (wpAny_typeNameOf_valiter hit.typeIs (wpAny_pure ?_))); show wpAny _ _ (setField (.ref it) 0 .none >>= _) _ _ s
  refine wpAny_bind (wpAny_setField ho hd (by simp) ?_); show wpAny _ _ (newExc (.type "StopIteration") [] >>= _) _ _ _
  refine wpAny_bind ?_; simp only [newExc, newTuple]; refine wpAny_bind (wpAny_newObj_type ?_ (by size_fits))
  refine wpAny_bind (m := firstArgMember _ _) (wpAny_of_eq (a := Value.none) (by first | rfl | (simp only [firstArgMember]; rfl)) ?_); refine wpAny_newObj_type ?_ (by size_fits)
  simp only [raiseNew]; refine wpAny_bind (wpAny_handled ?_); rw [show A.in1.handled = none from hh]; refine wpAny_bind (wpAny_pure (wpAny_throw ?_))
  refine wpAny_bind (wpAny_isInstance (T := "StopIteration") (b := true) ⟨_, Heap.get?_push_size _ rfl, rfl⟩ isSubtype_stop ?_); exact wpAny_pure (hQ _ (((Heap.SameBut.update ..).extBut.push _).push _))
theorem walks (hh : A.handled = none) (I d : Addr) (hne : d ≠ I) (es : Array DictEntry) (ep : Nat) :
    Walks prog w A I [I, d] [I] es.size (fun i v => ∃ en, es[i]? = some en ∧ v = en.val) (fun i h => h.IsValIter I d i es.size ep ∧ Raw h d es ep) where
  sub := fun b hb => by simp at hb; exact List.mem_cons.mpr (.inl hb)
  frame := fun _ _ _ st hk => ⟨st.1.at fun o e => hk I (by simp) o e, st.2.at fun o e => hk d (by simp) o e⟩
  item := fun i s Q E hi st hQ => by
    refine next_item st.1 st.2 (Array.getElem?_eq_getElem hi) fun h' hit' hs' => ?_
    refine hQ _ h' s.toks ⟨_, Array.getElem?_eq_getElem hi, rfl⟩ ⟨hit', st.2.at fun o e => (hs'.2 d hne).trans e⟩ fun b o hb e => (hs'.2 b (fun z => hb (by simp [z]))).trans e
  done := fun s Q E st hQ => next_end hh st.1 st.2 fun h' he' => hQ h' s.toks fun b o hb e => he' b o (fun z => hb (by simp [z])) e
  self := fun _ _ _ _ st hQ => wpAny_pyIter_valiter st.1 hQ
end
end Tv
namespace Ta
open PySem PySem.Spec PyProof.Rows L2
/-- d.values(), d a dict with tuples as keys -/
def tVals (td : TE) : TE := fun σ H Q => td σ H fun x H1 => ∃ (d : Addr) (kvs : List (List Key × V)), x = .ref d ∧ H1 d = some (.dT kvs) ∧ ∀ v, H1 v = none → Q (.ref v) (upd H1 v (.ext fun h => h.IsValuesView v d))
/-- sum of such a view, of whole numbers -/
def rSumV : List V → Hp → VK → Prop := fun vs H Q => ∃ (v d : Addr) (kvs : List (List Key × V)) (ns : List Int), vs = [.ref v] ∧ H v = some (.ext fun h => h.IsValuesView v d) ∧ H d = some (.dT kvs) ∧ kvs.map (·.2) = ns.map V.int ∧ Q (.int ns.sum) H
section
variable {X : Cx} {e : Expr} {td : TE} {apos cpos : Pos}
theorem raw_of {pins : List (Addr × Obj)} {σ : L2.St} {H : Hp} {s : Shared} {d : Addr} {kvs : List (List Key × V)} (I : Inv X pins σ H s) (h : H d = some (.dT kvs)) :
    (d == sysModules) = false ∧ ∃ (es : Array DictEntry) (ep : Nat), Tv.Raw s.heap d es ep ∧ es.size = kvs.length ∧ ∀ (i : Nat) k v, kvs[i]? = some (k, v) → ∃ en, es[i]? = some en ∧ RelV v en.val := by
  obtain ⟨z, hs, xs, pr, o, es, ep, ho, hx, hdt, he, _⟩ := I.hok d _ h
  refine ⟨hs, es, ep, ⟨o, ho, hx, hdt⟩, ?_, fun i k v q => ?_⟩
  · have l1 : es.size = xs.length := size_of_entries he
    have l2 : kvs.length = xs.length := Paired.length pr
    omega
  · obtain ⟨b, hb, e1, e2, e3⟩ := paired_get pr q
    have q2 := entry_at he i
    rw [hb] at q2
    exact ⟨_, q2, e3⟩
theorem pe_values (he : PE X e td) (hbase : attributeBase e "values" X.env (eval e X.env) = eval e X.env := by rfl) (hline : (apos.endLine == cpos.line) = true := by rfl) : PE X (.Call (.Attribute e "values" apos) [] [] cpos) (tVals td) := by
  intro pins s σ H Q I h
  refine wpAny_Call_method (T := "dict") (id := "dict.values") hbase rfl hline F.plainAttrs_dict F.slot_dict_values F.type_dict_values (thn (he pins s σ H _ I h) fun u s1 ⟨x, H1, I1, rx, d, kvs, ex, hd, q⟩ => ?_)
  subst ex
  obtain rfl : u = Value.ref d := rx
  obtain ⟨hs, es, ep, hr, _⟩ := raw_of I1 hd
  have hr' := hr
  obtain ⟨o, ho, hx, hdt⟩ := hr'
  refine ⟨hr.ty, fun b eb => by cases eb; exact ⟨o, ho, hx.2.1⟩, ?_⟩
  have fin : EP X pins σ Q (.ref s1.heap.objs.size) { s1 with heap := s1.heap.push { cls := .type "dict_values", data := .fields #[.ref d] } } := by
    have hv : (s1.heap.push { cls := .type "dict_values", data := .fields #[.ref d] }).IsValuesView s1.heap.objs.size d := ⟨_, Heap.get?_push_size _ rfl, rfl, rfl⟩
    refine ⟨.ref s1.heap.objs.size, _, I1.laid (a := s1.heap.objs.size) (o := .ext fun h => h.IsValuesView s1.heap.objs.size d) (t' := s1.toks) (fun b ob q => Heap.get?_push_of_some _ q) (Nat.le_refl _) ?_, rfl, q _ I1.fresh⟩
    exact ⟨hv, ⟨_, Heap.get?_push_size _ rfl⟩, fun h1 h2 ⟨ob, h3, h4⟩ k => ⟨ob, k _ h3, h4⟩⟩
  show wpAny _ _ (callWith cpos (.builtin "dict.values") [.ref d] [] []) _ X.xe s1
  exact method_meetsIn F.slot_dict_values F.entry_dict_values rfl (PySem.evalArgs_none ⟨rfl, hr.ty, F.args_dict_values_1 _, _, Tv.meets_values d hs, ⟨es, ep, hr⟩, fin⟩)
theorem preSum_list (ns : List Int) : ∀ j, preSum (fun i => ns.getD i 0) j = (ns.take j).sum
  | 0 => rfl
  | j + 1 => by
    rw [preSum, preSum_list ns j]
    cases e : ns[j]? with
    | none =>
      have : ns.length ≤ j := by
        rcases Nat.lt_or_ge j ns.length with z | z
        · rw [List.getElem?_eq_getElem z] at e; cases e
        · exact z
      rw [List.take_of_length_le this, List.take_of_length_le (by omega)]
      simp [List.getD, e]
    | some z =>
      rw [sum_take e]
      simp [List.getD, e]
theorem cr_sumV (hc : X.calm = true) : CallR X (.builtin "sum") rSumV := by
  intro pins s σ H vs us Q I r h
  obtain ⟨v, d, kvs, ns, rfl, hv, hd, hn, q⟩ := h
  rw [Vals.ref1 r]
  obtain ⟨hvv, ⟨ov, hov⟩, _⟩ := I.hok v _ hv
  obtain ⟨hs, es, ep, hr, hsz, hen⟩ := raw_of I hd
  have hlt : d < s.heap.objs.size := Heap.lt_size hr.choose_spec.1
  have hlen : kvs.length = ns.length := by rw [← List.length_map (f := (·.2)), hn, List.length_map]
  refine call_sum_walkG (Tv.iter_values hvv hr ⟨s.heap.objs.size, _, _, es.size, _, _, fun i => ns.getD i 0, rfl, Tv.walks (A := X.A.in1) (I.ok.hd hc) s.heap.objs.size d (Nat.ne_of_lt hlt) es ep, ?_, ?_, ?_, ?_⟩)
  · exact ⟨⟨_, Heap.get?_push_size _ rfl, rfl, rfl⟩, hr.at fun o e => Heap.get?_push_of_some _ e⟩
  · intro b hb
    have : s.heap.objs.size < (s.heap.push { cls := .type "dict_valueiterator", data := .fields #[.ref d, .int 0 0, .int es.size 0, .int ep 0] }).objs.size := Heap.lt_size (Heap.get?_push_size _ rfl)
    rcases List.mem_cons.mp hb with e | hb
    · rw [e]; exact this
    · rcases List.mem_cons.mp hb with e | hb
      · rw [e]; exact Nat.lt_trans hlt this
      · cases hb
  · rintro i u ⟨en, he, rfl⟩
    have hi : i < es.size := by
      rcases Nat.lt_or_ge i es.size with z | z
      · exact z
      · rw [Array.getElem?_eq_none z] at he; cases he
    obtain ⟨⟨k, x⟩, hk⟩ : ∃ p, kvs[i]? = some p := ⟨_, List.getElem?_eq_getElem (by omega)⟩
    obtain ⟨en', he', rx⟩ := hen i k x hk
    rw [he] at he'
    cases he'
    have hx : (kvs.map (·.2))[i]? = some x := by rw [List.getElem?_map, hk]; rfl
    rw [hn, List.getElem?_map] at hx
    have hin : i < ns.length := by omega
    rw [List.getElem?_eq_getElem hin] at hx
    have ex : V.int ns[i] = x := Option.some.inj hx
    rw [← ex] at rx
    have : ns.getD i 0 = ns[i] := by simp [List.getD, hin]
    show ∃ t, en.val = Value.int (ns.getD i 0) t
    rw [this]
    exact rx
  · intro h' tk t' hk
    have e1 : preSum (fun i => ns.getD i 0) es.size = ns.sum := by
      rw [hsz, hlen, preSum_list ns ns.length, List.take_length]
    rw [e1]
    refine ⟨.int ns.sum, H, I.kept (t' := tk) fun b o eo => hk b o (fun hm => ?_) (Heap.get?_push_of_some _ eo), ⟨_, rfl⟩, q⟩
    have : b = s.heap.objs.size := by simpa using hm
    exact absurd (this ▸ Heap.lt_size eo) (Nat.lt_irrefl _)
end
end Ta

set_option Elab.async false
set_option linter.all false
set_option maxRecDepth 100000
set_option maxHeartbeats 2000000
/-! list(d), list(d.values()), list(range(n)), max of four, xs.extend(t): my own additions. -/
namespace Tv
open PySem PySem.Spec
section
variable {prog : Program} {w : World} {A : Around} {E : Value → Shared → Prop} {s : Shared}
theorem walksK (hh : A.handled = none) (I d : Addr) (hne : d ≠ I) (es : Array DictEntry) (ep : Nat) :
    Walks prog w A I [I, d] [I] es.size (fun i v => ∃ en, es[i]? = some en ∧ v = en.key) (fun i h => h.IsKeyIter I d i es.size ep ∧ Raw h d es ep) where
  sub := fun b hb => by simp at hb; exact List.mem_cons.mpr (.inl hb)
  frame := fun _ _ _ st hk => ⟨st.1.at fun o e => hk I (by simp) o e, st.2.at fun o e => hk d (by simp) o e⟩
  item := fun i s Q E hi st hQ => by
    obtain ⟨od, hod, hx, hdd⟩ := id st.2
    refine L2.next_key_item st.1 hod hdd rfl (Array.getElem?_eq_getElem hi) fun h' hit' hs' => ?_
    refine hQ _ h' s.toks ⟨_, Array.getElem?_eq_getElem hi, rfl⟩ ⟨hit', st.2.at fun o e => (hs'.2 d hne).trans e⟩ fun b o hb e => (hs'.2 b (fun z => hb (by simp [z]))).trans e
  done := fun s Q E st hQ => by
    obtain ⟨od, hod, hx, hdd⟩ := id st.2
    exact L2.next_key_end hh st.1 hod hdd rfl (Nat.le_refl _) fun h' he' => hQ h' s.toks fun b o hb e => he' b o (fun z => hb (by simp [z])) e
  self := fun _ _ _ _ st hQ => wpAny_pyIter_keyiter st.1 hQ
theorem Raw.lt {h : Heap} {d : Addr} {es : Array DictEntry} {ep : Nat} (x : Raw h d es ep) : d < h.objs.size := let ⟨_, ho, _⟩ := x; Heap.lt_size ho
theorem srcK {d : Addr} (lo : (d == sysModules) = false) (es : Array DictEntry) (ep : Nat) : PySem.W.KdlSrc prog w "dict" d d es.size (fun i v => ∃ en, es[i]? = some en ∧ v = en.key) (fun h => Raw h d es ep) where
  type := fun s hm => hm.ty
  there := fun _ hm => ⟨hm.lt, hm.lt⟩
  keep := fun _ _ hm hk => hm.at fun o e => hk d (.inl rfl) o e
  notList := by decide
  notTuple := by decide
  hint := fun _ _ s _ hm hq => PySem.W.kdl_hint_dict (hm.ty (s := s)) hq
  iter := fun _ _ hh hm => ⟨_, _, (fun _ _ hq => let ⟨_, ho, hx, hd⟩ := hm; L2.iter_keys lo ho hx hd hq), walksK hh _ d (Nat.ne_of_lt hm.lt) es ep, ⟨⟨_, Heap.get?_push_size _ rfl, rfl, rfl⟩, hm.at fun o e => Heap.get?_push_of_some _ e⟩⟩
theorem srcV {d r : Addr} (es : Array DictEntry) (ep : Nat) : PySem.W.KdlSrc prog w "dict_values" r d es.size (fun i v => ∃ en, es[i]? = some en ∧ v = en.val) (fun h => h.IsValuesView r d ∧ Raw h d es ep) where
  type := fun _ hm => hm.1.typeIs
  there := fun _ hm => ⟨let ⟨_, ho, _⟩ := hm.1; Heap.lt_size ho, hm.2.lt⟩
  keep := fun _ _ hm hk => ⟨let ⟨o, ho, x⟩ := hm.1; ⟨o, hk r (.inl rfl) o ho, x⟩, hm.2.at fun o e => hk d (.inr rfl) o e⟩
  notList := by decide
  notTuple := by decide
  hint := fun _ _ _ _ hm hq => PySem.W.kdl_hint_values hm.1.typeIs hq
  iter := fun _ _ hh hm => ⟨_, _, (fun _ _ hq => iter_values hm.1 hm.2 hq), walks hh _ d (Nat.ne_of_lt hm.2.lt) es ep, ⟨⟨_, Heap.get?_push_size _ rfl, rfl, rfl⟩, hm.2.at fun o e => Heap.get?_push_of_some _ e⟩⟩
end
end Tv
namespace Ta
open PySem PySem.Spec PyProof.Rows L2
theorem vals_refs : ∀ l : List Addr, Vals (l.map V.ref) (l.map Value.ref)
  | [] => .nil
  | a :: l => .cons rfl (vals_refs l)
theorem vals_get : ∀ {xs : List V} {us : List Value}, xs.length = us.length → (∀ (i : Nat) x u, xs[i]? = some x → us[i]? = some u → RelV x u) → Vals xs us
  | [], [], _, _ => .nil
  | [], _ :: _, h, _ => by simp at h
  | _ :: _, [], h, _ => by simp at h
  | x :: xs, u :: us, h, r => .cons (r 0 x u rfl rfl) (vals_get (by simpa using h) fun i y v e1 e2 => r (i + 1) y v e1 e2)
/-- the keys of a dict, tuples of numbers, as a list -/
def rListD : List V → Hp → VK → Prop := fun vs H Q => ∃ (d : Addr) (kvs : List (List Key × V)), vs = [.ref d] ∧ H d = some (.dT kvs) ∧
  ∀ (l : Addr) (rs : List Addr), H l = none → rs.length = kvs.length → (∀ (i : Nat) k v r, kvs[i]? = some (k, v) → rs[i]? = some r → H r = some (.tup (k.map kV))) → Q (.ref l) (upd H l (.lst (rs.map V.ref)))
/-- list(d.values()) -/
def rListV : List V → Hp → VK → Prop := fun vs H Q => ∃ (v d : Addr) (kvs : List (List Key × V)), vs = [.ref v] ∧ H v = some (.ext fun h => h.IsValuesView v d) ∧ H d = some (.dT kvs) ∧ ∀ l, H l = none → Q (.ref l) (upd H l (.lst (kvs.map (·.2))))
section
variable {X : Cx} {e : Expr} {td : TE} {apos cpos : Pos}
theorem raw_ofK {pins : List (Addr × Obj)} {σ : L2.St} {H : Hp} {s : Shared} {d : Addr} {kvs : List (List Key × V)} (I : Inv X pins σ H s) (h : H d = some (.dT kvs)) :
    (d == sysModules) = false ∧ kvs.length ≤ sizeLine ∧ ∃ (es : Array DictEntry) (ep : Nat) (rs : List Addr), Tv.Raw s.heap d es ep ∧ es.size = kvs.length ∧ rs.length = kvs.length ∧ (∀ (i : Nat) en, es[i]? = some en → ∃ r, rs[i]? = some r ∧ en.key = .ref r) ∧
      ∀ (i : Nat) k v r, kvs[i]? = some (k, v) → rs[i]? = some r → H r = some (.tup (k.map kV)) := by
  obtain ⟨z, hs, xs, pr, o, es, ep, ho, hx, hdt, he, _⟩ := I.hok d _ h
  have l1 : es.size = xs.length := size_of_entries he
  have l2 : kvs.length = xs.length := Paired.length pr
  refine ⟨hs, z, es, ep, xs.map (·.2.1), ⟨o, ho, hx, hdt⟩, by omega, by simp; omega, fun i en q => ?_, fun i k v r q1 q2 => ?_⟩
  · have q2 := entry_at he i
    rw [q] at q2
    cases e : xs[i]? with
    | none => rw [e] at q2; cases q2
    | some b =>
      rw [e] at q2
      refine ⟨b.2.1, by rw [List.getElem?_map, e]; rfl, ?_⟩
      have : en = _ := Option.some.inj q2
      rw [this]
      rfl
  · obtain ⟨b, hb, e1, e2, e3⟩ := paired_get pr q1
    rw [List.getElem?_map, hb] at q2
    have : b.2.1 = r := Option.some.inj q2
    rw [← this]
    exact e2
theorem cr_listD (hc : X.calm = true) : CallR X (.type "list") rListD := by
  intro pins s σ H vs us Q I r h
  obtain ⟨d, kvs, rfl, hd, q⟩ := h
  rw [Vals.ref1 r]
  obtain ⟨hs, hz, es, ep, rs, hr, hsz, hrl, hk, hH⟩ := raw_ofK I hd
  refine PySem.W.kdl_call (Tv.srcK hs es ep) (I.ok.hd hc) hr (by omega) fun h' tk acc' c' kp hD hacc => ?_
  have e1 : acc'.toList = rs.map Value.ref := by
    apply List.ext_getElem
    · rw [Array.length_toList, hacc.1, List.length_map]; omega
    · intro i h1 h2
      have h3 : i < acc'.size := by simpa using h1
      obtain ⟨en, he, hv⟩ := hacc.2 i acc'[i] (Array.getElem?_eq_getElem h3)
      obtain ⟨r, hr1, hr2⟩ := hk i en he
      rw [List.getElem_map, Array.getElem_toList, hv, hr2]
      rw [List.getElem?_eq_getElem (by simpa using h2)] at hr1
      rw [Option.some.inj hr1]
  have hv : Vals (rs.map V.ref) acc'.toList := by rw [e1]; exact vals_refs rs
  refine ⟨.ref s.heap.objs.size, _, I.laid (t' := tk) kp (Nat.le_refl _) (show ObjOk X.prog X.w _ h' _ (.lst (rs.map V.ref)) from ⟨by rw [List.length_map]; omega, acc'.toList, c', hv, by simpa using hD⟩), rfl, q _ rs (I.hok.fresh (Nat.le_refl _)) hrl hH⟩
theorem cr_listV (hc : X.calm = true) : CallR X (.type "list") rListV := by
  intro pins s σ H vs us Q I r h
  obtain ⟨v, d, kvs, rfl, hv, hd, q⟩ := h
  rw [Vals.ref1 r]
  obtain ⟨hvv, ⟨ov, hov⟩, _⟩ := I.hok v _ hv
  have hz : kvs.length ≤ sizeLine := (raw_ofK I hd).2.1
  obtain ⟨hs, es, ep, hr, hsz, hen⟩ := raw_of I hd
  refine PySem.W.kdl_call (Tv.srcV es ep) (I.ok.hd hc) ⟨hvv, hr⟩ (by omega) fun h' tk acc' c' kp hD hacc => ?_
  have hvs : Vals (kvs.map (·.2)) acc'.toList := by
    refine vals_get (by have := hacc.1; simp; omega) fun i x u e1 e2 => ?_
    rw [List.getElem?_map] at e1
    cases e3 : kvs[i]? with
    | none => rw [e3] at e1; cases e1
    | some p =>
      rw [e3] at e1
      cases e1
      obtain ⟨en, he, rx⟩ := hen i p.1 p.2 e3
      obtain ⟨en', he', hv'⟩ := hacc.2 i u (by rw [← Array.getElem?_toList]; exact e2)
      rw [he] at he'
      cases he'
      rw [hv']
      exact rx
  refine ⟨.ref s.heap.objs.size, _, I.laid (t' := tk) kp (Nat.le_refl _) (show ObjOk X.prog X.w _ h' _ (.lst (kvs.map (·.2))) from ⟨by rw [List.length_map]; omega, acc'.toList, c', hvs, by simpa using hD⟩), rfl, q _ (I.hok.fresh (Nat.le_refl _))⟩
/-- list(range(n)) -/
def tListR (te : TE) : TE := fun σ H Q => te σ H fun x H1 => ∃ n : Nat, x = .int (n : Nat) ∧ n ≤ 1000 ∧ ∀ l, H1 l = none → Q (.ref l) (upd H1 l (.lst ((List.range n).map fun (i : Nat) => V.int (i : Int))))
def rRange : List V → Hp → VK → Prop := fun vs H Q => ∃ n : Nat, vs = [.int (n : Nat)] ∧ ∀ r, H r = none → Q (.ref r) (upd H r (.ext fun h => ∃ t u v, IsRange h r 0 n 1 t u v))
def rListR : List V → Hp → VK → Prop := fun vs H Q => ∃ (r : Addr) (n : Nat), vs = [.ref r] ∧ H r = some (.ext fun h => ∃ t u v, IsRange h r 0 n 1 t u v) ∧ n ≤ 1000 ∧ ∀ l, H l = none → Q (.ref l) (upd H l (.lst ((List.range n).map fun (i : Nat) => V.int (i : Int))))
theorem cr_range : CallR X (.type "range") rRange := by
  intro pins s σ H vs us Q I r h
  obtain ⟨n, rfl, q⟩ := h
  obtain ⟨u, rfl, ru⟩ := Vals.one r
  obtain ⟨t, rfl⟩ := ru
  refine call_range_1 ⟨.ref s.heap.objs.size, _, I.laid (a := s.heap.objs.size) (o := .ext fun h => ∃ t u v, IsRange h s.heap.objs.size 0 n 1 t u v) (t' := s.toks + 1 + 1) (fun b ob q => Heap.get?_push_of_some _ q) (Nat.le_refl _) ?_, rfl, q _ I.fresh⟩
  exact ⟨⟨_, _, _, Heap.get?_push_size _ rfl⟩, ⟨_, Heap.get?_push_size _ rfl⟩, fun h1 h2 ⟨t, u, v, h3⟩ k => ⟨t, u, v, k _ h3⟩⟩
theorem cr_listR (hc : X.calm = true) : CallR X (.type "list") rListR := by
  intro pins s σ H vs us Q I r h
  obtain ⟨rr, n, rfl, hr, hn, q⟩ := h
  rw [Vals.ref1 r]
  obtain ⟨⟨t, u, v, hrr⟩, _, _⟩ := I.hok rr _ hr
  have hsz : Builtin.Range.rangeSize 0 (n : Int) 1 = ((n : Nat) : Int) := by rw [rangeSize_one]; split <;> omega
  refine call_list_range (n := n) (I.ok.hd hc) hrr (small_one (by decide) (by decide) (by omega) (by omega)) hsz (by omega) fun h' tk acc' c' kp hD hacc => ?_
  have hvs : Vals ((List.range n).map fun (i : Nat) => V.int (i : Int)) acc'.toList := by
    refine vals_get (by have := hacc.1; simp; omega) fun i x w e1 e2 => ?_
    have hi : i < n := by
      have := (List.getElem?_eq_some_iff.mp e1).1
      simpa using this
    rw [List.getElem?_map, List.getElem?_range hi] at e1
    cases e1
    obtain ⟨t, ht⟩ := hacc.2 i w (by rw [← Array.getElem?_toList]; exact e2)
    rw [ht]
    exact ⟨t, by simp⟩
  refine ⟨.ref s.heap.objs.size, _, I.laid (t' := tk) kp (Nat.le_refl _) (show ObjOk X.prog X.w _ h' _ (.lst ((List.range n).map fun (i : Nat) => V.int (i : Int))) from ⟨by rw [List.length_map, List.length_range, sizeLine_eq]; omega, acc'.toList, c', hvs, by simpa using hD⟩), rfl, q _ (I.hok.fresh (Nat.le_refl _))⟩
/-- xs.extend(t), t a tuple -/
def rExtendT : V → List V → Hp → VK → Prop := fun x vs H Q => ∃ l b xs zs, x = .ref l ∧ vs = [.ref b] ∧ H l = some (.lst xs) ∧ H b = some (.tup zs) ∧ xs.length + zs.length ≤ sizeLine ∧ Q .non (upd H l (.lst (xs ++ zs)))
theorem meets_extT (l : Addr) (items : Array Value) (n : Nat) (b : Addr) (o2 : Obj) (items2 : Array Value) (n2 : Nat) (h1 : o2.cls = .type "tuple") (h2 : o2.data = .seq items2 n2) (hsz : items.size + items2.size ≤ sizeLine) :
    Meets (Builtin.«list.extend» ⟨[.ref l, .ref b], []⟩) (fun _ R s => s.heap.get? l = some { cls := .type "list", data := .seq items n } ∧ s.heap.get? b = some o2 ∧ R (.ok (.ret .none)) { s with heap := s.heap.update l (Obj.mapSeq fun x => x ++ items2) }) :=
  .of_wp fun prog w A R s h => by
    obtain ⟨hl, hb, h⟩ := h
    show wpAny _ _ (Builtin.List.listExtendWith (.ref l) (.ref b) .none) _ _ s
    unfold Builtin.List.listExtendWith
    refine wpAny_bind (wpAny_typeOf (T := "tuple") ⟨o2, hb, h1⟩ ?_)
    rw [if_pos (by simp)]
    unfold Builtin.List.listItems
    refine wpAny_bind (wpAny_bind (wpAny_seqItems hb h2 (wpAny_pure ?_)))
    refine wpAny_bind (wpAny_bind (wpAny_seqItems hl rfl (wpAny_pure ?_)))
    rw [if_neg (by rw [notLongL hsz, Bool.and_false]; exact Bool.false_ne_true)]
    refine wpAny_bind ?_
    show wpAny _ _ (updateSeq l (· ++ items2)) _ _ _
    refine wpAny_updateSeq hl rfl (hz := by have := hsz; omega) (_hz' := by rw [Array.size_append]; omega) ?_
    exact wpAny_bind (wpAny_pure (wpAny_pure ⟨_, rfl, h⟩))
theorem mt_extendT : MtM X "list.extend" rExtendT := by
  intro pins s σ H x vs v us Q I rx rv h
  obtain ⟨l, b, xs, zs, rfl, rfl, hH, hB, hz, q⟩ := h
  cases rx
  obtain ⟨u, rfl, ru⟩ := rv.one
  cases ru
  obtain ⟨z, its, n, r, hl, e⟩ := I.lstM hH
  obtain ⟨z2, its2, r2, o2, e2, c2, n2, d2⟩ := I.hok b _ hB
  have hsz : its.toArray.size + its2.toArray.size ≤ sizeLine := by rw [List.size_toArray, List.size_toArray, ← hl, ← r2.length]; exact hz
  refine call_meets F.slot_list_extend ⟨_, e, rfl⟩ F.entry_list_extend (F.args_list_extend_2 _ _) (meets_extT l its.toArray n b o2 its2.toArray n2 c2 d2 hsz) ⟨e, e2, ?_⟩
  refine ⟨.non, _, I.lset (its' := its ++ its2) hH e (by simp) (r.append r2) (by rw [List.length_append]; exact hz), rfl, q⟩
/-- max(a, b, c, d) -/
def rMax4 : List V → Hp → VK → Prop := fun vs H Q => ∃ a b c d : Int, vs = [.int a, .int b, .int c, .int d] ∧ ∀ m : Int, (m = a ∨ m = b ∨ m = c ∨ m = d) → a ≤ m → b ≤ m → c ≤ m → d ≤ m → Q (.int m) H
theorem argsMax4 (a b c d : Value) : argsOk "max" ⟨[a, b, c, d], []⟩ := by unfold argsOk; kernel_rfl
theorem cr_max4 (hc : X.calm = true) : CallR X (.builtin "max") rMax4 := by
  intro pins s σ H vs us Q I r h
  obtain ⟨a, b, c, d, rfl, q⟩ := h
  cases r with
  | cons r1 r => cases r with
    | cons r2 r => cases r with
      | cons r3 r => cases r with
        | cons r4 r =>
          cases r
          obtain ⟨t1, rfl⟩ := r1
          obtain ⟨t2, rfl⟩ := r2
          obtain ⟨t3, rfl⟩ := r3
          obtain ⟨t4, rfl⟩ := r4
          have hh : X.A.in1.handled = none := I.ok.hd hc
          have hname : (toString "max" ++ toString ".loop" : String) = "max.loop" := by decide
          have hT : (s.heap.push { cls := .type "tuple", data := .seq #[.int a t1, .int b t2, .int c t3, .int d t4] }).IsTuple s.heap.objs.size (intItems #[(a, t1), (b, t2), (c, t3), (d, t4)]) := ⟨_, Heap.get?_push_size _ rfl, rfl, 0, by simp [intItems]⟩
          have hsz : (s.heap.push { cls := .type "tuple", data := .seq #[.int a t1, .int b t2, .int c t3, .int d t4] }).objs.size = s.heap.objs.size + 1 := Heap.size_push ..
          refine call_function_tree PySem.F.kind_max PySem.F.plain_max PySem.F.entry_max (argsMax4 _ _ _ _) ?_
          show wpAny _ X.A.in1 (Builtin.Builtins.bindParams "max" ["key", "default"] 0 ⟨[], []⟩ >>= _) _ _ s; refine wpAny_bind (wpAny_of_eq (a := [none, none]) rfl ?_)
          show wpAny _ X.A.in1 (newTuple [.int a t1, .int b t2, .int c t3, .int d t4] >>= _) _ _ s
          refine wpAny_bind (wpAny_newObj_type ?_); refine wpAny_bind (wpAny_pyIter_tuple hT ?_); refine wpAny_bind (wpAny_newObj_type ?_)
          rw [hname]
          have W := Walks.tuple (prog := X.prog) (w := X.w) (A := X.A.in1) hh (s.heap.push { cls := .type "tuple", data := .seq #[.int a t1, .int b t2, .int c t3, .int d t4] }).objs.size s.heap.objs.size (by rw [hsz]; exact Nat.ne_of_lt (Nat.lt_succ_self _)) (intItems #[(a, t1), (b, t2), (c, t3), (d, t4)])
          refine wpAny_pure ⟨plainId_quiet PySem.F.plain_max_loop _, codeAny_max_loop_first W _ (CmpOf.ints_gt (numAt #[(a, t1), (b, t2), (c, t3), (d, t4)]) (fun _ _ => intItems_at)) _ ?_ (by simp [intItems]) ?_ (Heap.get?_push_size _ rfl) fun v h' tk hP hk => ?_⟩
          · intro hm
            rcases List.mem_cons.mp hm with e1 | hm
            · rw [Heap.size_push] at e1
              exact Nat.succ_ne_self _ e1
            · rcases List.mem_cons.mp hm with e1 | hm
              · rw [Heap.size_push, hsz] at e1
                exact absurd e1 (Nat.ne_of_gt (Nat.lt_succ_of_lt (Nat.lt_succ_self _)))
              · cases hm
          · exact W.frame _ _ _ ⟨⟨_, Heap.get?_push_size _ rfl, rfl, rfl⟩, hT.push _⟩ fun b _ o e => Heap.get?_push_of_some _ e
          · have hv : ∃ t, v = .int (numAt #[(a, t1), (b, t2), (c, t3), (d, t4)] (argBest (fun i j => decide (numAt #[(a, t1), (b, t2), (c, t3), (d, t4)] i > numAt #[(a, t1), (b, t2), (c, t3), (d, t4)] j)) 3)) t := intItems_at (by simpa [intItems] using hP)
            obtain ⟨t, rfl⟩ := hv
            obtain ⟨g1, g2⟩ := argBest_gt (numAt #[(a, t1), (b, t2), (c, t3), (d, t4)]) 3
            generalize argBest (fun i j => decide (numAt #[(a, t1), (b, t2), (c, t3), (d, t4)] i > numAt #[(a, t1), (b, t2), (c, t3), (d, t4)] j)) 3 = k at g1 g2
            refine ⟨.int (numAt #[(a, t1), (b, t2), (c, t3), (d, t4)] k), H, I.kept fun b o e => ?_, ⟨t, rfl⟩, q _ ?_ (g2 0 (by omega)) (g2 1 (by omega)) (g2 2 (by omega)) (g2 3 (by omega))⟩
            · have hb := Heap.lt_size e
              refine hk b o (fun hm => ?_) ?_ (Heap.get?_push_of_some _ (Heap.get?_push_of_some _ (Heap.get?_push_of_some _ e)))
              · rcases List.mem_cons.mp hm with e1 | hm
                · rw [e1, hsz] at hb; exact absurd (Nat.lt_of_succ_lt hb) (Nat.lt_irrefl _)
                · cases hm
              · rw [Heap.size_push, hsz]; exact Nat.ne_of_lt (Nat.lt_succ_of_lt (Nat.lt_succ_of_lt hb))
            · have : k = 0 ∨ k = 1 ∨ k = 2 ∨ k = 3 := by omega
              rcases this with rfl | rfl | rfl | rfl
              · exact .inl rfl
              · exact .inr (.inl rfl)
              · exact .inr (.inr (.inl rfl))
              · exact .inr (.inr (.inr rfl))
end
end Ta

set_option Elab.async false
set_option linter.all false
set_option maxRecDepth 100000
set_option maxHeartbeats 2000000
/-! min(xs, key=len), xs a list of lists: the first of the shortest. -/
namespace Tv
open PySem PySem.Spec PyProof.Rows
abbrev Kp (h h' : Heap) : Prop := ∀ b o, h.get? b = some o → h'.get? b = some o
section
variable {prog : Program} {w : World} {A : Around} {E : Value → Shared → Prop} {s : Shared} {l I S : Addr} {vs : List Value} {R : Result → Shared → Prop} {Q : Value → Shared → Prop}
theorem kp_item {h h' : Heap} {I : Addr} {h0 : Heap} (k : Kp h0 h) (hI : h0.objs.size ≤ I) (hk : ∀ b o, b ∉ [I] → h.get? b = some o → h'.get? b = some o) : Kp h0 h' := fun b o e =>
  hk b o (fun z => by rw [List.mem_singleton.mp z] at e; exact absurd (Heap.lt_size e) (Nat.not_lt.mpr hI)) (k b o e)
theorem kp_set {h : Heap} {S : Addr} {f : Obj → Obj} {h0 : Heap} (k : Kp h0 h) (hS : h0.objs.size ≤ S) : Kp h0 (h.update S f) := fun b o e =>
  (Heap.get?_update_other _ _ (fun z => by rw [← z] at e; exact absurd (Heap.lt_size e) (Nat.not_lt.mpr hS))).trans (k b o e)
theorem min_loop (kf : Nat → Int) (hh : A.handled = none) (hl : ∀ h, Kp s.heap h → h.IsList l vs.toArray) (hlI : l ≠ I) (hSI : S ≠ I) (hI : s.heap.objs.size ≤ I) (hS : s.heap.objs.size ≤ S)
    (turn : ∀ (i : Nat) (v : Value), vs[i]? = some v → ∀ (h : Heap) (tk : Nat) (Q' : Value → Shared → Prop) (E' : Value → Shared → Prop), Kp s.heap h → (∀ t tk', Q' (.int (kf i) t) { s with heap := h, toks := tk' }) → wpAny (model prog w) A.in1 (call (.builtin "len") [v]) Q' E' { s with heap := h, toks := tk })
    (hR : ∀ i v h' tk', vs[i]? = some v → (∀ j, j < vs.length → kf i ≤ kf j ∧ (j < i → kf i < kf j)) → Kp s.heap h' → R (.ok (.ret v)) { s with heap := h', toks := tk' }) :
    ∀ (r j i : Nat) (h : Heap) (tk : Nat) (vb : Value) (tb : Tok) (c : Nat), vs.length - (j + 1) = r → j + 1 ≤ vs.length → Kp s.heap h → h.get? S = some (seqObj "list" #[vb, .int (kf i) tb] c) → h.IsListIter I l (j + 1) → vs[i]? = some vb → i ≤ j →
      (∀ j', j' ≤ j → kf i ≤ kf j' ∧ (j' < i → kf i < kf j')) → codeAny (model prog w) A (.builtin "min.loop" ⟨[.ref I, .builtin "len", .ref S], []⟩) R { s with heap := h, toks := tk } := by
  have hname : (toString "min" ++ toString ".loop" : String) = "min.loop" := by decide
  have W := Walks.list (prog := prog) (w := w) (A := A.in1) hh I l hlI vs.toArray
  have hsz : vs.toArray.size = vs.length := List.size_toArray ..
  intro r
  induction r with
  | zero =>
    intro j i h tk vb tb c hr hj kp hSo hit hvb hij hbest
    have hin : j + 1 = vs.length := by omega
    refine codeAny_builtin PySem.F.entry_min_loop ?_; rw [Around.under_plainId PySem.F.plain_min_loop _]
    show wpAny _ A.in1 (seqItems? (.ref S) >>= _) _ _ _; refine wpAny_bind (wpAny_seqItems hSo rfl ?_)
    show wpAny _ A.in1 (tryCatch (pyNext (.ref I)) _ >>= _) _ _ _; refine wpAny_bind (wpAny_tryCatch (W.done _ _ _ ⟨by rw [hsz, ← hin]; exact hit, hl h kp⟩ fun h' tk' hk' => ?_))
    have hS' := hk' S _ (by simpa using hSI) hSo
    show wpAny _ A.in1 (updateSeq S (fun _ => #[]) >>= _) _ _ _; refine wpAny_bind ?_
    refine wpAny_updateSeq hS' rfl (wpAny_bind (wpAny_letGo (wpAny_pure ?_)))
    exact hR i vb _ _ hvb (fun j' hj' => hbest j' (by omega)) (kp_set (kp_item kp hI hk') hS)
  | succ r ih =>
    intro j i h tk vb tb c hr hj kp hSo hit hvb hij hbest
    have hlt : j + 1 < vs.length := by omega
    refine codeAny_builtin PySem.F.entry_min_loop ?_; rw [Around.under_plainId PySem.F.plain_min_loop _]
    show wpAny _ A.in1 (seqItems? (.ref S) >>= _) _ _ _; refine wpAny_bind (wpAny_seqItems hSo rfl ?_)
    show wpAny _ A.in1 (tryCatch (pyNext (.ref I)) _ >>= _) _ _ _; refine wpAny_bind (wpAny_tryCatch (W.item (j + 1) _ _ _ (by rw [hsz]; exact hlt) ⟨hit, hl h kp⟩ fun v h' tk' hP hst' hk' => ?_))
    have hv : vs[j + 1]? = some v := by simpa using hP
    have kp1 := kp_item kp hI hk'
    have hS1 := hk' S _ (by simpa using hSI) hSo
    show wpAny _ A.in1 (tryCatch (holding [v] (call (.builtin "len") [v])) _ >>= _) _ _ _
    refine wpAny_bind (wpAny_tryCatch (wpAny_holding (turn (j + 1) v hv h' tk' _ _ kp1 fun t2 tk2 => ?_)))
    show wpAny _ A.in1 (tryCatch (holding [v, .int (kf (j + 1)) t2] (richCompare .Lt (.int (kf (j + 1)) t2) (.int (kf i) tb) >>= _)) _ >>= _) _ _ _
    refine wpAny_bind (wpAny_tryCatch (wpAny_holding (wpAny_bind (CmpOf.ints_lt (prog := prog) (w := w) (A := A.in1) (P := fun i v => ∃ t, v = .int (kf i) t) kf (fun i v h => h) (j + 1) i _ _ _ _ _ ⟨t2, rfl⟩ ⟨tb, rfl⟩ ?_))))
    refine wpAny_bind (wpAny_holding (wpAny_truthy_bool ?_)); refine wpAny_bind (wpAny_letGo (wpAny_pure ?_))
    by_cases hb' : kf (j + 1) < kf i
    · obtain ⟨c2, hc2⟩ : ∃ c2, (h'.update S (Obj.mapSeq fun _ => #[v, .int (kf (j + 1)) t2])).get? S = some (seqObj "list" #[v, .int (kf (j + 1)) t2] c2) := ⟨_, get?_update_seq hS1 fun _ => #[v, .int (kf (j + 1)) t2]⟩
      simp only [hb', decide_true, if_true]; refine wpAny_bind ?_
      refine wpAny_updateSeq hS1 rfl (wpAny_bind (wpAny_letGo ?_)); rw [hname]
      refine wpAny_pure ⟨plainId_quiet PySem.F.plain_min_loop _, ih (j + 1) (j + 1) _ _ v t2 c2 (by omega) hlt (kp_set kp1 hS) hc2 (hst'.1.at fun o e => (Heap.get?_update_other _ _ hSI).trans e) hv (Nat.le_refl _) fun j' hj' => ?_⟩
      by_cases e : j' = j + 1
      · subst e; exact ⟨by omega, fun _ => by omega⟩
      · have hb1 := hbest j' (by omega); have hb2 := hb1.1
        exact ⟨by omega, fun _ => by omega⟩
    · simp only [hb', decide_false, Bool.false_eq_true, if_false]; refine wpAny_bind (wpAny_letGo ?_); rw [hname]
      refine wpAny_pure ⟨plainId_quiet PySem.F.plain_min_loop _, ih (j + 1) i _ _ vb tb c (by omega) hlt kp1 hS1 hst'.1 hvb (by omega) fun j' hj' => ?_⟩
      by_cases e : j' = j + 1
      · subst e; exact ⟨by omega, fun _ => by omega⟩
      · exact hbest j' (by omega)
theorem min_len (kf : Nat → Int) (hh : A.handled = none) (hl : ∀ h, Kp s.heap h → h.IsList l vs.toArray) (hne : 0 < vs.length)
    (turn : ∀ (i : Nat) (v : Value), vs[i]? = some v → ∀ (h : Heap) (tk : Nat) (Q' : Value → Shared → Prop) (E' : Value → Shared → Prop), Kp s.heap h → (∀ t tk', Q' (.int (kf i) t) { s with heap := h, toks := tk' }) → wpAny (model prog w) A.in1 (call (.builtin "len") [v]) Q' E' { s with heap := h, toks := tk })
    (hQ : ∀ i v h' tk', vs[i]? = some v → (∀ j, j < vs.length → kf i ≤ kf j ∧ (j < i → kf i < kf j)) → Kp s.heap h' → Q v { s with heap := h', toks := tk' }) :
    wpAny (model prog w) A (call (.builtin "min") [.ref l] [(Str.ofString "key", .builtin "len")]) Q E s := by
  have hname : (toString "min" ++ toString ".loop" : String) = "min.loop" := by decide
  have hls := hl _ fun _ _ e => e
  obtain ⟨ol, hol, _⟩ := id hls
  have hll : l < s.heap.objs.size := Heap.lt_size hol
  refine kmb_tree PySem.F.kind_min PySem.F.plain_min PySem.F.entry_min (kmb_min_key _ _) ?_
  show wpAny _ A.in1 (Builtin.Builtins.bindParams "min" ["key", "default"] 0 ⟨[], [(Str.ofString "key", .builtin "len")]⟩ >>= _) _ _ s; refine wpAny_bind (wpAny_of_eq (a := [some (.builtin "len"), none]) rfl ?_)
  refine wpAny_bind (wpAny_pure ?_); refine wpAny_bind (wpAny_pyIter_list hls ?_); refine wpAny_bind (wpAny_newList ?_ (Nat.zero_le _)); rw [hname]
  have hS : (s.heap.push { cls := .type "list_iterator", data := .fields #[.ref l, .int 0 0] }).objs.size = s.heap.objs.size + 1 := size_push' ..
  generalize hSS : (s.heap.push { cls := .type "list_iterator", data := .fields #[.ref l, .int 0 0] }).objs.size = S at hS
  have hlI : l ≠ s.heap.objs.size := Nat.ne_of_lt hll
  have hSI : S ≠ s.heap.objs.size := by rw [hS]; exact Nat.ne_of_gt (Nat.lt_succ_self _)
  have hSle : s.heap.objs.size ≤ S := by rw [hS]; exact Nat.le_succ _
  refine wpAny_pure ⟨plainId_quiet PySem.F.plain_min_loop _, ?_⟩
  have gI : ((s.heap.push { cls := .type "list_iterator", data := .fields #[.ref l, .int 0 0] }).push (seqObj "list" #[] 0)).get? s.heap.objs.size = some { cls := .type "list_iterator", data := .fields #[.ref l, .int 0 0] } := Heap.get?_push_of_some _ (Heap.get?_push_size _ rfl)
  have gS : ((s.heap.push { cls := .type "list_iterator", data := .fields #[.ref l, .int 0 0] }).push (seqObj "list" #[] 0)).get? S = some (seqObj "list" #[] 0) := by rw [← hSS]; exact Heap.get?_push_size _ rfl
  have kp0 : Kp s.heap ((s.heap.push { cls := .type "list_iterator", data := .fields #[.ref l, .int 0 0] }).push (seqObj "list" #[] 0)) := fun b o e => Heap.get?_push_of_some _ (Heap.get?_push_of_some _ e)
  have W := Walks.list (prog := prog) (w := w) (A := A.in1) hh s.heap.objs.size l hlI vs.toArray
  have hsz : vs.toArray.size = vs.length := List.size_toArray ..
  refine codeAny_builtin PySem.F.entry_min_loop ?_; rw [Around.under_plainId PySem.F.plain_min_loop _]
  show wpAny _ A.in1 (seqItems? (.ref _) >>= _) _ _ _; refine wpAny_bind (wpAny_seqItems gS rfl ?_)
  show wpAny _ A.in1 (tryCatch (pyNext (.ref s.heap.objs.size)) _ >>= _) _ _ _; refine wpAny_bind (wpAny_tryCatch (W.item 0 _ _ _ (by rw [hsz]; exact hne) ⟨⟨_, gI, rfl, rfl⟩, hl _ kp0⟩ fun v h' tk' hP hst' hk' => ?_))
  have hv : vs[0]? = some v := by simpa using hP
  have kp1 := kp_item kp0 (Nat.le_refl _) hk'
  have hS1 := hk' S _ (by simpa using hSI) gS
  show wpAny _ A.in1 (tryCatch (holding [v] (call (.builtin "len") [v])) _ >>= _) _ _ _; refine wpAny_bind (wpAny_tryCatch (wpAny_holding (turn 0 v hv h' tk' _ _ kp1 fun t2 tk2 => ?_)))
  obtain ⟨c2, hc2⟩ : ∃ c2, (h'.update S (Obj.mapSeq fun _ => #[v, .int (kf 0) t2])).get? S = some (seqObj "list" #[v, .int (kf 0) t2] c2) := ⟨_, get?_update_seq hS1 fun _ => #[v, .int (kf 0) t2]⟩
  show wpAny _ A.in1 (updateSeq S (fun _ => #[v, .int (kf 0) t2]) >>= _) _ _ _; refine wpAny_bind ?_
  refine wpAny_updateSeq hS1 rfl ?_; rw [hname]
  refine wpAny_pure ⟨plainId_quiet PySem.F.plain_min_loop _, min_loop kf hh hl hlI hSI (Nat.le_refl _) hSle turn hQ _ 0 0 _ _ v t2 c2 rfl hne (kp_set kp1 hSle) hc2 (hst'.1.at fun o e => (Heap.get?_update_other _ _ hSI).trans e) hv (Nat.le_refl _) fun j' hj' => ?_⟩
  have e : j' = 0 := by omega
  subst e
  exact ⟨by omega, fun h => absurd h (Nat.lt_irrefl _)⟩
end
end Tv
namespace Ta
open PySem PySem.Spec PyProof.Rows L2
/-- min(e, key=len), e a list of lists -/
def tMinLen (K : PySem.W.Frag) (ta : TA) : TE := fun σ H Q => ta σ H fun vs H1 => ∃ (a : Addr) (rs : List Addr) (len : Nat → Nat), vs = [.ref a] ∧ SqL K H1 a (rs.map V.ref) ∧ 0 < rs.length ∧ (∀ (i : Nat) r, rs[i]? = some r → ∃ ys, SqL K H1 r ys ∧ ys.length = len i) ∧
  ∀ (i : Nat) r, rs[i]? = some r → (∀ j, j < rs.length → len i ≤ len j ∧ (j < i → len i < len j)) → Q (.ref r) H1
section
variable {X : Cx} {e : Expr} {ta : TA} {p p2 kp pos : Pos}
theorem pe_minLen (hc : X.calm = true) (hg : Gl X "min") (hm : X.mg "min" = none) (hg2 : Gl X "len") (hm2 : X.mg "len" = none) (ha : PA X [e] ta) (he : starEach [e] X.env = (false, eval e X.env) :: starEach [] X.env := by rfl) :
    PE X (.Call (.Name "min" p) [e] [⟨some "key", .Name "len" p2, kp⟩] pos) (tMinLen X.K ta) := by
  intro pins s σ H Q I h
  refine wpAny_Call_Name_kw (ld_blt I hg hm PyProof.Rows.boot_min ?_)
  have h1 := ha pos pins s σ H _ I h
  rw [he] at h1 ⊢
  refine callWith_builtin_kwB rfl rfl (evalArgs_kwB rfl (thn h1 fun us s1 ⟨vs, H1, I1, r, a, rs, len, ex, hs, hn, hl, q⟩ => ?_))
  subst ex
  rw [Vals.ref1 r]
  refine kws_cons (ld_blt I1 hg2 hm2 PySem.boot_len (kws_nil ?_))
  obtain ⟨its, rv, pl, hz⟩ := I1.list hs
  have e1 : its = rs.map Value.ref := by
    have hlen := rv.length
    rw [List.length_map] at hlen
    apply List.ext_getElem
    · simp [hlen]
    · intro i h1 h2
      obtain ⟨u, hu, ru⟩ := rv.get (i := i) (x := .ref (rs[i]'(by simpa using h2))) (by rw [List.getElem?_map, List.getElem?_eq_getElem (by simpa using h2)]; rfl)
      rw [List.getElem?_eq_getElem h1] at hu
      rw [Option.some.inj hu, List.getElem_map]
      exact ru
  have hn63 := line63
  obtain ⟨o, ho⟩ := pl.isList
  refine Tv.min_len (vs := its) (fun i => (len i : Nat)) (I1.ok.hd hc) (fun h k => ⟨o, k _ _ ho.1, ho.2⟩) (by rw [e1, List.length_map]; exact hn) (fun i v hv h tk Q' E' k c => ?_) fun i v h' tk' hv hb k => ?_
  · rw [e1, List.getElem?_map] at hv
    cases hr : rs[i]? with
    | none => rw [hr] at hv; cases hv
    | some r =>
      rw [hr] at hv
      cases hv
      obtain ⟨ys, hy, hyl⟩ := hl i r hr
      obtain ⟨its2, rv2, pl2, hz2⟩ := I1.list hy
      have hl2 := rv2.length
      obtain ⟨o2, ho2⟩ := pl2.isList
      refine Calls.call_len_list (s := { s1 with heap := h, toks := tk }) (items := its2.toArray) ⟨o2, k _ _ ho2.1, ho2.2⟩ (by simp only [List.size_toArray] <;> omega) ?_
      have e2 : ((its2.toArray.size : Nat) : Int) = ((len i : Nat) : Int) := by rw [List.size_toArray, ← hl2, hyl]
      rw [e2]
      exact c _ _
  · rw [e1, List.getElem?_map] at hv
    cases hr : rs[i]? with
    | none => rw [hr] at hv; cases hv
    | some r =>
      rw [hr] at hv
      cases hv
      refine ⟨.ref r, H1, I1.kept k, rfl, q i r hr fun j hj => ?_⟩
      have := hb j (by rw [e1, List.length_map]; exact hj)
      exact ⟨Int.ofNat_le.mp this.1, fun z => Int.ofNat_lt.mp (this.2 z)⟩
end
end Ta

set_option Elab.async false
set_option linter.all false
set_option maxRecDepth 100000
namespace Tm
open Su172
theorem swapped_won (A : Abs) (x y a b : Nat) : A.swapped.won y x b a = A.won x y a b := by
  unfold Abs.won Abs.swapped
  apply Bool.eq_iff_iff.mpr
  simp only [List.contains_iff_mem, List.mem_map]
  constructor
  · rintro ⟨⟨x', y', a', b'⟩, h, e⟩
    simp only [Prod.mk.injEq] at e
    obtain ⟨rfl, rfl, rfl, rfl⟩ := e
    exact h
  · intro h
    exact ⟨_, h, rfl⟩
theorem swapped_count {A : Abs} {x y : Nat} (hx : x < A.x) (hy : y < A.y) : A.swapped.count y x = A.count x y := by
  show ((((List.range A.y).map fun y => (List.range A.x).map fun x => A.count x y).getD y []).getD x 0) = _
  simp [List.getD, hx, hy]
theorem swapped_gain {A : Abs} {x : Nat} (h : List Nat) (a : Nat) (hx : x < A.x) : A.swapped.gainAt h x a = ((List.range A.y).map fun y => if A.won x y a (h.getD y 0) = true then A.count x y else 0).sum := by
  unfold Abs.gainAt
  show ((List.range A.y).map _).sum = _
  congr 1
  apply List.map_congr_left
  intro y hy
  rw [swapped_won, swapped_count hx (List.mem_range.mp hy)]
/-- a sum's first terms -/
def part (t : Nat → Nat) (i : Nat) : Nat := ((List.range i).map t).sum
theorem part_zero (t : Nat → Nat) : part t 0 = 0 := rfl
theorem part_succ (t : Nat → Nat) (i : Nat) : part t (i + 1) = part t i + t i := by
  unfold part
  rw [List.range_succ, List.map_append, List.sum_append]
  simp
theorem map_range_set {α : Type} (n j : Nat) (f : Nat → α) (v : α) : ((List.range n).map f).set j v = (List.range n).map fun b => if b = j then v else f b := by
  apply List.ext_getElem
  · simp
  · intro i h1 h2
    rw [List.getElem_set]
    by_cases q : j = i
    · simp [q]
    · have q' : ¬ i = j := fun e => q e.symm
      simp [q, q']
theorem mul_bit (n : Nat) (b : Bool) : n * bit b = if b = true then n else 0 := by
  cases b
  · exact Nat.mul_zero n
  · exact Nat.mul_one n
theorem okRow_len {n k : Nat} {l : List Nat} (h : okRow n k l = true) : l.length = n := by
  unfold okRow at h
  rw [Bool.and_eq_true] at h
  exact beq_iff_eq.mp h.1
theorem okRow_lt {n k : Nat} {l : List Nat} (h : okRow n k l = true) : ∀ v ∈ l, v < k := by
  unfold okRow at h
  rw [Bool.and_eq_true, List.all_eq_true] at h
  intro v hv
  exact of_decide_eq_true (h.2 v hv)
theorem okRow_get {n k i : Nat} {l : List Nat} (h : okRow n k l = true) (hi : i < n) : l[i]? = some (l.getD i 0) ∧ l.getD i 0 < k := by
  have hl : i < l.length := by rw [okRow_len h]; exact hi
  have e : l[i]? = some (l.getD i 0) := by simp [List.getD, hl]
  exact ⟨e, okRow_lt h _ (List.mem_of_getElem? e)⟩
theorem okRow_iff {n k : Nat} {l : List Nat} : okRow n k l = true ↔ l.length = n ∧ ∀ v ∈ l, v < k := by
  constructor
  · intro h
    exact ⟨okRow_len h, okRow_lt h⟩
  · rintro ⟨h1, h2⟩
    unfold okRow
    rw [Bool.and_eq_true, List.all_eq_true]
    exact ⟨beq_iff_eq.mpr h1, fun v hv => decide_eq_true (h2 v hv)⟩
end Tm

set_option Elab.async false
set_option linter.all false
set_option maxRecDepth 100000
set_option maxHeartbeats 2000000
namespace Ta
open PySem PySem.Spec PyProof.Rows L2
theorem for_range0 {n : Nat} {g : TG} {tb : TS} {D : Ends} {σ : L2.St} {H : Hp} (Pv : Nat → L2.St → Hp → Prop) (h0 : Pv 0 σ H)
    (hs : ∀ (i : Nat) σ H, i < n → Pv i σ H → g (.int (i : Nat)) σ H fun σ2 H2 => tb { D with nx := Pv (i + 1), ct := Pv (i + 1), bk := D.nx } σ2 H2) (hd : ∀ σ H, Pv n σ H → D.nx σ H) :
    ∃ W : Nat → Nat → L2.St → Hp → Prop, (∃ m, W 0 m σ H) ∧ ∀ i m σ H, W i m σ H →
      ((Itr 0 n).stop i H ∧ D.nx σ H) ∨ ((Itr 0 n).go i H ∧ ∃ N : L2.St → Hp → Prop, (∀ σ' H', N σ' H' → ∃ m', m' < m ∧ W (i + 1) m' σ' H') ∧ ∀ x H', (Itr 0 n).yld i H x H' → g x σ H' fun σ2 H2 => tb { D with nx := N, ct := N, bk := D.nx } σ2 H2) :=
  for_range Pv h0 (fun i σ H hi p => by rw [Int.zero_add]; exact hs i σ H hi p) hd
theorem lc_range0 {n j : Nat} {te : TE} {σ : L2.St} {H1 : Hp} {D : Addr} {Qd : Hp → Prop} (hD : H1 D = none) (hn : n < sizeLine) (R : Nat → V → Hp → Prop)
    (mono : ∀ i y H H', But D H H' → R i y H → R i y H')
    (hs : ∀ (i : Nat) H (Q' : VK), i < n → Same H1 H → (∃ ys, H D = some (.lst ys)) → (∀ y H4, Same H H4 → R i y H4 → Q' y H4) → te ((σ.set j none).set j (some (.int (i : Nat)))) H Q')
    (hd : ∀ H ys, Same H1 H → H D = some (.lst ys) → ys.length = n → (∀ i y, ys[i]? = some y → R i y H) → Qd H) :
    ∃ W : Nat → Nat → Hp → Prop, (∃ m, W 0 m (upd H1 D (.lst []))) ∧ ∀ i m H, W i m H →
      ((Itr 0 n).stop i H ∧ Qd H) ∨ ((Itr 0 n).go i H ∧ ∃ Nx : Hp → Prop, (∀ H', Nx H' → ∃ m', m' < m ∧ W (i + 1) m' H') ∧ ∀ x H', (Itr 0 n).yld i H x H' → gName j x (wipe σ [j]) H' fun σ2 H2 => wipe σ2 [j] = wipe σ [j] ∧ tYes σ2 H2 fun b H3 =>
        if b = true then te σ2 H3 fun y H4 => ∃ acc, H4 D = some (.lst acc) ∧ acc.length < sizeLine ∧ Nx (upd H4 D (.lst (acc ++ [y]))) else Nx H3) :=
  lc_range1 hD hn R mono (fun i H Q' hi sm hd k => by rw [Int.zero_add]; exact hs i H Q' hi sm hd k) hd
/-! ### the game as data -/
structure Wf (A : Su172.Abs) : Prop where
  x1 : A.x ≤ 4
  y1 : A.y ≤ 4
  a0 : 1 ≤ A.a
  a1 : A.a ≤ 4
  b0 : 1 ≤ A.b
  b1 : A.b ≤ 4
  cl : A.counts.length = A.x
  cr : ∀ r ∈ A.counts, r.length = A.y
  ww : ∀ v ∈ A.wins, v.1 < A.x ∧ v.2.1 < A.y ∧ v.2.2.1 < A.a ∧ v.2.2.2 < A.b
def gf (x y a b : Nat) (wd td : Addr) : List (Str × V) := [("first_asked", .int x), ("second_asked", .int y), ("first_choices", .int a), ("second_choices", .int b), ("weights", .ref wd), ("winning", .ref td)]
theorem gf_x (x y a b : Nat) (wd td : Addr) : (gf x y a b wd td).lookup ("first_asked" : Str) = some (.int x) := rfl
theorem gf_y (x y a b : Nat) (wd td : Addr) : (gf x y a b wd td).lookup ("second_asked" : Str) = some (.int y) := rfl
theorem gf_a (x y a b : Nat) (wd td : Addr) : (gf x y a b wd td).lookup ("first_choices" : Str) = some (.int a) := rfl
theorem gf_b (x y a b : Nat) (wd td : Addr) : (gf x y a b wd td).lookup ("second_choices" : Str) = some (.int b) := rfl
theorem gf_w (x y a b : Nat) (wd td : Addr) : (gf x y a b wd td).lookup ("weights" : Str) = some (.ref wd) := rfl
theorem gf_t (x y a b : Nat) (wd td : Addr) : (gf x y a b wd td).lookup ("winning" : Str) = some (.ref td) := rfl
theorem gf_no {x y a b : Nat} {wd td : Addr} {m : Str} (h : (["first_asked", "second_asked", "first_choices", "second_choices", "weights", "winning"] : List Str).contains m = false) : (gf x y a b wd td).lookup m = none := by
  rw [List.lookup_eq_none_iff]
  intro p hp
  unfold gf at hp
  simp only [List.contains_eq_any_beq, List.any_cons, List.any_nil, Bool.or_false, Bool.or_eq_false_iff] at h
  obtain ⟨h1, h2, h3, h4, h5, h6⟩ := h
  simp only [List.mem_cons, List.not_mem_nil, or_false] at hp
  rcases hp with rfl | rfl | rfl | rfl | rfl | rfl
  all_goals (show (!(m == _)) = true; simp only [*, Bool.not_false])
/-! ### dicts whose keys are rows of numbers -/
def nk (k : List Nat) : List Key := k.map fun (n : Nat) => .inl (n : Int)
theorem nk_inj : ∀ {k k' : List Nat}, nk k = nk k' → k = k'
  | [], [], _ => rfl
  | [], _ :: _, h => by cases h
  | _ :: _, [], h => by cases h
  | a :: k, b :: k', h => by
    have h1 : (Sum.inl (a : Int) : Key) = .inl (b : Int) := by injection h
    have h2 : nk k = nk k' := by injection h
    injection h1 with h1
    rw [nk_inj h2, Int.ofNat.inj h1]
theorem nk_kV (k : List Nat) : (nk k).map kV = natsV k := by
  unfold nk natsV
  rw [List.map_map]; rfl
def dOf (ks : List (List Nat)) (f : List Nat → V) : List (List Key × V) := ks.map fun k => (nk k, f k)
theorem dOf_get {f : List Nat → V} {k : List Nat} : ∀ {ks : List (List Nat)}, k ∈ ks → valV (dOf ks f) (nk k) = some (f k)
  | [], h => by cases h
  | p :: l, h => by
    unfold dOf
    rw [List.map_cons]
    by_cases e : nk p = nk k
    · rw [valV_pos e, nk_inj e]
    · rw [valV_neg e]
      refine dOf_get ?_
      rcases List.mem_cons.mp h with rfl | h
      · exact absurd rfl e
      · exact h
theorem dOf_none {f : List Nat → V} {k : List Nat} : ∀ {ks : List (List Nat)}, k ∉ ks → valV (dOf ks f) (nk k) = none
  | [], _ => rfl
  | p :: l, h => by
    unfold dOf
    rw [List.map_cons]
    have e : ¬ nk p = nk k := fun e => h (by rw [nk_inj e]; exact List.mem_cons_self ..)
    rw [valV_neg e]
    exact dOf_none fun q => h (List.mem_cons_of_mem _ q)
theorem dOf_isSome {f : List Nat → V} {k : List Nat} {ks : List (List Nat)} : (valV (dOf ks f) (nk k)).isSome = decide (k ∈ ks) := by
  by_cases h : k ∈ ks
  · rw [dOf_get h, decide_eq_true h]; rfl
  · rw [dOf_none h, decide_eq_false h]; rfl
theorem dOf_put {f : List Nat → V} {k : List Nat} {ks : List (List Nat)} {v : V} (h : k ∈ ks) : putK (dOf ks f) (nk k) v = dOf ks fun k' => if k' = k then v else f k' := by
  unfold putK
  rw [valV_any, dOf_get h, if_pos (show (some (f k)).isSome = true from rfl)]
  unfold dOf
  rw [List.map_map]
  apply List.map_congr_left
  intro p _
  simp only [Function.comp]
  by_cases e : nk p = nk k
  · rw [if_pos e, if_pos (nk_inj e)]
  · rw [if_neg e, if_neg fun q => e (by rw [q])]
theorem dOf_new {v : V} {k : List Nat} {ks : List (List Nat)} (h : k ∉ ks) : putK (dOf ks fun _ => v) (nk k) v = dOf (ks ++ [k]) fun _ => v := by
  rw [putK_new _ (dOf_none h)]
  unfold dOf
  rw [List.map_append]; rfl
theorem dOf_newF {f : List Nat → V} {v : V} {k : List Nat} {ks : List (List Nat)} (h : k ∉ ks) : putK (dOf ks f) (nk k) v = dOf (ks ++ [k]) fun k' => if k' = k then v else f k' := by
  rw [putK_new _ (dOf_none h)]
  unfold dOf
  rw [List.map_append, List.map_cons, List.map_nil]
  dsimp only
  rw [if_pos rfl]
  congr 1
  apply List.map_congr_left
  intro p hp
  have : p ≠ k := fun e => h (e ▸ hp)
  rw [if_neg this]
theorem dOf_congr {ks : List (List Nat)} {f g : List Nat → V} (h : ∀ k ∈ ks, f k = g k) : dOf ks f = dOf ks g := by
  unfold dOf
  apply List.map_congr_left
  intro k hk
  rw [h k hk]
theorem dOf_len (ks : List (List Nat)) (f : List Nat → V) : (dOf ks f).length = ks.length := List.length_map _
theorem dOf_at {ks : List (List Nat)} {f : List Nat → V} {i : Nat} {k : List Key} {v : V} (h : (dOf ks f)[i]? = some (k, v)) : ∃ r, ks[i]? = some r ∧ k = nk r ∧ v = f r := by
  unfold dOf at h
  rw [List.getElem?_map] at h
  cases e : ks[i]? with
  | none => rw [e] at h; cases h
  | some r =>
    rw [e] at h
    have h1 : (nk r, f r) = (k, v) := Option.some.inj h
    cases h1
    exact ⟨r, rfl, rfl, rfl⟩
def pk (X Y : Nat) : List (List Nat) := (List.range X).flatMap fun x => (List.range Y).map fun y => [x, y]
def qrow (Y A B x : Nat) : List (List Nat) := (List.range Y).flatMap fun y => (List.range A).flatMap fun a => (List.range B).map fun b => [x, y, a, b]
def qk (X Y A B : Nat) : List (List Nat) := (List.range X).flatMap (qrow Y A B)
theorem mem_pk {X Y : Nat} {k : List Nat} : k ∈ pk X Y ↔ ∃ x y, k = [x, y] ∧ x < X ∧ y < Y := by
  unfold pk
  simp only [List.mem_flatMap, List.mem_map, List.mem_range]
  constructor
  · rintro ⟨x, hx, y, hy, rfl⟩; exact ⟨x, y, rfl, hx, hy⟩
  · rintro ⟨x, y, rfl, hx, hy⟩; exact ⟨x, hx, y, hy, rfl⟩
theorem pk_mem {X Y x y : Nat} : [x, y] ∈ pk X Y ↔ x < X ∧ y < Y := by
  rw [mem_pk]
  constructor
  · rintro ⟨x', y', e, h⟩; cases e; exact h
  · exact fun h => ⟨x, y, rfl, h⟩
theorem mem_qk {X Y A B : Nat} {k : List Nat} : k ∈ qk X Y A B ↔ ∃ x y a b, k = [x, y, a, b] ∧ x < X ∧ y < Y ∧ a < A ∧ b < B := by
  unfold qk qrow
  simp only [List.mem_flatMap, List.mem_map, List.mem_range]
  constructor
  · rintro ⟨x, hx, y, hy, a, ha, b, hb, rfl⟩; exact ⟨x, y, a, b, rfl, hx, hy, ha, hb⟩
  · rintro ⟨x, y, a, b, rfl, hx, hy, ha, hb⟩; exact ⟨x, hx, y, hy, a, ha, b, hb, rfl⟩
theorem qk_mem {X Y A B x y a b : Nat} : [x, y, a, b] ∈ qk X Y A B ↔ x < X ∧ y < Y ∧ a < A ∧ b < B := by
  rw [mem_qk]
  constructor
  · rintro ⟨x', y', a', b', e, h⟩; cases e; exact h
  · exact fun h => ⟨x, y, a, b, rfl, h⟩
theorem sum_const (X Y : Nat) : ((List.range X).map fun _ => Y).sum = X * Y := by
  rw [List.map_const', List.sum_replicate_nat, List.length_range]
theorem pk_len (X Y : Nat) : (pk X Y).length = X * Y := by
  unfold pk
  rw [List.length_flatMap]
  simp only [List.length_map, List.length_range]
  exact sum_const X Y
theorem qk_len (X Y A B : Nat) : (qk X Y A B).length = X * (Y * (A * B)) := by
  unfold qk qrow
  rw [List.length_flatMap]
  simp only [List.length_flatMap, List.length_map, List.length_range, sum_const]
theorem flat_range {α : Type} (i : Nat) (f : Nat → List α) : (List.range (i + 1)).flatMap f = (List.range i).flatMap f ++ f i := by
  rw [List.range_succ, List.flatMap_append]; simp
def cntV (A : Su172.Abs) (k : List Nat) : V := .int (A.count (k.getD 0 0) (k.getD 1 0) : Nat)
def wonV (A : Su172.Abs) (k : List Nat) : V := .int (Su172.bit (A.won (k.getD 0 0) (k.getD 1 0) (k.getD 2 0) (k.getD 3 0)) : Nat)
structure GameAt (C : Addr) (H : Hp) (g : Addr) (A : Su172.Abs) (wd td : Addr) : Prop where
  ins : ∃ dx, H g = some (.ins C dx (gf A.x A.y A.a A.b wd td))
  w : H wd = some (.dT (dOf (pk A.x A.y) (cntV A)))
  t : H td = some (.dT (dOf (qk A.x A.y A.a A.b) (wonV A)))
  apart : wd ≠ td
  wf : Wf A
/-- what of the game may be changed in its place -/
def Foot (g wd td : Addr) (b : Addr) : Prop := b = g ∨ b = wd ∨ b = td
def GAt (C : Addr) (H : Hp) (g : Addr) (A : Su172.Abs) (F : Addr → Prop) : Prop := ∃ wd td, GameAt C H g A wd td ∧ ∀ b, F b ↔ Foot g wd td b
theorem GameAt.same {C : Addr} {H H' : Hp} {g : Addr} {A : Su172.Abs} {wd td : Addr} (G : GameAt C H g A wd td) (s : Same H H') : GameAt C H' g A wd td :=
  ⟨let ⟨dx, h⟩ := G.ins; ⟨dx, s _ _ h⟩, s _ _ G.w, s _ _ G.t, G.apart, G.wf⟩
theorem GAt.same {C : Addr} {H H' : Hp} {g : Addr} {A : Su172.Abs} {F : Addr → Prop} (G : GAt C H g A F) (s : Same H H') : GAt C H' g A F :=
  let ⟨wd, td, h, f⟩ := G; ⟨wd, td, h.same s, f⟩
/-- a game whose objects are as they were -/
theorem GAt.keep {C : Addr} {H H' : Hp} {g : Addr} {A : Su172.Abs} {F : Addr → Prop} (G : GAt C H g A F) (s : ∀ c o, H c = some o → F c → H' c = some o) : GAt C H' g A F := by
  obtain ⟨wd, td, gm, hf⟩ := G
  obtain ⟨dx, hi⟩ := gm.ins
  exact ⟨wd, td, ⟨⟨dx, s _ _ hi ((hf _).mpr (.inl rfl))⟩, s _ _ gm.w ((hf _).mpr (.inr (.inl rfl))), s _ _ gm.t ((hf _).mpr (.inr (.inr rfl))), gm.apart, gm.wf⟩, hf⟩
theorem GAt.there {C : Addr} {H : Hp} {g : Addr} {A : Su172.Abs} {F : Addr → Prop} (G : GAt C H g A F) {b : Addr} (h : F b) : H b ≠ none := by
  obtain ⟨wd, td, gm, hf⟩ := G
  rcases (hf b).mp h with e | e | e
  · obtain ⟨dx, hi⟩ := gm.ins
    rw [e, hi]; intro z; cases z
  · rw [e, gm.w]; intro z; cases z
  · rw [e, gm.t]; intro z; cases z
/-- what of the class's text is asked -/
structure GCls (K : PySem.W.Frag) (C : Addr) : Prop where
  cl : Cls K C
  nx : NoAttr K C "first_asked"
  ny : NoAttr K C "second_asked"
  na : NoAttr K C "first_choices"
  nb : NoAttr K C "second_choices"
  nw : NoAttr K C "weights"
  nt : NoAttr K C "winning"
/-- a game that is new -/
def NewG (C : Addr) (H : Hp) (A : Su172.Abs) (Q : VK) : Prop := ∀ (H' : Hp) (g : Addr) (F : Addr → Prop), Same H H' → GAt C H' g A F → (∀ c, F c → H c = none) → Q (.ref g) H'
theorem dget_of {H : Hp} {a b : Addr} {ks : List (List Nat)} {f : List Nat → V} {k : List Nat} (e : H a = some (.dT (dOf ks f))) (eb : H b = some (.tup (natsV k))) (h : k ∈ ks) : DGet H a (.ref b) (some (f k)) := by
  rw [← dOf_get (f := f) h]
  exact DGet.t e (by rw [nk_kV]; exact eb)
theorem dget_any {H : Hp} {a b : Addr} {ks : List (List Nat)} {f : List Nat → V} {k : List Nat} (e : H a = some (.dT (dOf ks f))) (eb : H b = some (.tup (natsV k))) : DGet H a (.ref b) (valV (dOf ks f) (nk k)) := DGet.t e (by rw [nk_kV]; exact eb)
theorem dput_of {H : Hp} {a b : Addr} {ks : List (List Nat)} {f : List Nat → V} {k : List Nat} {v : V} (e : H a = some (.dT (dOf ks f))) (eb : H b = some (.tup (natsV k))) (h : k ∈ ks) (hl : ks.length < sizeLine) :
    DPut H a (.ref b) v (upd H a (.dT (dOf ks fun k' => if k' = k then v else f k'))) := by
  rw [← dOf_put h]
  exact DPut.t e (by rw [nk_kV]; exact eb) (by rw [dOf_len]; exact hl)
theorem dput_new {H : Hp} {a b : Addr} {ks : List (List Nat)} {k : List Nat} {v : V} (e : H a = some (.dT (dOf ks fun _ => v))) (eb : H b = some (.tup (natsV k))) (h : k ∉ ks) (hl : ks.length < sizeLine) :
    DPut H a (.ref b) v (upd H a (.dT (dOf (ks ++ [k]) fun _ => v))) := by
  rw [← dOf_new h]
  exact DPut.t e (by rw [nk_kV]; exact eb) (by rw [dOf_len]; exact hl)
theorem dput_newF {H : Hp} {a b : Addr} {ks : List (List Nat)} {f : List Nat → V} {k : List Nat} {v : V} (e : H a = some (.dT (dOf ks f))) (eb : H b = some (.tup (natsV k))) (h : k ∉ ks) (hl : ks.length < sizeLine) :
    DPut H a (.ref b) v (upd H a (.dT (dOf (ks ++ [k]) fun k' => if k' = k then v else f k'))) := by
  rw [← dOf_newF h]
  exact DPut.t e (by rw [nk_kV]; exact eb) (by rw [dOf_len]; exact hl)
theorem natsV_set (l : List Nat) (j n : Nat) : (natsV l).set j (.int (n : Nat)) = natsV (l.set j n) := by
  unfold natsV
  rw [List.map_set]
theorem ixN_nat {n j : Nat} (h : j < n) : ixN n (j : Int) = some j := by
  unfold ixN
  rw [if_pos (by omega), if_pos (by omega), Int.toNat_natCast]
/-- a list of keys: the tuples of these rows -/
structure KL (H : Hp) (p : Addr) (rs : List Addr) (L : List (List Nat)) : Prop where
  lst : H p = some (.lst (rs.map V.ref))
  len : rs.length = L.length
  row : ∀ (i : Nat) r l, rs[i]? = some r → L[i]? = some l → H r = some (.tup (natsV l))
theorem KL.same {H H' : Hp} {p : Addr} {rs : List Addr} {L : List (List Nat)} (T : KL H p rs L) (s : Same H H') : KL H' p rs L :=
  ⟨s _ _ T.lst, T.len, fun i r l a b => s _ _ (T.row i r l a b)⟩
theorem KL.at {H : Hp} {p : Addr} {rs : List Addr} {L : List (List Nat)} {i : Nat} {v : V} (T : KL H p rs L) (h : (rs.map V.ref)[i]? = some v) : ∃ r l, rs[i]? = some r ∧ v = .ref r ∧ L[i]? = some l ∧ H r = some (.tup (natsV l)) := by
  rw [List.getElem?_map] at h
  cases e : rs[i]? with
  | none => rw [e] at h; cases h
  | some r =>
    rw [e] at h
    obtain ⟨l, hl⟩ : ∃ l, L[i]? = some l := ⟨_, List.getElem?_eq_getElem (by rw [← T.len]; exact (List.getElem?_eq_some_iff.mp e).1)⟩
    exact ⟨r, l, rfl, (Option.some.inj h).symm, hl, T.row i r l e hl⟩
/-- list(d), d a dict by rows -/
theorem kl_of {H : Hp} {l : Addr} {rs : List Addr} {ks : List (List Nat)} {f : List Nat → V} (hl : H l = none) (hlen : rs.length = (dOf ks f).length) (hk : ∀ (i : Nat) k v r, (dOf ks f)[i]? = some (k, v) → rs[i]? = some r → H r = some (.tup (k.map kV))) :
    KL (upd H l (.lst (rs.map V.ref))) l rs ks := by
  refine ⟨upd_same, by rw [hlen, dOf_len], fun i r k h1 h2 => ?_⟩
  have h3 : (dOf ks f)[i]? = some (nk k, f k) := by unfold dOf; rw [List.getElem?_map, h2]; rfl
  have h4 := hk i _ _ r h3 h1
  rw [nk_kV] at h4
  exact Same.new hl _ _ h4
end Ta

set_option Elab.async false
set_option linter.all false
set_option maxRecDepth 100000
set_option maxHeartbeats 2000000
namespace Ta
open PySem PySem.Spec PyProof.Rows L2
theorem new_count {x y a b i j : Nat} (hi : i < x) (hj : j < y) : (Su172.new x y a b).count i j = 1 := by
  unfold Su172.new Su172.Abs.count
  simp [List.getD, hi, hj]
theorem new_won (x y a b i j k l : Nat) : (Su172.new x y a b).won i j k l = false := rfl
theorem new_wf {x y a b : Nat} (hx : x ≤ 4) (hy : y ≤ 4) (ha : 1 ≤ a ∧ a ≤ 4) (hb : 1 ≤ b ∧ b ≤ 4) : Wf (Su172.new x y a b) :=
  ⟨hx, hy, ha.1, ha.2, hb.1, hb.2, by simp [Su172.new], fun r hr => by
    have := (List.mem_replicate.mp (show r ∈ List.replicate x (List.replicate y 1) from hr)).2
    rw [this]; simp [Su172.new], fun v hv => by cases hv⟩
/-- a game while it is laid -/
structure Lay (H H' : Hp) (p wd td C dx : Addr) (x y a b : Nat) (P Q : List (List Nat)) : Prop where
  ins : H' p = some (.ins C dx (gf x y a b wd td))
  w : H' wd = some (.dT (dOf P fun _ => .int 1))
  t : H' td = some (.dT (dOf Q fun _ => .int 0))
  but : ∀ c o, H c = some o → c ≠ p → H' c = some o
  nw : H wd = none
  nt : H td = none
  apart : wd ≠ td
  pw : p ≠ wd
  pt : p ≠ td
def pP (y i j : Nat) : List (List Nat) := ((List.range i).flatMap fun x => (List.range y).map fun y => [x, y]) ++ (List.range j).map fun y => [i, y]
def qP (y a b i j m n : Nat) : List (List Nat) := (List.range i).flatMap (qrow y a b) ++ ((List.range j).flatMap (fun y => (List.range a).flatMap fun u => (List.range b).map fun v => [i, y, u, v]) ++ ((List.range m).flatMap (fun u => (List.range b).map fun v => [i, j, u, v]) ++ (List.range n).map fun v => [i, j, m, v]))
theorem pP_not {y i j : Nat} : [i, j] ∉ pP y i j := by
  unfold pP
  simp only [List.mem_append, List.mem_flatMap, List.mem_map, List.mem_range, not_or]
  refine ⟨?_, ?_⟩
  · rintro ⟨x, hx, z, _, e⟩; injection e with e1 _; omega
  · rintro ⟨z, hz, e⟩; injection e with _ e2; injection e2 with e2 _; omega
theorem qP_not {y a b i j m n : Nat} : [i, j, m, n] ∉ qP y a b i j m n := by
  unfold qP qrow
  simp only [List.mem_append, List.mem_flatMap, List.mem_map, List.mem_range, not_or]
  refine ⟨?_, ?_, ?_, ?_⟩
  · rintro ⟨x, hx, z, _, u, _, v, _, e⟩; injection e with e1 _; omega
  · rintro ⟨z, hz, u, _, v, _, e⟩; injection e with _ e2; injection e2 with e2 _; omega
  · rintro ⟨u, hu, v, _, e⟩; injection e with _ e2; injection e2 with _ e3; injection e3 with e3 _; omega
  · rintro ⟨v, hv, e⟩; injection e with _ e2; injection e2 with _ e3; injection e3 with _ e4; injection e4 with e4 _; omega
theorem pP_snoc (y i j : Nat) : pP y i j ++ [[i, j]] = pP y i (j + 1) := by
  unfold pP
  rw [List.append_assoc, List.range_succ, List.map_append]; rfl
theorem pP_next (y i : Nat) : pP y i y = pP y (i + 1) 0 := by
  unfold pP
  rw [flat_range]; simp
theorem qP_snoc (y a b i j m n : Nat) : qP y a b i j m n ++ [[i, j, m, n]] = qP y a b i j m (n + 1) := by
  unfold qP
  rw [List.append_assoc, List.append_assoc, List.append_assoc, List.range_succ, List.map_append]; rfl
theorem qP_nextM (y a b i j m : Nat) : qP y a b i j m b = qP y a b i j (m + 1) 0 := by
  unfold qP
  rw [flat_range]; simp
theorem qP_nextJ (y a b i j : Nat) : qP y a b i j a 0 = qP y a b i (j + 1) 0 0 := by
  unfold qP
  rw [flat_range]; simp
theorem qP_nextI (y a b i : Nat) : qP y a b i y 0 0 = qP y a b (i + 1) 0 0 0 := by
  unfold qP
  rw [flat_range]; simp [qrow]
theorem pP_len {y i j : Nat} (hi : i ≤ 4) (hy : y ≤ 4) (hj : j ≤ 4) : (pP y i j).length ≤ 100 := by
  unfold pP
  rw [List.length_append, List.length_map, List.length_range]
  have h1 : ((List.range i).flatMap fun x => (List.range y).map fun y => [x, y]).length = i * y := pk_len i y
  have h2 := Nat.mul_le_mul hi hy
  omega
theorem qP_len {y a b i j m n : Nat} (hi : i ≤ 4) (hy : y ≤ 4) (hj : j ≤ 4) (ha : a ≤ 4) (hb : b ≤ 4) (hm : m ≤ 4) (hn : n ≤ 4) : (qP y a b i j m n).length ≤ 1000 := by
  unfold qP qrow
  simp only [List.length_append, List.length_flatMap, List.length_map, List.length_range, sum_const]
  have h1 : a * b ≤ 4 * 4 := Nat.mul_le_mul ha hb
  have h2 : y * (a * b) ≤ 4 * (4 * 4) := Nat.mul_le_mul hy h1
  have h3 : i * (y * (a * b)) ≤ 4 * (4 * (4 * 4)) := Nat.mul_le_mul hi h2
  have h4 : j * (a * b) ≤ 4 * (4 * 4) := Nat.mul_le_mul hj h1
  have h5 : m * b ≤ 4 * 4 := Nat.mul_le_mul hm hb
  omega
def spInit (C : Addr) : Sp := fun vs H Q _ => ∃ (p dx : Addr) (x y a b : Nat), vs = [.ref p, .int x, .int y, .int a, .int b] ∧ H p = some (.ins C dx []) ∧ x ≤ 4 ∧ y ≤ 4 ∧ (1 ≤ a ∧ a ≤ 4) ∧ (1 ≤ b ∧ b ≤ 4) ∧
  ∀ (H' : Hp) (F : Addr → Prop), GAt C H' p (Su172.new x y a b) F → (∀ c, F c → c = p ∨ H c = none) → (∀ c o, H c = some o → c ≠ p → H' c = some o) → Q .non H'
section
variable {P : Program} {w : World} {K : PySem.W.Frag} {mg : Str → Option Value} {base : Heap} {C : Addr}
abbrev sInit : Stmt := inClass (top 34) 0
/-- slots: 0:self 1:first_asked 2:second_asked 3:first_choices 4:second_choices 5:x 6:y 7:a 8:b -/
theorem scInit : FnScope ["self", "first_asked", "second_asked", "first_choices", "second_choices", "x", "y", "a", "b"] ["self", "first_asked", "second_asked", "first_choices", "second_choices"] (defScope sInit) := ⟨rfl, rfl, rfl, by decide +kernel, rfl, by decide +kernel, by decide +kernel⟩
theorem ok_init {f : Addr} {fd : FuncData} (F : Fun K "__init__" "Game.__init__" sInit f fd) (B : Blt mg) (G : GCls K C) :
    FnOk P w K mg base CX0 1 f fd ["self", "first_asked", "second_asked", "first_choices", "second_choices"] (spInit C) := by
  refine F.ok scInit (fun vs H Q E h => ?_) (fun cdv A outer s H vs Q E hr h => ?_)
  · obtain ⟨p, dx, x, y, a, b, rfl, _⟩ := h
    rfl
  · obtain ⟨p, dx, x, y, a, b, rfl, hp, hx, hy, ha, hb, k⟩ := h
    have hu := hu_of hr
    refine ⟨_, (pss_cons (ps_fld (pv 0) (pv 1) rfl)
      (pss_cons (ps_fld (pv 0) (pv 2) rfl)
      (pss_cons (ps_fld (pv 0) (pv 3) rfl)
      (pss_cons (ps_fld (pv 0) (pv 4) rfl)
      (pss_cons (ps_fld (pv 0) pe_dnewT rfl)
      (pss_cons (ps_fld (pv 0) pe_dnewT rfl)
      (pss_one (ps_for PassesOwn.never rfl (pi_range1 rfl B.range (pa_cons (pv 1) pa_nil)) (pg_name (i := 5) scInit.nd rfl (Or.inl rfl))
        (pss_one (ps_for PassesOwn.never rfl (pi_range1 rfl B.range (pa_cons (pv 2) pa_nil)) (pg_name (i := 6) scInit.nd rfl (Or.inl rfl))
          (pss_cons (ps_dput hu (pe_fld (pv 0) rfl) (pe_tup (pa_cons (pv 5) (pa_cons (pv 6) pa_nil))) pe_int rfl)
          (pss_one (ps_for PassesOwn.never rfl (pi_range1 rfl B.range (pa_cons (pv 3) pa_nil)) (pg_name (i := 7) scInit.nd rfl (Or.inl rfl))
            (pss_one (ps_for PassesOwn.never rfl (pi_range1 rfl B.range (pa_cons (pv 4) pa_nil)) (pg_name (i := 8) scInit.nd rfl (Or.inl rfl))
              (pss_one (ps_dput hu (pe_fld (pv 0) rfl) (pe_tup (pa_cons (pv 5) (pa_cons (pv 6) (pa_cons (pv 7) (pa_cons (pv 8) pa_nil))))) pe_int rfl))))))))))))))))), ?_⟩
    refine ⟨_, rfl, _, rfl, p, C, dx, _, rfl, hp, G.cl, G.nx, by decide, ?_⟩
    refine ⟨_, rfl, _, rfl, p, C, dx, _, rfl, upd_same, G.cl, G.ny, by show 1 < 1000; decide, ?_⟩
    rw [upd_upd]
    refine ⟨_, rfl, _, rfl, p, C, dx, _, rfl, upd_same, G.cl, G.na, by show 2 < 1000; decide, ?_⟩
    rw [upd_upd]
    refine ⟨_, rfl, _, rfl, p, C, dx, _, rfl, upd_same, G.cl, G.nb, by show 3 < 1000; decide, ?_⟩
    rw [upd_upd]
    intro wd nwd
    have p1 : p ≠ wd := ne_of_none upd_same nwd
    refine ⟨_, rfl, p, C, dx, _, rfl, by rw [upd_ne p1]; exact upd_same, G.cl, G.nw, by show 4 < 1000; decide, ?_⟩
    intro td ntd
    have p2 : p ≠ td := ne_of_none upd_same ntd
    have p3 : wd ≠ td := ne_of_none (o := .dT []) (by rw [upd_ne p1.symm]; exact upd_same) ntd
    refine ⟨_, rfl, p, C, dx, _, rfl, by rw [upd_ne p2]; exact upd_same, G.cl, G.nt, by show 5 < 1000; decide, ?_⟩
    have nw0 : H wd = none := by rw [upd_ne p1.symm] at nwd; exact nwd
    have nt0 : H td = none := by rw [upd_ne p2.symm, upd_ne p3.symm, upd_ne p2.symm] at ntd; exact ntd
    refine ⟨_, rfl, x, rfl, by omega, by omega, for_range0 (n := x) (fun i σ H' => ∃ v5 v6 v7 v8, σ = [some (.ref p), some (.int x), some (.int y), some (.int a), some (.int b), v5, v6, v7, v8] ∧ Lay H H' p wd td C dx x y a b (pP y i 0) (qP y a b i 0 0 0)) ?_ ?_ ?_⟩
    · refine ⟨none, none, none, none, rfl, ⟨?_, ?_, ?_, ?_, nw0, nt0, p3, p1, p2⟩⟩
      · rw [upd_same]; rfl
      · rw [upd_ne p1.symm, upd_ne p3, upd_ne p1.symm, upd_same]; rfl
      · rw [upd_ne p2.symm, upd_same]; rfl
      · intro c o h hc
        rw [upd_ne hc, upd_ne (ne_of_none h nt0), upd_ne hc, upd_ne (ne_of_none h nw0), upd_ne hc]
        exact h
    · rintro i σ H1 hi ⟨v5, v6, v7, v8, rfl, L1⟩
      refine ⟨_, rfl, y, rfl, by omega, by omega, for_range0 (n := y) (fun j σ H' => ∃ v6 v7 v8, σ = [some (.ref p), some (.int x), some (.int y), some (.int a), some (.int b), some (.int (i : Nat)), v6, v7, v8] ∧ Lay H H' p wd td C dx x y a b (pP y i j) (qP y a b i j 0 0)) ?_ ?_ ?_⟩
      · exact ⟨v6, v7, v8, rfl, L1⟩
      · rintro j σ H2 hj ⟨v6, v7, v8, rfl, L2⟩
        refine ⟨_, rfl, p, C, dx, _, _, rfl, L2.ins, G.cl, G.nw, gf_w _ _ _ _ _ _, _, rfl, _, rfl, by show 2 ≤ sizeLine; decide, fun k1 hk1 => ?_⟩
        have s1 : Same H2 (upd H2 k1 (.tup [.int (i : Nat), .int (j : Nat)])) := .new hk1
        refine ⟨wd, _, rfl, dput_new (k := [i, j]) (s1 _ _ L2.w) upd_same pP_not (by rw [sizeLine_eq]; have := pP_len (y := y) (i := i) (j := j) (by omega) (by omega) (by omega); omega), ?_⟩
        rw [pP_snoc]
        generalize hHa : upd (upd H2 k1 (.tup [.int (i : Nat), .int (j : Nat)])) wd (.dT (dOf (pP y i (j + 1)) fun _ => .int 1)) = Ha
        have ba : ∀ c o, H2 c = some o → c ≠ wd → Ha c = some o := fun c o h n => by rw [← hHa, upd_ne n]; exact s1 _ _ h
        have La : Lay H Ha p wd td C dx x y a b (pP y i (j + 1)) (qP y a b i j 0 0) :=
          ⟨ba _ _ L2.ins L2.pw, by rw [← hHa, upd_same], ba _ _ L2.t L2.apart.symm, fun c o h hc => ba _ _ (L2.but c o h hc) (ne_of_none h L2.nw), L2.nw, L2.nt, L2.apart, L2.pw, L2.pt⟩
        refine ⟨_, rfl, a, rfl, by omega, by omega, for_range0 (n := a) (fun m σ H' => ∃ v7 v8, σ = [some (.ref p), some (.int x), some (.int y), some (.int a), some (.int b), some (.int (i : Nat)), some (.int (j : Nat)), v7, v8] ∧ Lay H H' p wd td C dx x y a b (pP y i (j + 1)) (qP y a b i j m 0)) ?_ ?_ ?_⟩
        · exact ⟨v7, v8, rfl, La⟩
        · rintro m σ H3 hm ⟨v7, v8, rfl, L3⟩
          refine ⟨_, rfl, b, rfl, by omega, by omega, for_range0 (n := b) (fun n σ H' => ∃ v8, σ = [some (.ref p), some (.int x), some (.int y), some (.int a), some (.int b), some (.int (i : Nat)), some (.int (j : Nat)), some (.int (m : Nat)), v8] ∧ Lay H H' p wd td C dx x y a b (pP y i (j + 1)) (qP y a b i j m n)) ?_ ?_ ?_⟩
          · exact ⟨v8, rfl, L3⟩
          · rintro n σ H4 hn ⟨v8, rfl, L4⟩
            refine ⟨_, rfl, p, C, dx, _, _, rfl, L4.ins, G.cl, G.nt, gf_t _ _ _ _ _ _, _, rfl, _, rfl, _, rfl, _, rfl, by show 4 ≤ sizeLine; decide, fun k2 hk2 => ?_⟩
            have s4 : Same H4 (upd H4 k2 (.tup [.int (i : Nat), .int (j : Nat), .int (m : Nat), .int (n : Nat)])) := .new hk2
            refine ⟨td, _, rfl, dput_new (k := [i, j, m, n]) (s4 _ _ L4.t) upd_same qP_not (by rw [sizeLine_eq]; have := qP_len (y := y) (a := a) (b := b) (i := i) (j := j) (m := m) (n := n) (by omega) (by omega) (by omega) (by omega) (by omega) (by omega) (by omega); omega), ?_⟩
            rw [qP_snoc]
            generalize hHb : upd (upd H4 k2 (.tup [.int (i : Nat), .int (j : Nat), .int (m : Nat), .int (n : Nat)])) td (.dT (dOf (qP y a b i j m (n + 1)) fun _ => .int 0)) = Hb
            have bb : ∀ c o, H4 c = some o → c ≠ td → Hb c = some o := fun c o h n => by rw [← hHb, upd_ne n]; exact s4 _ _ h
            exact ⟨_, rfl, bb _ _ L4.ins L4.pt, bb _ _ L4.w L4.apart, by rw [← hHb, upd_same], fun c o h hc => bb _ _ (L4.but c o h hc) (ne_of_none h L4.nt), L4.nw, L4.nt, L4.apart, L4.pw, L4.pt⟩
          · rintro σ H4 ⟨v8, rfl, L4⟩
            rw [qP_nextM] at L4
            exact ⟨_, _, rfl, L4⟩
        · rintro σ H3 ⟨v7, v8, rfl, L3⟩
          rw [qP_nextJ] at L3
          exact ⟨_, _, _, rfl, L3⟩
      · rintro σ H2 ⟨v6, v7, v8, rfl, L2⟩
        rw [pP_next, qP_nextI] at L2
        exact ⟨_, _, _, _, rfl, L2⟩
    · rintro σ H1 ⟨v5, v6, v7, v8, rfl, L1⟩
      have e1 : pP y x 0 = pk x y := by unfold pP pk; simp
      have e2 : qP y a b x 0 0 0 = qk x y a b := by unfold qP qk; simp
      refine k H1 (Foot p wd td) ⟨wd, td, ⟨⟨dx, L1.ins⟩, ?_, ?_, L1.apart, new_wf hx hy ha hb⟩, fun _ => Iff.rfl⟩ ?_ L1.but
      · rw [L1.w, e1]
        congr 2
        apply dOf_congr
        intro k hk
        obtain ⟨u, v, rfl, h1, h2⟩ := mem_pk.mp hk
        show V.int 1 = V.int ((Su172.new x y a b).count u v : Nat)
        rw [new_count h1 h2]; rfl
      · rw [L1.t, e2]; rfl
      · intro c hc
        rcases hc with e | e | e
        · exact .inl e
        · exact .inr (by rw [e]; exact L1.nw)
        · exact .inr (by rw [e]; exact L1.nt)
end
end Ta

set_option Elab.async false
set_option linter.all false
set_option maxRecDepth 100000
namespace Tm
open Su172
/-! ### how much all counts -/
theorem list_range {α : Type} (d : α) : ∀ (l : List α), l = (List.range l.length).map fun i => l.getD i d := by
  intro l
  apply List.ext_getElem
  · simp
  · intro i h1 h2
    simp [List.getD, h1]
theorem counts_eq {A : Abs} (cl : A.counts.length = A.x) (cr : ∀ r ∈ A.counts, r.length = A.y) : A.counts = (List.range A.x).map fun x => (List.range A.y).map fun y => A.count x y := by
  apply List.ext_getElem
  · simp [cl]
  · intro i h1 h2
    rw [List.getElem_map, List.getElem_range]
    have hl := cr A.counts[i] (List.getElem_mem h1)
    have e : ∀ y, A.count i y = A.counts[i].getD y 0 := fun y => by
      unfold Abs.count
      congr 1
      simp [List.getD, h1]
    rw [show (fun y => A.count i y) = fun y => A.counts[i].getD y 0 from funext e, ← hl]
    exact list_range 0 _
theorem total_eq {A : Abs} (cl : A.counts.length = A.x) (cr : ∀ r ∈ A.counts, r.length = A.y) : A.total = ((List.range A.x).map fun x => ((List.range A.y).map fun y => A.count x y).sum).sum := by
  unfold Abs.total
  rw [counts_eq cl cr, List.map_map]
  congr 1
theorem sum_flat {α : Type} (f : α → List Nat) : ∀ l : List α, (l.flatMap f).sum = (l.map fun a => (f a).sum).sum
  | [] => rfl
  | a :: l => by rw [List.flatMap_cons, List.sum_append, List.map_cons, List.sum_cons, sum_flat f l]
/-! ### answers that win, after a store -/
theorem set_won (A : Abs) (x y a b v x' y' a' b' : Nat) (hv : v ≤ 1) : (A.set x y a b v).won x' y' a' b' = if x' = x ∧ y' = y ∧ a' = a ∧ b' = b then decide (v = 1) else A.won x' y' a' b' := by
  apply Bool.eq_iff_iff.mpr
  have hv' : v = 0 ∨ v = 1 := by omega
  rcases hv' with rfl | rfl
  · show (A.wins.filter fun w => w != (x, y, a, b)).contains (x', y', a', b') = true ↔ _
    simp only [List.contains_iff_mem, List.mem_filter]
    by_cases e : x' = x ∧ y' = y ∧ a' = a ∧ b' = b
    · rw [if_pos e]
      obtain ⟨rfl, rfl, rfl, rfl⟩ := e
      simp
    · rw [if_neg e]
      show _ ↔ A.wins.contains (x', y', a', b') = true
      rw [List.contains_iff_mem]
      constructor
      · exact fun h => h.1
      · intro h
        refine ⟨h, ?_⟩
        simp only [bne_iff_ne, ne_eq, Prod.mk.injEq]
        exact e
  · show (if A.won x y a b = true then A.wins else (x, y, a, b) :: A.wins).contains (x', y', a', b') = true ↔ _
    by_cases e : x' = x ∧ y' = y ∧ a' = a ∧ b' = b
    · rw [if_pos e]
      obtain ⟨rfl, rfl, rfl, rfl⟩ := e
      by_cases h : A.won x' y' a' b' = true
      · rw [if_pos h]
        exact ⟨fun _ => rfl, fun _ => h⟩
      · rw [if_neg h]
        simp
    · rw [if_neg e]
      by_cases h : A.won x y a b = true
      · rw [if_pos h]; rfl
      · rw [if_neg h]
        show _ ↔ A.wins.contains (x', y', a', b') = true
        simp only [List.contains_cons, Bool.or_eq_true, beq_iff_eq, Prod.mk.injEq]
        constructor
        · rintro (h | h)
          · exact absurd h e
          · exact h
        · exact fun h => .inr h
theorem set_wins {A : Abs} {x y a b v : Nat} {p : Nat × Nat × Nat × Nat} (h : p ∈ (A.set x y a b v).wins) : p ∈ A.wins ∨ p = (x, y, a, b) := by
  unfold Abs.set at h
  simp only at h
  by_cases hv : v = 1
  · rw [if_pos hv] at h
    by_cases hw : A.won x y a b = true
    · rw [if_pos hw] at h
      exact .inl h
    · rw [if_neg hw] at h
      rcases List.mem_cons.mp h with h | h
      · exact .inr h
      · exact .inl h
  · rw [if_neg hv] at h
    exact .inl (List.mem_filter.mp h).1
theorem set_dims (A : Abs) (x y a b v : Nat) : (A.set x y a b v).x = A.x ∧ (A.set x y a b v).y = A.y ∧ (A.set x y a b v).a = A.a ∧ (A.set x y a b v).b = A.b ∧ (A.set x y a b v).counts = A.counts := ⟨rfl, rfl, rfl, rfl, rfl⟩
def oddFold (A : Abs) (x y s : Nat) (l : List (Nat × Nat)) : Abs := l.foldl (fun h p => h.set x y p.1 p.2 (if (p.1 + p.2) % 2 = s then 1 else 0)) A
theorem oddFold_spec (x y s : Nat) : ∀ (l : List (Nat × Nat)) (A : Abs), (oddFold A x y s l).x = A.x ∧ (oddFold A x y s l).y = A.y ∧ (oddFold A x y s l).a = A.a ∧ (oddFold A x y s l).b = A.b ∧ (oddFold A x y s l).counts = A.counts ∧
    (∀ x' y' a' b', (oddFold A x y s l).won x' y' a' b' = if x' = x ∧ y' = y ∧ (a', b') ∈ l then decide ((a' + b') % 2 = s) else A.won x' y' a' b') ∧
    ∀ p ∈ (oddFold A x y s l).wins, p ∈ A.wins ∨ ∃ q ∈ l, p = (x, y, q.1, q.2)
  | [], A => ⟨rfl, rfl, rfl, rfl, rfl, fun x' y' a' b' => by simp [oddFold], fun p hp => .inl hp⟩
  | q :: l, A => by
    obtain ⟨h1, h2, h3, h4, h5, h6, h7⟩ := oddFold_spec x y s l (A.set x y q.1 q.2 (if (q.1 + q.2) % 2 = s then 1 else 0))
    have e : oddFold A x y s (q :: l) = oddFold (A.set x y q.1 q.2 (if (q.1 + q.2) % 2 = s then 1 else 0)) x y s l := rfl
    rw [e]
    refine ⟨h1, h2, h3, h4, h5, fun x' y' a' b' => ?_, fun p hp => ?_⟩
    · rw [h6, set_won _ _ _ _ _ _ _ _ _ _ (by split <;> omega)]
      by_cases hxy : x' = x ∧ y' = y
      · obtain ⟨rfl, rfl⟩ := hxy
        by_cases hm : (a', b') ∈ l
        · rw [if_pos ⟨rfl, rfl, hm⟩, if_pos ⟨rfl, rfl, List.mem_cons_of_mem _ hm⟩]
        · rw [if_neg fun z => hm z.2.2]
          by_cases hq : (a', b') = q
          · subst hq
            rw [if_pos (show x' = x' ∧ y' = y' ∧ a' = (a', b').1 ∧ b' = (a', b').2 from ⟨rfl, rfl, rfl, rfl⟩), if_pos (show x' = x' ∧ y' = y' ∧ (a', b') ∈ (a', b') :: l from ⟨rfl, rfl, List.mem_cons_self ..⟩)]
            by_cases z : (a' + b') % 2 = s <;> simp [z]
          · rw [if_neg fun z => hq (by rw [z.2.2.1, z.2.2.2]), if_neg fun z => by
              rcases List.mem_cons.mp z.2.2 with z | z
              · exact hq z
              · exact hm z]
      · rw [if_neg fun z => hxy ⟨z.1, z.2.1⟩, if_neg fun z => hxy ⟨z.1, z.2.1⟩, if_neg fun z => hxy ⟨z.1, z.2.1⟩]
    · rcases h7 p hp with h | ⟨r, hr, h⟩
      · rcases set_wins h with h | h
        · exact .inl h
        · exact .inr ⟨q, List.mem_cons_self .., h⟩
      · exact .inr ⟨r, List.mem_cons_of_mem _ hr, h⟩
theorem odd_eq (A : Abs) (x y s : Nat) : A.odd_ x y s = oddFold A x y s ((List.range A.a).flatMap fun a => (List.range A.b).map fun b => (a, b)) := rfl
theorem mem_ab {X Y a b : Nat} : (a, b) ∈ ((List.range X).flatMap fun a => (List.range Y).map fun b => (a, b)) ↔ a < X ∧ b < Y := by
  simp [List.mem_flatMap]
theorem odd_won {A : Abs} {x y s a' b' : Nat} (x' y' : Nat) (ha : a' < A.a) (hb : b' < A.b) : (A.odd_ x y s).won x' y' a' b' = if x' = x ∧ y' = y then decide ((a' + b') % 2 = s) else A.won x' y' a' b' := by
  rw [odd_eq, (oddFold_spec x y s _ A).2.2.2.2.2.1]
  by_cases h : x' = x ∧ y' = y
  · rw [if_pos h, if_pos ⟨h.1, h.2, mem_ab.mpr ⟨ha, hb⟩⟩]
  · rw [if_neg h, if_neg fun z => h ⟨z.1, z.2.1⟩]
theorem odd_dims (A : Abs) (x y s : Nat) : (A.odd_ x y s).x = A.x ∧ (A.odd_ x y s).y = A.y ∧ (A.odd_ x y s).a = A.a ∧ (A.odd_ x y s).b = A.b ∧ (A.odd_ x y s).counts = A.counts := by
  rw [odd_eq]
  obtain ⟨h1, h2, h3, h4, h5, _⟩ := oddFold_spec x y s ((List.range A.a).flatMap fun a => (List.range A.b).map fun b => (a, b)) A
  exact ⟨h1, h2, h3, h4, h5⟩
theorem odd_wins {A : Abs} {x y s : Nat} {p : Nat × Nat × Nat × Nat} (h : p ∈ (A.odd_ x y s).wins) : p ∈ A.wins ∨ (p.1 = x ∧ p.2.1 = y ∧ p.2.2.1 < A.a ∧ p.2.2.2 < A.b) := by
  rw [odd_eq] at h
  rcases (oddFold_spec x y s _ A).2.2.2.2.2.2 p h with h | ⟨⟨a, b⟩, hq, rfl⟩
  · exact .inl h
  · exact .inr ⟨rfl, rfl, mem_ab.mp hq⟩
/-! ### a count, after a store -/
def asks (A : Abs) (x y w : Nat) : Abs := { A with counts := A.counts.set x ((A.counts.getD x []).set y w) }
theorem asks_count {A : Abs} {x y : Nat} (w x' y' : Nat) (cl : A.counts.length = A.x) (cr : ∀ r ∈ A.counts, r.length = A.y) (hx : x < A.x) (hy : y < A.y) : (asks A x y w).count x' y' = if x' = x ∧ y' = y then w else A.count x' y' := by
  unfold asks Abs.count
  simp only [List.getD, List.getElem?_set]
  have hx' : x < A.counts.length := by rw [cl]; exact hx
  by_cases e : x = x'
  · subst e
    have hl : (A.counts[x]).length = A.y := cr _ (List.getElem_mem hx')
    simp only [if_true, hx', List.getElem?_eq_getElem hx', Option.getD_some, List.getElem?_set]
    by_cases e2 : y = y'
    · subst e2
      simp [hl, hy]
    · have e2' : ¬ y' = y := fun z => e2 z.symm
      simp [e2, e2']
  · have e' : ¬ x' = x := fun z => e z.symm
    simp [e, e']
theorem asks_len {A : Abs} {x y w : Nat} (cl : A.counts.length = A.x) (cr : ∀ r ∈ A.counts, r.length = A.y) (hx : x < A.x) : (asks A x y w).counts.length = A.x ∧ ∀ r ∈ (asks A x y w).counts, r.length = A.y := by
  unfold asks
  refine ⟨by simp [cl], fun r hr => ?_⟩
  rcases List.mem_or_eq_of_mem_set hr with h | h
  · exact cr r h
  · rw [h, List.length_set]
    have hx' : x < A.counts.length := by rw [cl]; exact hx
    have : A.counts.getD x [] = A.counts[x] := by simp [List.getD, hx']
    rw [this]
    exact cr _ (List.getElem_mem hx')
/-! ### replies -/
theorem reply_get {A : Abs} (f : List Nat) {y : Nat} (hy : y < A.y) : (A.reply f).getD y 0 = most A.b (A.gainAt f y) := by
  unfold Abs.reply
  simp [List.getD, hy]
theorem reply_value (A : Abs) (f : List Nat) : A.value f (A.reply f) = ((List.range A.y).map fun y => A.gainAt f y (most A.b (A.gainAt f y))).sum := by
  unfold Abs.value
  congr 1
  apply List.map_congr_left
  intro y hy
  rw [reply_get f (List.mem_range.mp hy)]
/-- the gains of the second's answers, by questions -/
def gains (A : Abs) (f : List Nat) : List (List Nat) := (List.range A.y).map fun y => (List.range A.b).map fun b => A.gainAt f y b
theorem gains_topN (A : Abs) (f : List Nat) : (gains A f).map topN = A.reply f := by
  unfold gains Abs.reply
  rw [List.map_map]
  apply List.map_congr_left
  intro y hy
  exact topN_range _ _
theorem gains_topV {A : Abs} (hb : 0 < A.b) (f : List Nat) : ((gains A f).map topV).sum = A.value f (A.reply f) := by
  unfold gains
  rw [reply_value, List.map_map]
  congr 1
  apply List.map_congr_left
  intro y hy
  exact topV_range hb _
theorem gains_wins (A : Abs) (f : List Nat) : winsOf (gains A f) = A.seconds.map fun h => A.value f h := winsOf_rows A.b (fun y b => A.gainAt f y b) A.y
/-- how many plans win just t -/
theorem plans_count (A : Abs) (t : Nat) : ∀ L : List (List Nat), ((L.flatMap fun f => A.seconds.map fun h => (f, h)).filter fun p => A.value p.1 p.2 == t).length = (L.map fun f => (A.seconds.map fun h => A.value f h).count t).sum
  | [] => rfl
  | f :: L => by
    rw [List.flatMap_cons, List.filter_append, List.length_append, plans_count A t L, List.map_cons, List.sum_cons]
    congr 1
    generalize A.seconds = S
    induction S with
    | nil => rfl
    | cons h S ih =>
      rw [List.map_cons, List.filter_cons, List.map_cons, List.count_cons]
      by_cases e : (A.value f h == t) = true
      · rw [if_pos e, List.length_cons, ih, if_pos e]
      · rw [if_neg e, ih, if_neg e]; rfl
theorem plans_len (A : Abs) : ∀ L : List (List Nat), (L.flatMap fun f => A.seconds.map fun h => (f, h)).length = (L.map fun f => (A.seconds.map fun h => A.value f h).length).sum
  | [] => rfl
  | f :: L => by
    rw [List.flatMap_cons, List.length_append, plans_len A L, List.map_cons, List.sum_cons, List.length_map, List.length_map]
end Tm

set_option Elab.async false
set_option linter.all false
set_option maxRecDepth 100000
set_option maxHeartbeats 2000000
namespace Ta
open PySem PySem.Spec PyProof.Rows L2
/-- a dict's values after stores, from the left -/
def upds (f : List Nat → V) : List (List Nat × V) → List Nat → V
  | [] => f
  | p :: l => upds (fun k' => if k' = p.1 then p.2 else f k') l
theorem upds_snoc (p : List Nat × V) : ∀ (l : List (List Nat × V)) (f : List Nat → V), upds f (l ++ [p]) = fun k' => if k' = p.1 then p.2 else upds f l k'
  | [], f => rfl
  | q :: l, f => upds_snoc p l _
theorem upds_none {k : List Nat} : ∀ {l : List (List Nat × V)} {f : List Nat → V}, (∀ p ∈ l, p.1 ≠ k) → upds f l k = f k
  | [], _, _ => rfl
  | p :: l, f, h => by
    show upds _ l k = _
    rw [upds_none fun q hq => h q (List.mem_cons_of_mem _ hq)]
    show (if k = p.1 then p.2 else f k) = f k
    rw [if_neg fun e => h p (List.mem_cons_self ..) e.symm]
theorem upds_some {k : List Nat} {c : V} : ∀ {l : List (List Nat × V)} {f : List Nat → V}, (∀ p ∈ l, p.1 = k → p.2 = c) → (∃ p ∈ l, p.1 = k) → upds f l k = c
  | [], _, _, h => by obtain ⟨p, hp, _⟩ := h; cases hp
  | p :: l, f, h1, h2 => by
    show upds _ l k = _
    by_cases e : ∃ q ∈ l, q.1 = k
    · exact upds_some (fun q hq => h1 q (List.mem_cons_of_mem _ hq)) e
    · rw [upds_none fun q hq z => e ⟨q, hq, z⟩]
      obtain ⟨q, hq, eq⟩ := h2
      rcases List.mem_cons.mp hq with rfl | hq
      · show (if k = q.1 then q.2 else f k) = c
        rw [if_pos eq.symm]
        exact h1 q (List.mem_cons_self ..) eq
      · exact absurd ⟨q, hq, eq⟩ e
theorem Same.made' {H H1 : Hp} {g d : Addr} {o1 o2 : HO} (ng : H g = none) (nd : H d = none) (b : ∀ c o, upd (upd H d o1) g o2 c = some o → c ≠ g → H1 c = some o) : Same H H1 :=
  fun c o h => b c o (by rw [upd_ne (ne_of_none h ng), upd_ne (ne_of_none h nd)]; exact h) (ne_of_none h ng)
theorem made_new {H : Hp} {g d : Addr} {o1 o2 : HO} {F : Addr → Prop} (ng : H g = none) (nd : H d = none) (f : ∀ c, F c → c = g ∨ upd (upd H d o1) g o2 c = none) : ∀ c, F c → H c = none := fun c h => by
  rcases f c h with e | e
  · rw [e]; exact ng
  · by_cases e1 : c = g
    · rw [e1]; exact ng
    · by_cases e2 : c = d
      · rw [e2]; exact nd
      · rw [upd_ne e1, upd_ne e2] at e; exact e
/-- a game whose dicts have been written -/
theorem built {C : Addr} {H1 H' : Hp} {o ow ot : Addr} {A0 A' : Su172.Abs} {fw ft : List Nat → V} (G : GameAt C H1 o A0 ow ot) (d1 : A'.x = A0.x) (d2 : A'.y = A0.y) (d3 : A'.a = A0.a) (d4 : A'.b = A0.b) (b : ∀ c u, H1 c = some u → c ≠ ow → c ≠ ot → H' c = some u)
    (hw : H' ow = some (.dT (dOf (pk A0.x A0.y) fw))) (ht : H' ot = some (.dT (dOf (qk A0.x A0.y A0.a A0.b) ft))) (ew : ∀ i j, i < A0.x → j < A0.y → fw [i, j] = .int (A'.count i j : Nat))
    (et : ∀ i j k l, i < A0.x → j < A0.y → k < A0.a → l < A0.b → ft [i, j, k, l] = .int (Su172.bit (A'.won i j k l) : Nat)) (wf : Wf A') : GAt C H' o A' (Foot o ow ot) := by
  obtain ⟨dx, hi⟩ := G.ins
  refine ⟨ow, ot, ⟨⟨dx, ?_⟩, ?_, ?_, G.apart, wf⟩, fun _ => Iff.rfl⟩
  · rw [d1, d2, d3, d4]
    exact b _ _ hi (ne_of hi G.w (by intro z; cases z)) (ne_of hi G.t (by intro z; cases z))
  · rw [hw, d1, d2]
    congr 2
    apply dOf_congr
    intro k hk
    obtain ⟨u, v, rfl, h1, h2⟩ := mem_pk.mp hk
    exact ew u v h1 h2
  · rw [ht, d1, d2, d3, d4]
    congr 2
    apply dOf_congr
    intro k hk
    obtain ⟨u, v, s, t, rfl, h1, h2, h3, h4⟩ := mem_qk.mp hk
    exact et u v s t h1 h2 h3 h4
theorem pk_lt {X Y : Nat} (hx : X ≤ 4) (hy : Y ≤ 4) : (pk X Y).length < sizeLine := by
  rw [pk_len, sizeLine_eq]; have := Nat.mul_le_mul hx hy; omega
theorem qk_lt {X Y A B : Nat} (hx : X ≤ 4) (hy : Y ≤ 4) (ha : A ≤ 4) (hb : B ≤ 4) : (qk X Y A B).length < sizeLine := by
  rw [qk_len, sizeLine_eq]
  have h1 : A * B ≤ 4 * 4 := Nat.mul_le_mul ha hb
  have h2 : Y * (A * B) ≤ 4 * (4 * 4) := Nat.mul_le_mul hy h1
  have h3 : X * (Y * (A * B)) ≤ 4 * (4 * (4 * 4)) := Nat.mul_le_mul hx h2
  omega
theorem swapped_wf {A : Su172.Abs} (wf : Wf A) : Wf A.swapped := by
  refine ⟨wf.y1, wf.x1, wf.b0, wf.b1, wf.a0, wf.a1, ?_, fun r hr => ?_, fun v hv => ?_⟩
  · show ((List.range A.y).map _).length = A.y; simp
  · have hr : r ∈ (List.range A.y).map fun y => (List.range A.x).map fun x => A.count x y := hr
    obtain ⟨y, _, rfl⟩ := List.mem_map.mp hr
    show ((List.range A.x).map _).length = A.x; simp
  · have hv : v ∈ A.wins.map fun w => (w.2.1, w.1, w.2.2.2, w.2.2.1) := hv
    obtain ⟨u, hu, rfl⟩ := List.mem_map.mp hv
    obtain ⟨h1, h2, h3, h4⟩ := wf.ww u hu
    exact ⟨h2, h1, h4, h3⟩
section
variable {P : Program} {w : World} {K : PySem.W.Frag} {mg : Str → Option Value} {base : Heap} {C : Addr}
/-! ### exchanged -/
def spExch (C : Addr) : Sp := fun vs H Q _ => ∃ (g : Addr) (A : Su172.Abs) (F : Addr → Prop), vs = [.ref g] ∧ GAt C H g A F ∧ NewG C H A.swapped Q
abbrev sExch : Stmt := inClass (top 34) 1
/-- slots: 0:self 1:other 2:x 3:y 4:a 5:b -/
theorem scExch : FnScope ["self", "other", "x", "y", "a", "b"] ["self"] (defScope sExch) := ⟨rfl, rfl, rfl, by decide +kernel, rfl, by decide +kernel, by decide +kernel⟩
theorem ok_exch {f : Addr} {fd : FuncData} (F : Fun K "exchanged" "Game.exchanged" sExch f fd) (B : Blt mg) (G : GCls K C) (n_Game : NCal P w K mg base C 1 "Game" ["self", "first_asked", "second_asked", "first_choices", "second_choices"] (spInit C)) :
    FnOk P w K mg base CX0 3 f fd ["self"] (spExch C) := by
  refine F.ok scExch (fun vs H Q E h => ?_) (fun cdv A outer s H vs Q E hr h => ?_)
  · obtain ⟨g, A, F, rfl, _⟩ := h
    rfl
  · obtain ⟨g, A, F, rfl, gat, k⟩ := h
    obtain ⟨wd, td, gm, hf⟩ := id gat
    obtain ⟨dx, hi⟩ := gm.ins
    have wf := gm.wf
    have hu := hu_of hr
    refine ⟨_, (pss_cons (ps_set (i := 1) scExch.nd rfl (Or.inl rfl) (pe_mk n_Game (hr.mono (by decide)) (pa_cons (pe_fld (pv 0) rfl) (pa_cons (pe_fld (pv 0) rfl) (pa_cons (pe_fld (pv 0) rfl) (pa_cons (pe_fld (pv 0) rfl) pa_nil))))))
      (pss_cons (ps_for PassesOwn.never rfl (pi_list (pe_callTy (cr_listD (by rfl)) (by rfl) B.list PyProof.Rows.boot_list (pa_cons (pe_fld (pv 0) rfl) pa_nil))) (pg_tup (by rfl) (pgs_cons (pg_name (i := 2) scExch.nd rfl (Or.inl rfl)) (pgs_cons (pg_name (i := 3) scExch.nd rfl (Or.inl rfl)) pgs_nil)))
        (pss_one (ps_dput hu (pe_fld (pv 1) rfl) (pe_tup (pa_cons (pv 3) (pa_cons (pv 2) pa_nil))) (pe_dget hu (pe_fld (pv 0) rfl) (pe_tup (pa_cons (pv 2) (pa_cons (pv 3) pa_nil))) (fun _ _ => rfl)) rfl)))
      (pss_cons (ps_for PassesOwn.never rfl (pi_list (pe_callTy (cr_listD (by rfl)) (by rfl) B.list PyProof.Rows.boot_list (pa_cons (pe_fld (pv 0) rfl) pa_nil))) (pg_tup (by rfl) (pgs_cons (pg_name (i := 2) scExch.nd rfl (Or.inl rfl)) (pgs_cons (pg_name (i := 3) scExch.nd rfl (Or.inl rfl)) (pgs_cons (pg_name (i := 4) scExch.nd rfl (Or.inl rfl)) (pgs_cons (pg_name (i := 5) scExch.nd rfl (Or.inl rfl)) pgs_nil)))))
        (pss_one (ps_dput hu (pe_fld (pv 1) rfl) (pe_tup (pa_cons (pv 3) (pa_cons (pv 2) (pa_cons (pv 5) (pa_cons (pv 4) pa_nil))))) (pe_dget hu (pe_fld (pv 0) rfl) (pe_tup (pa_cons (pv 2) (pa_cons (pv 3) (pa_cons (pv 4) (pa_cons (pv 5) pa_nil))))) (fun _ _ => rfl)) rfl)))
      (pss_one (ps_ret (pv 1)))))), ?_⟩
    refine ⟨_, rfl, g, C, dx, _, _, rfl, hi, G.cl, G.ny, gf_y _ _ _ _ _ _, _, rfl, g, C, dx, _, _, rfl, hi, G.cl, G.nx, gf_x _ _ _ _ _ _, _, rfl, g, C, dx, _, _, rfl, hi, G.cl, G.nb, gf_b _ _ _ _ _ _, _, rfl, g, C, dx, _, _, rfl, hi, G.cl, G.na, gf_a _ _ _ _ _ _, fun o dg ng nd ne => ?_⟩
    refine ⟨o, dg, A.y, A.x, A.b, A.a, rfl, upd_same, wf.y1, wf.x1, ⟨wf.b0, wf.b1⟩, ⟨wf.a0, wf.a1⟩, fun H1 F1 G1 f1 b1 => ⟨rfl, ?_⟩⟩
    have s1 : Same H H1 := Same.made' ng nd b1
    have new1 := made_new ng nd f1
    obtain ⟨ow, ot, gm1, hf1⟩ := G1
    have now : H ow = none := new1 ow ((hf1 ow).mpr (.inr (.inl rfl)))
    have not_ : H ot = none := new1 ot ((hf1 ot).mpr (.inr (.inr rfl)))
    have noo : H o = none := ng
    obtain ⟨do_, hio⟩ := gm1.ins
    -- weights
    refine ⟨_, rfl, g, C, dx, _, _, rfl, s1 _ _ hi, G.cl, G.nw, gf_w _ _ _ _ _ _, wd, _, rfl, s1 _ _ gm.w, fun l rs nl hlen hk => ?_⟩
    have kl := kl_of nl hlen hk
    have s2 : Same H1 (upd H1 l (.lst (rs.map V.ref))) := .new nl
    generalize upd H1 l (.lst (rs.map V.ref)) = H2 at kl s2
    refine ⟨l, rfl, ⟨_, SqL.of kl.lst⟩, for_list (K := K) (a := l) (xs := rs.map V.ref) (fun i σ H' => ∃ v2 v3 v4 v5, σ = [some (.ref g), some (.ref o), v2, v3, v4, v5] ∧ But ow H2 H' ∧
      H' ow = some (.dT (dOf (pk A.y A.x) (upds (cntV (Su172.new A.y A.x A.b A.a)) (((pk A.x A.y).take i).map fun k => ([k.getD 1 0, k.getD 0 0], cntV A k))))))
      ⟨none, none, none, none, rfl, fun _ _ _ h => h, s2 _ _ gm1.w⟩ (fun i σ H' _ ⟨_, _, _, _, _, b, _⟩ => SqL.of (b _ _ (ne_of kl.lst (s2 _ _ gm1.w) (by intro z; cases z)) kl.lst)) ?_ ?_⟩
    · rintro i y σ H3 hy ⟨v2, v3, v4, v5, rfl, b3, hw3⟩
      obtain ⟨r, kk, hr1, rfl, hkk, htup⟩ := kl.at hy
      obtain ⟨x, y, rfl, hx, hy1⟩ := mem_pk.mp (List.mem_of_getElem? hkk)
      have s3 : Same H H3 := b3.same' (s1.trans s2) now
      refine ⟨r, _, rfl, .inl (.inl (b3 _ _ (ne_of htup (s2 _ _ gm1.w) (by intro z; cases z)) htup)), rfl, _, _, rfl, _, _, rfl, rfl, ?_⟩
      refine ⟨_, rfl, g, C, dx, _, _, rfl, s3 _ _ hi, G.cl, G.nw, gf_w _ _ _ _ _ _, _, rfl, _, rfl, by show 2 ≤ sizeLine; decide, fun k1 hk1 => ?_⟩
      have s4 : Same H3 (upd H3 k1 (.tup (natsV [x, y]))) := .new hk1
      refine ⟨wd, _, rfl, dget_of (k := [x, y]) (s4 _ _ (s3 _ _ gm.w)) upd_same (pk_mem.mpr ⟨hx, hy1⟩), ?_⟩
      have o3 : H3 o = some (.ins C do_ _) := b3 _ _ (ne_of hio gm1.w (by intro z; cases z)) (s2 _ _ hio)
      refine ⟨_, rfl, o, C, do_, _, _, rfl, s4 _ _ o3, G.cl, G.nw, gf_w _ _ _ _ _ _, _, rfl, _, rfl, by show 2 ≤ sizeLine; decide, fun k2 hk2 => ?_⟩
      have s5 := s4.upd_new (o := .tup (natsV [y, x])) hk2
      refine ⟨ow, _, rfl, dput_of (k := [y, x]) (s5 _ _ hw3) upd_same (pk_mem.mpr ⟨hy1, hx⟩) (pk_lt wf.y1 wf.x1), ?_⟩
      refine ⟨_, _, v4, v5, rfl, b3.trans (s5.but.trans .upd), ?_⟩
      rw [upd_same, take_snoc hkk, List.map_append, List.map_cons, List.map_nil, upds_snoc]
      rfl
    · rintro σ H3 ⟨v2, v3, v4, v5, rfl, b3, hw3⟩
      rw [List.length_map, kl.len, List.take_length] at hw3
      have s3 : Same H H3 := b3.same' (s1.trans s2) now
      have t3 : H3 ot = some (.dT (dOf (qk A.y A.x A.b A.a) (wonV (Su172.new A.y A.x A.b A.a)))) := b3 _ _ gm1.apart.symm (s2 _ _ gm1.t)
      have c3 : ∀ c u, H1 c = some u → c ≠ ow → H3 c = some u := fun c u h n => b3 _ _ n (s2 _ _ h)
      generalize hfw : upds (cntV (Su172.new A.y A.x A.b A.a)) ((pk A.x A.y).map fun k => ([k.getD 1 0, k.getD 0 0], cntV A k)) = fw at hw3
      -- winning
      refine ⟨_, rfl, g, C, dx, _, _, rfl, s3 _ _ hi, G.cl, G.nt, gf_t _ _ _ _ _ _, td, _, rfl, s3 _ _ gm.t, fun l rs nl hlen hk => ?_⟩
      have kl := kl_of nl hlen hk
      have s4 : Same H3 (upd H3 l (.lst (rs.map V.ref))) := .new nl
      generalize upd H3 l (.lst (rs.map V.ref)) = H4 at kl s4
      have o4 : H4 o = some (.ins C do_ _) := s4 _ _ (c3 _ _ hio (ne_of hio gm1.w (by intro z; cases z)))
      refine ⟨l, rfl, ⟨_, SqL.of kl.lst⟩, for_list (K := K) (a := l) (xs := rs.map V.ref) (fun i σ H' => ∃ v2 v3 v4 v5, σ = [some (.ref g), some (.ref o), v2, v3, v4, v5] ∧ But ot H4 H' ∧
        H' ot = some (.dT (dOf (qk A.y A.x A.b A.a) (upds (wonV (Su172.new A.y A.x A.b A.a)) (((qk A.x A.y A.a A.b).take i).map fun k => ([k.getD 1 0, k.getD 0 0, k.getD 3 0, k.getD 2 0], wonV A k))))))
        ⟨v2, v3, v4, v5, rfl, fun _ _ _ h => h, s4 _ _ t3⟩ (fun i σ H' _ ⟨_, _, _, _, _, b, _⟩ => SqL.of (b _ _ (ne_of kl.lst (s4 _ _ t3) (by intro z; cases z)) kl.lst)) ?_ ?_⟩
      · rintro i y σ H5 hy ⟨v2, v3, v4, v5, rfl, b5, ht5⟩
        obtain ⟨r, kk, hr1, rfl, hkk, htup⟩ := kl.at hy
        obtain ⟨x, y, a, b, rfl, hx, hy1, ha, hb⟩ := mem_qk.mp (List.mem_of_getElem? hkk)
        have s5 : Same H H5 := b5.same' (s3.trans s4) not_
        refine ⟨r, _, rfl, .inl (.inl (b5 _ _ (ne_of htup (s4 _ _ t3) (by intro z; cases z)) htup)), rfl, _, _, rfl, _, _, rfl, _, _, rfl, _, _, rfl, rfl, ?_⟩
        refine ⟨_, rfl, g, C, dx, _, _, rfl, s5 _ _ hi, G.cl, G.nt, gf_t _ _ _ _ _ _, _, rfl, _, rfl, _, rfl, _, rfl, by show 4 ≤ sizeLine; decide, fun k1 hk1 => ?_⟩
        have s6 : Same H5 (upd H5 k1 (.tup (natsV [x, y, a, b]))) := .new hk1
        refine ⟨td, _, rfl, dget_of (k := [x, y, a, b]) (s6 _ _ (s5 _ _ gm.t)) upd_same (qk_mem.mpr ⟨hx, hy1, ha, hb⟩), ?_⟩
        have o5 : H5 o = some (.ins C do_ _) := b5 _ _ (ne_of hio gm1.t (by intro z; cases z)) o4
        refine ⟨_, rfl, o, C, do_, _, _, rfl, s6 _ _ o5, G.cl, G.nt, gf_t _ _ _ _ _ _, _, rfl, _, rfl, _, rfl, _, rfl, by show 4 ≤ sizeLine; decide, fun k2 hk2 => ?_⟩
        have s7 := s6.upd_new (o := .tup (natsV [y, x, b, a])) hk2
        refine ⟨ot, _, rfl, dput_of (k := [y, x, b, a]) (s7 _ _ ht5) upd_same (qk_mem.mpr ⟨hy1, hx, hb, ha⟩) (qk_lt wf.y1 wf.x1 wf.b1 wf.a1), ?_⟩
        refine ⟨_, _, _, _, rfl, b5.trans (s7.but.trans .upd), ?_⟩
        rw [upd_same, take_snoc hkk, List.map_append, List.map_cons, List.map_nil, upds_snoc]
        rfl
      · rintro σ H5 ⟨v2, v3, v4, v5, rfl, b5, ht5⟩
        rw [List.length_map, kl.len, List.take_length] at ht5
        have s5 : Same H H5 := b5.same' (s3.trans s4) not_
        refine ⟨_, rfl, k H5 o (Foot o ow ot) s5 (built gm1 rfl rfl rfl rfl (fun c u h n1 n2 => b5 _ _ n2 (s4 _ _ (c3 _ _ h n1))) (b5 _ _ gm1.apart (s4 _ _ hw3)) ht5 (fun i j hi hj => ?_) (fun i j a b hi hj ha hb => ?_) (swapped_wf wf)) fun c hc => ?_⟩
        · rw [← hfw, Tm.swapped_count hj hi]
          refine upds_some (fun p hp e => ?_) ⟨([i, j], cntV A [j, i]), List.mem_map.mpr ⟨[j, i], pk_mem.mpr ⟨hj, hi⟩, rfl⟩, rfl⟩
          obtain ⟨q, hq, rfl⟩ := List.mem_map.mp hp
          obtain ⟨u, v, rfl, _, _⟩ := mem_pk.mp hq
          cases e
          rfl
        · rw [Tm.swapped_won]
          refine upds_some (fun p hp e => ?_) ⟨([i, j, a, b], wonV A [j, i, b, a]), List.mem_map.mpr ⟨[j, i, b, a], qk_mem.mpr ⟨hj, hi, hb, ha⟩, rfl⟩, rfl⟩
          obtain ⟨q, hq, rfl⟩ := List.mem_map.mp hp
          obtain ⟨u, v, s, t, rfl, _⟩ := mem_qk.mp hq
          cases e
          rfl
        · rcases hc with e | e | e
          · rw [e]; exact noo
          · rw [e]; exact now
          · rw [e]; exact not_
end
end Ta

set_option Elab.async false
set_option linter.all false
set_option maxRecDepth 100000
/-! Games made of a game: some of the first's questions, other weights, played twice. -/
namespace Tm
open Su172
def ofFun (x y a b : Nat) (c : Nat → Nat → Nat) (w : Nat → Nat → Nat → Nat → Bool) : Abs :=
  ⟨x, y, a, b, (List.range x).map fun i => (List.range y).map fun j => c i j, (List.range x).flatMap fun i => (List.range y).flatMap fun j => (List.range a).flatMap fun k => (List.range b).filterMap fun l => if w i j k l = true then some (i, j, k, l) else none⟩
theorem ofFun_count {x y a b i j : Nat} {c : Nat → Nat → Nat} {w : Nat → Nat → Nat → Nat → Bool} (hi : i < x) (hj : j < y) : (ofFun x y a b c w).count i j = c i j := by
  unfold ofFun Abs.count
  simp [List.getD, hi, hj]
theorem ofFun_mem {x y a b : Nat} {c : Nat → Nat → Nat} {w : Nat → Nat → Nat → Nat → Bool} {i j k l : Nat} : (i, j, k, l) ∈ (ofFun x y a b c w).wins ↔ i < x ∧ j < y ∧ k < a ∧ l < b ∧ w i j k l = true := by
  unfold ofFun
  simp only [List.mem_flatMap, List.mem_range, List.mem_filterMap]
  constructor
  · rintro ⟨i', hi, j', hj, k', hk, l', hl, e⟩
    by_cases h : w i' j' k' l' = true
    · rw [if_pos h] at e
      cases e
      exact ⟨hi, hj, hk, hl, h⟩
    · rw [if_neg h] at e; cases e
  · rintro ⟨hi, hj, hk, hl, h⟩
    exact ⟨i, hi, j, hj, k, hk, l, hl, if_pos h⟩
theorem ofFun_won {x y a b i j k l : Nat} {c : Nat → Nat → Nat} {w : Nat → Nat → Nat → Nat → Bool} (hi : i < x) (hj : j < y) (hk : k < a) (hl : l < b) : (ofFun x y a b c w).won i j k l = w i j k l := by
  unfold Abs.won
  apply Bool.eq_iff_iff.mpr
  rw [List.contains_iff_mem, ofFun_mem]
  exact ⟨fun h => h.2.2.2.2, fun h => ⟨hi, hj, hk, hl, h⟩⟩
def narrow (A : Abs) (L : List Nat) : Abs := ofFun L.length A.y A.a A.b (fun i j => A.count (L.getD i 0) j) (fun i j k l => A.won (L.getD i 0) j k l)
def weigh (A : Abs) (c : Nat → Nat → Nat) : Abs := ofFun A.x A.y A.a A.b c A.won
/-! ### played twice -/
theorem twice_count {A : Abs} {i j : Nat} (hi : i < A.x * A.x) (hj : j < A.y * A.y) : A.twice.count i j = A.count (i / A.x) (j / A.y) * A.count (i % A.x) (j % A.y) := by
  unfold Abs.twice
  show ((((List.range (A.x * A.x)).map fun x => (List.range (A.y * A.y)).map fun y => A.count (x / A.x) (y / A.y) * A.count (x % A.x) (y % A.y)).getD i []).getD j 0) = _
  simp [List.getD, hi, hj]
theorem divmod_eq {n q r i : Nat} (hr : r < n) : q * n + r = i ↔ q = i / n ∧ r = i % n := by
  have hn : 0 < n := by omega
  constructor
  · rintro rfl
    refine ⟨?_, ?_⟩
    · rw [Nat.mul_comm, Nat.mul_add_div hn, Nat.div_eq_of_lt hr]; omega
    · rw [Nat.mul_comm, Nat.mul_add_mod, Nat.mod_eq_of_lt hr]
  · rintro ⟨rfl, rfl⟩
    rw [Nat.mul_comm]; exact Nat.div_add_mod i n
theorem twice_won {A : Abs} (ww : ∀ v ∈ A.wins, v.1 < A.x ∧ v.2.1 < A.y ∧ v.2.2.1 < A.a ∧ v.2.2.2 < A.b) (i j k l : Nat) :
    A.twice.won i j k l = (A.won (i / A.x) (j / A.y) (k / A.a) (l / A.b) && A.won (i % A.x) (j % A.y) (k % A.a) (l % A.b)) := by
  apply Bool.eq_iff_iff.mpr
  rw [Bool.and_eq_true]
  unfold Abs.won
  rw [List.contains_iff_mem, List.contains_iff_mem, List.contains_iff_mem]
  show (i, j, k, l) ∈ (A.wins.flatMap fun v => A.wins.map fun w => (v.1 * A.x + w.1, v.2.1 * A.y + w.2.1, v.2.2.1 * A.a + w.2.2.1, v.2.2.2 * A.b + w.2.2.2)) ↔ _
  simp only [List.mem_flatMap, List.mem_map]
  constructor
  · rintro ⟨v, hv, w, hw, e⟩
    injection e with e1 e
    injection e with e2 e
    injection e with e3 e4
    obtain ⟨h1, h2, h3, h4⟩ := ww w hw
    obtain ⟨a1, b1⟩ := (divmod_eq h1).mp e1
    obtain ⟨a2, b2⟩ := (divmod_eq h2).mp e2
    obtain ⟨a3, b3⟩ := (divmod_eq h3).mp e3
    obtain ⟨a4, b4⟩ := (divmod_eq h4).mp e4
    rw [← a1, ← a2, ← a3, ← a4, ← b1, ← b2, ← b3, ← b4]
    exact ⟨hv, hw⟩
  · rintro ⟨hv, hw⟩
    obtain ⟨h1, h2, h3, h4⟩ := ww _ hw
    exact ⟨_, hv, _, hw, by rw [(divmod_eq h1).mpr ⟨rfl, rfl⟩, (divmod_eq h2).mpr ⟨rfl, rfl⟩, (divmod_eq h3).mpr ⟨rfl, rfl⟩, (divmod_eq h4).mpr ⟨rfl, rfl⟩]⟩
theorem twice_ww {A : Abs} (ww : ∀ v ∈ A.wins, v.1 < A.x ∧ v.2.1 < A.y ∧ v.2.2.1 < A.a ∧ v.2.2.2 < A.b) : ∀ v ∈ A.twice.wins, v.1 < A.x * A.x ∧ v.2.1 < A.y * A.y ∧ v.2.2.1 < A.a * A.a ∧ v.2.2.2 < A.b * A.b := by
  intro z hz
  have hz : z ∈ (A.wins.flatMap fun v => A.wins.map fun w => (v.1 * A.x + w.1, v.2.1 * A.y + w.2.1, v.2.2.1 * A.a + w.2.2.1, v.2.2.2 * A.b + w.2.2.2)) := hz
  simp only [List.mem_flatMap, List.mem_map] at hz
  obtain ⟨v, hv, w, hw, rfl⟩ := hz
  obtain ⟨h1, h2, h3, h4⟩ := ww w hw
  obtain ⟨g1, g2, g3, g4⟩ := ww v hv
  have key : ∀ {n q r : Nat}, q < n → r < n → q * n + r < n * n := fun {n q r} hq hr => by
    have : (q + 1) * n ≤ n * n := Nat.mul_le_mul_right n hq
    rw [Nat.succ_mul] at this
    omega
  exact ⟨key g1 h1, key g2 h2, key g3 h3, key g4 h4⟩
theorem bit_and (p q : Bool) : bit (p && q) = bit p * bit q := by cases p <;> cases q <;> rfl
theorem div_lt {n i : Nat} (h : i < n * n) : i / n < n := Nat.div_lt_of_lt_mul h
theorem mod_lt {n i : Nat} (h : i < n * n) : i % n < n := Nat.mod_lt _ (by cases n with | zero => omega | succ n => omega)
/-! ### sums over products -/
theorem range_mul (n m : Nat) : List.range (n * m) = (List.range n).flatMap fun i => (List.range m).map fun j => i * m + j := by
  induction n with
  | zero => simp
  | succ n ih =>
    rw [Nat.succ_mul, List.range_add, ih, List.range_succ, List.flatMap_append]
    congr 1
    simp
theorem sum_mul_l (c : Nat) : ∀ l : List Nat, (l.map fun x => c * x).sum = c * l.sum
  | [] => rfl
  | a :: l => by rw [List.map_cons, List.sum_cons, sum_mul_l c l, List.sum_cons, Nat.mul_add]
theorem sum_mul_r (c : Nat) : ∀ l : List Nat, (l.map fun x => x * c).sum = l.sum * c
  | [] => by simp
  | a :: l => by rw [List.map_cons, List.sum_cons, sum_mul_r c l, List.sum_cons, Nat.add_mul]
theorem sum_range_mul (n m : Nat) (f : Nat → Nat → Nat) : ((List.range (n * m)).map fun i => f (i / m) (i % m)).sum = ((List.range n).map fun i => ((List.range m).map fun j => f i j).sum).sum := by
  rw [range_mul, List.map_flatMap, sum_flat]
  congr 1
  apply List.map_congr_left
  intro i _
  rw [List.map_map]
  congr 1
  apply List.map_congr_left
  intro j hj
  have hj := List.mem_range.mp hj
  obtain ⟨h1, h2⟩ := (divmod_eq (q := i) hj).mp rfl
  simp only [Function.comp]
  rw [← h1, ← h2]
theorem twice_total {A : Abs} (cl : A.counts.length = A.x) (cr : ∀ r ∈ A.counts, r.length = A.y) : A.twice.total = A.total * A.total := by
  have c1 : A.twice.counts.length = A.twice.x := by show ((List.range (A.x * A.x)).map _).length = A.x * A.x; simp
  have c2 : ∀ r ∈ A.twice.counts, r.length = A.twice.y := fun r hr => by
    have hr : r ∈ (List.range (A.x * A.x)).map fun x => (List.range (A.y * A.y)).map fun y => A.count (x / A.x) (y / A.y) * A.count (x % A.x) (y % A.y) := hr
    obtain ⟨x, _, rfl⟩ := List.mem_map.mp hr
    show ((List.range (A.y * A.y)).map _).length = A.y * A.y; simp
  rw [total_eq c1 c2, total_eq cl cr]
  have e1 : ((List.range A.twice.x).map fun x => ((List.range A.twice.y).map fun y => A.twice.count x y).sum).sum = ((List.range (A.x * A.x)).map fun x => (fun u v => ((List.range A.y).map fun y => A.count u y).sum * ((List.range A.y).map fun y => A.count v y).sum) (x / A.x) (x % A.x)).sum := by
    show ((List.range (A.x * A.x)).map fun x => ((List.range (A.y * A.y)).map fun y => A.twice.count x y).sum).sum = _
    congr 1
    apply List.map_congr_left
    intro x hx
    have hx := List.mem_range.mp hx
    have e2 : ((List.range (A.y * A.y)).map fun y => A.twice.count x y) = (List.range (A.y * A.y)).map fun y => (fun u v => A.count (x / A.x) u * A.count (x % A.x) v) (y / A.y) (y % A.y) := by
      apply List.map_congr_left
      intro y hy
      rw [twice_count hx (List.mem_range.mp hy)]
    rw [e2]
    refine (sum_range_mul _ _ (fun u v => A.count (x / A.x) u * A.count (x % A.x) v)).trans ?_
    dsimp only
    have e3 : ((List.range A.y).map fun i => ((List.range A.y).map fun j => A.count (x / A.x) i * A.count (x % A.x) j).sum) = ((List.range A.y).map fun i => A.count (x / A.x) i).map fun c => c * ((List.range A.y).map fun y => A.count (x % A.x) y).sum := by
      rw [List.map_map]
      apply List.map_congr_left
      intro i _
      have := sum_mul_l (A.count (x / A.x) i) ((List.range A.y).map fun j => A.count (x % A.x) j)
      rw [List.map_map] at this
      exact this
    rw [e3, sum_mul_r]
  rw [e1]
  refine (sum_range_mul _ _ (fun u v => ((List.range A.y).map fun y => A.count u y).sum * ((List.range A.y).map fun y => A.count v y).sum)).trans ?_
  have e4 : ((List.range A.x).map fun i => ((List.range A.x).map fun j => ((List.range A.y).map fun y => A.count i y).sum * ((List.range A.y).map fun y => A.count j y).sum).sum) = ((List.range A.x).map fun i => ((List.range A.y).map fun y => A.count i y).sum).map fun c => c * ((List.range A.x).map fun j => ((List.range A.y).map fun y => A.count j y).sum).sum := by
    rw [List.map_map]
    apply List.map_congr_left
    intro i _
    have := sum_mul_l (((List.range A.y).map fun y => A.count i y).sum) ((List.range A.x).map fun j => ((List.range A.y).map fun y => A.count j y).sum)
    rw [List.map_map] at this
    exact this
  rw [e4, sum_mul_r]
end Tm

set_option Elab.async false
set_option linter.all false
set_option maxRecDepth 100000
set_option maxHeartbeats 2000000
namespace Ta
open PySem PySem.Spec PyProof.Rows L2
theorem ofFun_wf {x y a b : Nat} {c : Nat → Nat → Nat} {w : Nat → Nat → Nat → Nat → Bool} (hx : x ≤ 4) (hy : y ≤ 4) (ha : 1 ≤ a ∧ a ≤ 4) (hb : 1 ≤ b ∧ b ≤ 4) : Wf (Tm.ofFun x y a b c w) :=
  ⟨hx, hy, ha.1, ha.2, hb.1, hb.2, by unfold Tm.ofFun; simp, fun r hr => by
    have hr : r ∈ (List.range x).map fun i => (List.range y).map fun j => c i j := hr
    obtain ⟨i, _, rfl⟩ := List.mem_map.mp hr
    show ((List.range y).map _).length = y; simp, fun ⟨i, j, k, l⟩ hv => let ⟨h1, h2, h3, h4, _⟩ := Tm.ofFun_mem.mp hv; ⟨h1, h2, h3, h4⟩⟩
theorem narrow_wf {A : Su172.Abs} {L : List Nat} (wf : Wf A) (h : L.length ≤ 4) : Wf (Tm.narrow A L) := ofFun_wf h wf.y1 ⟨wf.a0, wf.a1⟩ ⟨wf.b0, wf.b1⟩
theorem weigh_wf {A : Su172.Abs} {c : Nat → Nat → Nat} (wf : Wf A) : Wf (Tm.weigh A c) := ofFun_wf wf.x1 wf.y1 ⟨wf.a0, wf.a1⟩ ⟨wf.b0, wf.b1⟩
theorem getD_some {l : List Nat} {i : Nat} (h : i < l.length) : l[i]? = some (l.getD i 0) := by simp [List.getD, h]
/-- a list or a tuple of numbers -/
def SqN (K : PySem.W.Frag) (H : Hp) (r : Addr) (l : List Nat) : Prop := SqL K H r (natsV l) ∨ SqT K H r (natsV l)
theorem SqN.same {K : PySem.W.Frag} {H H' : Hp} {r : Addr} {l : List Nat} (h : SqN K H r l) (s : Same H H') : SqN K H' r l := by
  rcases h with h | h
  · exact .inl (s.seq h)
  · exact .inr (s.seqT h)
theorem SqN.ix {K : PySem.W.Frag} {H : Hp} {r : Addr} {l : List Nat} {i : Nat} {Q : VK} (h : SqN K H r l) (hi : i < l.length) (q : Q (.int (l.getD i 0 : Nat)) H) : rIx K (.ref r) (.int (i : Nat)) H Q := by
  rcases h with h | h
  · exact .inl ⟨r, _, _, _, rfl, rfl, h, atI_nat (natsV_get (getD_some hi)), q⟩
  · exact .inr (.inl ⟨r, _, _, _, rfl, rfl, h, atI_nat (natsV_get (getD_some hi)), q⟩)
section
variable {P : Program} {w : World} {K : PySem.W.Frag} {mg : Str → Option Value} {base : Heap} {C : Addr}
/-! ### narrowed -/
def spNarrow (K : PySem.W.Frag) (C : Addr) : Sp := fun vs H Q _ => ∃ (g r : Addr) (A : Su172.Abs) (F : Addr → Prop) (L : List Nat), vs = [.ref g, .ref r] ∧ GAt C H g A F ∧ SqN K H r L ∧ L.length ≤ 4 ∧ (∀ v ∈ L, v < A.x) ∧ NewG C H (Tm.narrow A L) Q
abbrev sNarrow : Stmt := inClass (top 34) 2
/-- slots: 0:self 1:kept 2:other 3:x 4:y 5:a 6:b -/
theorem scNarrow : FnScope ["self", "kept", "other", "x", "y", "a", "b"] ["self", "kept"] (defScope sNarrow) := ⟨rfl, rfl, rfl, by decide +kernel, rfl, by decide +kernel, by decide +kernel⟩
theorem ok_narrow {f : Addr} {fd : FuncData} (F : Fun K "narrowed" "Game.narrowed" sNarrow f fd) (B : Blt mg) (G : GCls K C) (n_Game : NCal P w K mg base C 1 "Game" ["self", "first_asked", "second_asked", "first_choices", "second_choices"] (spInit C)) :
    FnOk P w K mg base CX0 3 f fd ["self", "kept"] (spNarrow K C) := by
  refine F.ok scNarrow (fun vs H Q E h => ?_) (fun cdv A outer s H vs Q E hr h => ?_)
  · obtain ⟨g, r, A, F, L, rfl, _⟩ := h
    rfl
  · obtain ⟨g, kr, A, F, L, rfl, gat, hL, hL4, hLx, k⟩ := h
    obtain ⟨wd, td, gm, hf⟩ := id gat
    obtain ⟨dx, hi⟩ := gm.ins
    have wf := gm.wf
    have hu := hu_of hr
    refine ⟨_, (pss_cons (ps_set (i := 2) scNarrow.nd rfl (Or.inl rfl) (pe_mk n_Game (hr.mono (by decide)) (pa_cons (pe_callB call_len_seq (by rfl) B.len PySem.boot_len (pa_cons (pv 1) pa_nil)) (pa_cons (pe_fld (pv 0) rfl) (pa_cons (pe_fld (pv 0) rfl) (pa_cons (pe_fld (pv 0) rfl) pa_nil))))))
      (pss_cons (ps_for PassesOwn.never rfl (pi_list (pe_callTy (cr_listD (by rfl)) (by rfl) B.list PyProof.Rows.boot_list (pa_cons (pe_fld (pv 2) rfl) pa_nil))) (pg_tup (by rfl) (pgs_cons (pg_name (i := 3) scNarrow.nd rfl (Or.inl rfl)) (pgs_cons (pg_name (i := 4) scNarrow.nd rfl (Or.inl rfl)) pgs_nil)))
        (pss_one (ps_dput hu (pe_fld (pv 2) rfl) (pe_tup (pa_cons (pv 3) (pa_cons (pv 4) pa_nil))) (pe_dget hu (pe_fld (pv 0) rfl) (pe_tup (pa_cons (pe_ix ix_seq (pv 1) (pv 3) (fun _ _ => rfl)) (pa_cons (pv 4) pa_nil))) (fun _ _ => rfl)) rfl)))
      (pss_cons (ps_for PassesOwn.never rfl (pi_list (pe_callTy (cr_listD (by rfl)) (by rfl) B.list PyProof.Rows.boot_list (pa_cons (pe_fld (pv 2) rfl) pa_nil))) (pg_tup (by rfl) (pgs_cons (pg_name (i := 3) scNarrow.nd rfl (Or.inl rfl)) (pgs_cons (pg_name (i := 4) scNarrow.nd rfl (Or.inl rfl)) (pgs_cons (pg_name (i := 5) scNarrow.nd rfl (Or.inl rfl)) (pgs_cons (pg_name (i := 6) scNarrow.nd rfl (Or.inl rfl)) pgs_nil)))))
        (pss_one (ps_dput hu (pe_fld (pv 2) rfl) (pe_tup (pa_cons (pv 3) (pa_cons (pv 4) (pa_cons (pv 5) (pa_cons (pv 6) pa_nil))))) (pe_dget hu (pe_fld (pv 0) rfl) (pe_tup (pa_cons (pe_ix ix_seq (pv 1) (pv 3) (fun _ _ => rfl)) (pa_cons (pv 4) (pa_cons (pv 5) (pa_cons (pv 6) pa_nil))))) (fun _ _ => rfl)) rfl)))
      (pss_one (ps_ret (pv 2)))))), ?_⟩
    refine ⟨_, rfl, kr, natsV L, rfl, hL, ?_⟩
    rw [natsV_len]
    refine ⟨_, rfl, g, C, dx, _, _, rfl, hi, G.cl, G.ny, gf_y _ _ _ _ _ _, _, rfl, g, C, dx, _, _, rfl, hi, G.cl, G.na, gf_a _ _ _ _ _ _, _, rfl, g, C, dx, _, _, rfl, hi, G.cl, G.nb, gf_b _ _ _ _ _ _, fun o dg ng nd ne => ?_⟩
    refine ⟨o, dg, L.length, A.y, A.a, A.b, rfl, upd_same, hL4, wf.y1, ⟨wf.a0, wf.a1⟩, ⟨wf.b0, wf.b1⟩, fun H1 F1 G1 f1 b1 => ⟨rfl, ?_⟩⟩
    have s1 : Same H H1 := Same.made' ng nd b1
    have new1 := made_new ng nd f1
    obtain ⟨ow, ot, gm1, hf1⟩ := G1
    have now : H ow = none := new1 ow ((hf1 ow).mpr (.inr (.inl rfl)))
    have not_ : H ot = none := new1 ot ((hf1 ot).mpr (.inr (.inr rfl)))
    obtain ⟨do_, hio⟩ := gm1.ins
    have hLi : ∀ i, i < L.length → L.getD i 0 < A.x := fun i h => hLx _ (List.mem_of_getElem? (getD_some h))
    -- weights
    refine ⟨_, rfl, o, C, do_, _, _, rfl, hio, G.cl, G.nw, gf_w _ _ _ _ _ _, ow, _, rfl, gm1.w, fun l rs nl hlen hk => ?_⟩
    have kl : KL _ l rs (pk L.length A.y) := kl_of nl hlen hk
    have s2 : Same H1 (upd H1 l (.lst (rs.map V.ref))) := .new nl
    generalize upd H1 l (.lst (rs.map V.ref)) = H2 at kl s2
    refine ⟨l, rfl, ⟨_, SqL.of kl.lst⟩, for_list (K := K) (a := l) (xs := rs.map V.ref) (fun i σ H' => ∃ v3 v4 v5 v6, σ = [some (.ref g), some (.ref kr), some (.ref o), v3, v4, v5, v6] ∧ But ow H2 H' ∧
      H' ow = some (.dT (dOf (pk L.length A.y) (upds (cntV (Su172.new L.length A.y A.a A.b)) (((pk L.length A.y).take i).map fun k => (k, cntV A [L.getD (k.getD 0 0) 0, k.getD 1 0]))))))
      ⟨none, none, none, none, rfl, fun _ _ _ h => h, s2 _ _ gm1.w⟩ (fun i σ H' _ ⟨_, _, _, _, _, b, _⟩ => SqL.of (b _ _ (ne_of kl.lst (s2 _ _ gm1.w) (by intro z; cases z)) kl.lst)) ?_ ?_⟩
    · rintro i y σ H3 hy ⟨v3, v4, v5, v6, rfl, b3, hw3⟩
      obtain ⟨r, kk, hr1, rfl, hkk, htup⟩ := kl.at hy
      obtain ⟨x, y, rfl, hx, hy1⟩ := mem_pk.mp (List.mem_of_getElem? hkk)
      have s3 : Same H H3 := b3.same' (s1.trans s2) now
      refine ⟨r, _, rfl, .inl (.inl (b3 _ _ (ne_of htup (s2 _ _ gm1.w) (by intro z; cases z)) htup)), rfl, _, _, rfl, _, _, rfl, rfl, ?_⟩
      refine ⟨_, rfl, g, C, dx, _, _, rfl, s3 _ _ hi, G.cl, G.nw, gf_w _ _ _ _ _ _, _, rfl, _, rfl, ?_⟩
      refine (hL.same s3).ix hx ?_
      refine ⟨_, rfl, by show 2 ≤ sizeLine; decide, fun k1 hk1 => ?_⟩
      have s4 : Same H3 (upd H3 k1 (.tup (natsV [L.getD x 0, y]))) := .new hk1
      refine ⟨wd, _, rfl, dget_of (k := [L.getD x 0, y]) (s4 _ _ (s3 _ _ gm.w)) upd_same (pk_mem.mpr ⟨hLi x hx, hy1⟩), ?_⟩
      have o3 : H3 o = some (.ins C do_ _) := b3 _ _ (ne_of hio gm1.w (by intro z; cases z)) (s2 _ _ hio)
      refine ⟨_, rfl, o, C, do_, _, _, rfl, s4 _ _ o3, G.cl, G.nw, gf_w _ _ _ _ _ _, _, rfl, _, rfl, by show 2 ≤ sizeLine; decide, fun k2 hk2 => ?_⟩
      have s5 := s4.upd_new (o := .tup (natsV [x, y])) hk2
      refine ⟨ow, _, rfl, dput_of (k := [x, y]) (s5 _ _ hw3) upd_same (pk_mem.mpr ⟨hx, hy1⟩) (pk_lt hL4 wf.y1), ?_⟩
      refine ⟨_, _, v5, v6, rfl, b3.trans (s5.but.trans .upd), ?_⟩
      rw [upd_same, take_snoc hkk, List.map_append, List.map_cons, List.map_nil, upds_snoc]
      rfl
    · rintro σ H3 ⟨v3, v4, v5, v6, rfl, b3, hw3⟩
      rw [List.length_map, kl.len, List.take_length] at hw3
      have s3 : Same H H3 := b3.same' (s1.trans s2) now
      have t3 : H3 ot = some (.dT (dOf (qk L.length A.y A.a A.b) (wonV (Su172.new L.length A.y A.a A.b)))) := b3 _ _ gm1.apart.symm (s2 _ _ gm1.t)
      have c3 : ∀ c u, H1 c = some u → c ≠ ow → H3 c = some u := fun c u h n => b3 _ _ n (s2 _ _ h)
      generalize hfw : upds (cntV (Su172.new L.length A.y A.a A.b)) ((pk L.length A.y).map fun k => (k, cntV A [L.getD (k.getD 0 0) 0, k.getD 1 0])) = fw at hw3
      have o3 : H3 o = some (.ins C do_ _) := c3 _ _ hio (ne_of hio gm1.w (by intro z; cases z))
      -- winning
      refine ⟨_, rfl, o, C, do_, _, _, rfl, o3, G.cl, G.nt, gf_t _ _ _ _ _ _, ot, _, rfl, t3, fun l rs nl hlen hk => ?_⟩
      have kl : KL _ l rs (qk L.length A.y A.a A.b) := kl_of nl hlen hk
      have s4 : Same H3 (upd H3 l (.lst (rs.map V.ref))) := .new nl
      generalize upd H3 l (.lst (rs.map V.ref)) = H4 at kl s4
      refine ⟨l, rfl, ⟨_, SqL.of kl.lst⟩, for_list (K := K) (a := l) (xs := rs.map V.ref) (fun i σ H' => ∃ v3 v4 v5 v6, σ = [some (.ref g), some (.ref kr), some (.ref o), v3, v4, v5, v6] ∧ But ot H4 H' ∧
        H' ot = some (.dT (dOf (qk L.length A.y A.a A.b) (upds (wonV (Su172.new L.length A.y A.a A.b)) (((qk L.length A.y A.a A.b).take i).map fun k => (k, wonV A [L.getD (k.getD 0 0) 0, k.getD 1 0, k.getD 2 0, k.getD 3 0]))))))
        ⟨v3, v4, v5, v6, rfl, fun _ _ _ h => h, s4 _ _ t3⟩ (fun i σ H' _ ⟨_, _, _, _, _, b, _⟩ => SqL.of (b _ _ (ne_of kl.lst (s4 _ _ t3) (by intro z; cases z)) kl.lst)) ?_ ?_⟩
      · rintro i y σ H5 hy ⟨v3, v4, v5, v6, rfl, b5, ht5⟩
        obtain ⟨r, kk, hr1, rfl, hkk, htup⟩ := kl.at hy
        obtain ⟨x, y, a, b, rfl, hx, hy1, ha, hb⟩ := mem_qk.mp (List.mem_of_getElem? hkk)
        have s5 : Same H H5 := b5.same' (s3.trans s4) not_
        refine ⟨r, _, rfl, .inl (.inl (b5 _ _ (ne_of htup (s4 _ _ t3) (by intro z; cases z)) htup)), rfl, _, _, rfl, _, _, rfl, _, _, rfl, _, _, rfl, rfl, ?_⟩
        refine ⟨_, rfl, g, C, dx, _, _, rfl, s5 _ _ hi, G.cl, G.nt, gf_t _ _ _ _ _ _, _, rfl, _, rfl, ?_⟩
        refine (hL.same s5).ix hx ?_
        refine ⟨_, rfl, _, rfl, _, rfl, by show 4 ≤ sizeLine; decide, fun k1 hk1 => ?_⟩
        have s6 : Same H5 (upd H5 k1 (.tup (natsV [L.getD x 0, y, a, b]))) := .new hk1
        refine ⟨td, _, rfl, dget_of (k := [L.getD x 0, y, a, b]) (s6 _ _ (s5 _ _ gm.t)) upd_same (qk_mem.mpr ⟨hLi x hx, hy1, ha, hb⟩), ?_⟩
        have o5 : H5 o = some (.ins C do_ _) := b5 _ _ (ne_of hio gm1.t (by intro z; cases z)) (s4 _ _ o3)
        refine ⟨_, rfl, o, C, do_, _, _, rfl, s6 _ _ o5, G.cl, G.nt, gf_t _ _ _ _ _ _, _, rfl, _, rfl, _, rfl, _, rfl, by show 4 ≤ sizeLine; decide, fun k2 hk2 => ?_⟩
        have s7 := s6.upd_new (o := .tup (natsV [x, y, a, b])) hk2
        refine ⟨ot, _, rfl, dput_of (k := [x, y, a, b]) (s7 _ _ ht5) upd_same (qk_mem.mpr ⟨hx, hy1, ha, hb⟩) (qk_lt hL4 wf.y1 wf.a1 wf.b1), ?_⟩
        refine ⟨_, _, _, _, rfl, b5.trans (s7.but.trans .upd), ?_⟩
        rw [upd_same, take_snoc hkk, List.map_append, List.map_cons, List.map_nil, upds_snoc]
        rfl
      · rintro σ H5 ⟨v3, v4, v5, v6, rfl, b5, ht5⟩
        rw [List.length_map, kl.len, List.take_length] at ht5
        have s5 : Same H H5 := b5.same' (s3.trans s4) not_
        refine ⟨_, rfl, k H5 o (Foot o ow ot) s5 (built gm1 rfl rfl rfl rfl (fun c u h n1 n2 => b5 _ _ n2 (s4 _ _ (c3 _ _ h n1))) (b5 _ _ gm1.apart (s4 _ _ hw3)) ht5 (fun i j hi hj => ?_) (fun i j a b hi hj ha hb => ?_) (narrow_wf wf hL4)) fun c hc => ?_⟩
        · rw [← hfw, show (Tm.narrow A L).count i j = A.count (L.getD i 0) j from Tm.ofFun_count hi hj]
          refine upds_some (fun p hp e => ?_) ⟨([i, j], cntV A [L.getD i 0, j]), List.mem_map.mpr ⟨[i, j], pk_mem.mpr ⟨hi, hj⟩, rfl⟩, rfl⟩
          obtain ⟨q, hq, rfl⟩ := List.mem_map.mp hp
          obtain ⟨u, v, rfl, _, _⟩ := mem_pk.mp hq
          cases e
          rfl
        · rw [show (Tm.narrow A L).won i j a b = A.won (L.getD i 0) j a b from Tm.ofFun_won hi hj ha hb]
          refine upds_some (fun p hp e => ?_) ⟨([i, j, a, b], wonV A [L.getD i 0, j, a, b]), List.mem_map.mpr ⟨[i, j, a, b], qk_mem.mpr ⟨hi, hj, ha, hb⟩, rfl⟩, rfl⟩
          obtain ⟨q, hq, rfl⟩ := List.mem_map.mp hp
          obtain ⟨u, v, s, t, rfl, _⟩ := mem_qk.mp hq
          cases e
          rfl
        · rcases hc with e | e | e
          · rw [e]; exact ng
          · rw [e]; exact now
          · rw [e]; exact not_
/-! ### weighed -/
def spWeigh (C : Addr) : Sp := fun vs H Q _ => ∃ (g m : Addr) (A : Su172.Abs) (F : Addr → Prop) (ks : List (List Nat)) (f : List Nat → V) (c : Nat → Nat → Nat), vs = [.ref g, .ref m] ∧ GAt C H g A F ∧ H m = some (.dT (dOf ks f)) ∧ (∀ k, k ∈ ks ↔ k ∈ pk A.x A.y) ∧ (∀ x y, x < A.x → y < A.y → f [x, y] = .int (c x y : Nat)) ∧ NewG C H (Tm.weigh A c) Q
abbrev sWeigh : Stmt := inClass (top 34) 3
/-- slots: 0:self 1:weights 2:other 3:asked -/
theorem scWeigh : FnScope ["self", "weights", "other", "asked"] ["self", "weights"] (defScope sWeigh) := ⟨rfl, rfl, rfl, by decide +kernel, rfl, by decide +kernel, by decide +kernel⟩
theorem ok_weigh {f : Addr} {fd : FuncData} (F : Fun K "weighed" "Game.weighed" sWeigh f fd) (B : Blt mg) (G : GCls K C) (m_narrowed : MCal P w K mg base C 3 "narrowed" ["self", "kept"] (spNarrow K C)) :
    FnOk P w K mg base CX0 4 f fd ["self", "weights"] (spWeigh C) := by
  refine F.ok scWeigh (fun vs H Q E h => ?_) (fun cdv A outer s H vs Q E hr h => ?_)
  · obtain ⟨g, r, A, F, ks, f, c, rfl, _⟩ := h
    rfl
  · obtain ⟨g, m, A, F, ks, fk, c, rfl, gat, hm, hks, hfc, k⟩ := h
    obtain ⟨wd, td, gm, hf⟩ := id gat
    obtain ⟨dx, hi⟩ := gm.ins
    have wf := gm.wf
    have hu := hu_of hr
    refine ⟨_, (pss_cons (ps_set (i := 2) scWeigh.nd rfl (Or.inl rfl) (pe_me m_narrowed (pv 0) (hr.mono (by decide)) (pa_cons (pe_callTy (cr_listR (by rfl)) (by rfl) B.list PyProof.Rows.boot_list (pa_cons (pe_callTy cr_range (by rfl) B.range PyProof.Rows.boot_range (pa_cons (pe_fld (pv 0) rfl) pa_nil)) pa_nil)) pa_nil)))
      (pss_cons (ps_for PassesOwn.never rfl (pi_list (pe_callTy (cr_listD (by rfl)) (by rfl) B.list PyProof.Rows.boot_list (pa_cons (pv 1) pa_nil))) (pg_name (i := 3) scWeigh.nd rfl (Or.inl rfl))
        (pss_one (ps_dput hu (pe_fld (pv 2) rfl) (pv 3) (pe_dget hu (pv 1) (pv 3) (fun _ _ => rfl)) rfl)))
      (pss_one (ps_ret (pv 2))))), ?_⟩
    refine ⟨_, rfl, g, dx, _, rfl, hi, gf_no (by decide +kernel), _, rfl, g, C, dx, _, _, rfl, hi, G.cl, G.nx, gf_x _ _ _ _ _ _, A.x, rfl, fun rg nrg => ?_⟩
    refine ⟨rg, A.x, rfl, upd_same, by have := wf.x1; omega, fun l0 nl0 => ?_⟩
    have s0 : Same H (upd (upd H rg (.ext fun h => ∃ t u v, IsRange h rg 0 A.x 1 t u v)) l0 (.lst ((List.range A.x).map fun (i : Nat) => V.int (i : Int)))) := (Same.new nrg).upd_new nl0
    have h0 : (upd (upd H rg (.ext fun h => ∃ t u v, IsRange h rg 0 A.x 1 t u v)) l0 (.lst ((List.range A.x).map fun (i : Nat) => V.int (i : Int)))) l0 = some (.lst (natsV (List.range A.x))) := upd_same
    generalize upd (upd H rg (.ext fun h => ∃ t u v, IsRange h rg 0 A.x 1 t u v)) l0 (.lst ((List.range A.x).map fun (i : Nat) => V.int (i : Int))) = H0 at s0 h0
    refine ⟨g, l0, A, F, List.range A.x, rfl, gat.same s0, .inl (SqL.of h0), by rw [List.length_range]; exact wf.x1, fun v hv => List.mem_range.mp hv, fun H1 o F1 s1 G1 new1 => ?_⟩
    obtain ⟨ow, ot, gm1, hf1⟩ := G1
    have now : H ow = none := s0.free (new1 ow ((hf1 ow).mpr (.inr (.inl rfl))))
    have not_ : H ot = none := s0.free (new1 ot ((hf1 ot).mpr (.inr (.inr rfl))))
    have noo : H o = none := s0.free (new1 o ((hf1 o).mpr (.inl rfl)))
    have sA : Same H H1 := s0.trans s1
    obtain ⟨do_, hio⟩ := gm1.ins
    refine ⟨_, rfl, m, _, rfl, sA _ _ hm, fun l rs nl hlen hk => ?_⟩
    have kl := kl_of nl hlen hk
    have s2 : Same H1 (upd H1 l (.lst (rs.map V.ref))) := .new nl
    generalize upd H1 l (.lst (rs.map V.ref)) = H2 at kl s2
    have ex : (Tm.narrow A (List.range A.x)).x = A.x := List.length_range
    have gw := s2 _ _ gm1.w
    rw [ex] at gw
    refine ⟨l, rfl, ⟨_, SqL.of kl.lst⟩, for_list (K := K) (a := l) (xs := rs.map V.ref) (fun i σ H' => ∃ v3, σ = [some (.ref g), some (.ref m), some (.ref o), v3] ∧ But ow H2 H' ∧
      H' ow = some (.dT (dOf (pk A.x A.y) (upds (cntV (Tm.narrow A (List.range A.x))) ((ks.take i).map fun k => (k, fk k))))))
      ⟨none, rfl, fun _ _ _ h => h, gw⟩ (fun i σ H' _ ⟨_, _, b, _⟩ => SqL.of (b _ _ (ne_of kl.lst gw (by intro z; cases z)) kl.lst)) ?_ ?_⟩
    · rintro i y σ H3 hy ⟨v3, rfl, b3, hw3⟩
      obtain ⟨r, kk, hr1, rfl, hkk, htup⟩ := kl.at hy
      have hkm := List.mem_of_getElem? hkk
      have s3 : Same H H3 := b3.same' (sA.trans s2) now
      have t3 := b3 _ _ (ne_of htup gw (by intro z; cases z)) htup
      refine ⟨_, rfl, _, rfl, m, _, rfl, dget_of (s3 _ _ hm) t3 hkm, ?_⟩
      have o3 : H3 o = some (.ins C do_ _) := b3 _ _ (ne_of hio gm1.w (by intro z; cases z)) (s2 _ _ hio)
      refine ⟨_, rfl, o, C, do_, _, _, rfl, o3, G.cl, G.nw, gf_w _ _ _ _ _ _, _, rfl, ow, _, rfl, dput_of hw3 t3 ((hks kk).mp hkm) (pk_lt wf.x1 wf.y1), ?_⟩
      refine ⟨_, rfl, b3.trans .upd, ?_⟩
      rw [upd_same, take_snoc hkk, List.map_append, List.map_cons, List.map_nil, upds_snoc]
    · rintro σ H3 ⟨v3, rfl, b3, hw3⟩
      rw [List.length_map, kl.len, List.take_length] at hw3
      have s3 : Same H H3 := b3.same' (sA.trans s2) now
      refine ⟨_, rfl, k H3 o (Foot o ow ot) s3 (built gm1 ex.symm rfl rfl rfl (fun c u h n1 n2 => b3 _ _ n1 (s2 _ _ h)) (by rw [ex]; exact hw3) (b3 _ _ gm1.apart.symm (s2 _ _ gm1.t)) (fun i j hi hj => ?_) (fun i j a b hi hj ha hb => ?_) (weigh_wf wf)) fun c hc => ?_⟩
      · rw [ex] at hi
        rw [show (Tm.weigh A c).count i j = c i j from Tm.ofFun_count hi hj, ← hfc i j hi hj]
        refine upds_some (fun p hp e => ?_) ⟨([i, j], fk [i, j]), List.mem_map.mpr ⟨[i, j], (hks _).mpr (pk_mem.mpr ⟨hi, hj⟩), rfl⟩, rfl⟩
        obtain ⟨q, hq, rfl⟩ := List.mem_map.mp hp
        cases e
        rfl
      · have hi' : i < A.x := by rw [ex] at hi; exact hi
        rw [show (Tm.weigh A c).won i j a b = A.won i j a b from Tm.ofFun_won hi' hj ha hb]
        show V.int (Su172.bit ((Tm.narrow A (List.range A.x)).won i j a b) : Nat) = _
        rw [show (Tm.narrow A (List.range A.x)).won i j a b = A.won ((List.range A.x).getD i 0) j a b from Tm.ofFun_won hi hj ha hb]
        have : (List.range A.x).getD i 0 = i := by simp [List.getD, hi']
        rw [this]
      · rcases hc with e | e | e
        · rw [e]; exact noo
        · rw [e]; exact now
        · rw [e]; exact not_
end
end Ta

set_option Elab.async false
set_option linter.all false
set_option maxRecDepth 100000
set_option maxHeartbeats 2000000
namespace Ta
open PySem PySem.Spec PyProof.Rows L2
theorem smallN {n : Nat} (h : n ≤ 1000000) : -(2 ^ 64) < (n : Int) ∧ (n : Int) < 2 ^ 64 := by omega
theorem sq4 {n : Nat} (h : n ≤ 2) : n * n ≤ 4 := Nat.mul_le_mul h h
theorem twice_wf {A : Su172.Abs} (wf : Wf A) (h1 : A.x ≤ 2) (h2 : A.y ≤ 2) (h3 : A.a ≤ 2) (h4 : A.b ≤ 2) : Wf A.twice :=
  ⟨sq4 h1, sq4 h2, Nat.mul_pos wf.a0 wf.a0, sq4 h3, Nat.mul_pos wf.b0 wf.b0, sq4 h4, by show ((List.range (A.x * A.x)).map _).length = A.x * A.x; simp, fun r hr => by
    have hr : r ∈ (List.range (A.x * A.x)).map fun x => (List.range (A.y * A.y)).map fun y => A.count (x / A.x) (y / A.y) * A.count (x % A.x) (y % A.y) := hr
    obtain ⟨x, _, rfl⟩ := List.mem_map.mp hr
    show ((List.range (A.y * A.y)).map _).length = A.y * A.y; simp, Tm.twice_ww wf.ww⟩
theorem pos_of {n i : Nat} (h : i < n * n) : 0 < n := by
  cases n with
  | zero => simp at h
  | succ n => omega
section
variable {P : Program} {w : World} {K : PySem.W.Frag} {mg : Str → Option Value} {base : Heap} {C : Addr}
/-! ### doubled -/
def spDouble (C : Addr) : Sp := fun vs H Q _ => ∃ (g : Addr) (A : Su172.Abs) (F : Addr → Prop), vs = [.ref g] ∧ GAt C H g A F ∧ A.x ≤ 2 ∧ A.y ≤ 2 ∧ A.a ≤ 2 ∧ A.b ≤ 2 ∧ (∀ x y, A.count x y ≤ 1000000) ∧ NewG C H A.twice Q
abbrev sDouble : Stmt := inClass (top 34) 4
/-- slots: 0:self 1:xs 2:ys 3:aa 4:bb 5:other 6:x 7:y 8:a 9:b 10:one 11:two -/
theorem scDouble : FnScope ["self", "xs", "ys", "aa", "bb", "other", "x", "y", "a", "b", "one", "two"] ["self"] (defScope sDouble) := ⟨rfl, rfl, rfl, by decide +kernel, rfl, by decide +kernel, by decide +kernel⟩
theorem ok_double {f : Addr} {fd : FuncData} (F : Fun K "doubled" "Game.doubled" sDouble f fd) (B : Blt mg) (G : GCls K C) (n_Game : NCal P w K mg base C 1 "Game" ["self", "first_asked", "second_asked", "first_choices", "second_choices"] (spInit C)) :
    FnOk P w K mg base CX0 3 f fd ["self"] (spDouble C) := by
  refine F.ok scDouble (fun vs H Q E h => ?_) (fun cdv A outer s H vs Q E hr h => ?_)
  · obtain ⟨g, A, F, rfl, _⟩ := h
    rfl
  · obtain ⟨g, A, F, rfl, gat, dx2, dy2, da2, db2, hcb, k⟩ := h
    obtain ⟨wd, td, gm, hf⟩ := id gat
    obtain ⟨dx, hi⟩ := gm.ins
    have wf := gm.wf
    have hu := hu_of hr
    refine ⟨_, (pss_cons (ps_set (i := 1) scDouble.nd rfl (Or.inl rfl) (pe_fld (pv 0) rfl))
      (pss_cons (ps_set (i := 2) scDouble.nd rfl (Or.inl rfl) (pe_fld (pv 0) rfl))
      (pss_cons (ps_set (i := 3) scDouble.nd rfl (Or.inl rfl) (pe_fld (pv 0) rfl))
      (pss_cons (ps_set (i := 4) scDouble.nd rfl (Or.inl rfl) (pe_fld (pv 0) rfl))
      (pss_cons (ps_set (i := 5) scDouble.nd rfl (Or.inl rfl) (pe_mk n_Game (hr.mono (by decide)) (pa_cons (pe_op op_mul (pv 1) (pv 1)) (pa_cons (pe_op op_mul (pv 2) (pv 2)) (pa_cons (pe_op op_mul (pv 3) (pv 3)) (pa_cons (pe_op op_mul (pv 4) (pv 4)) pa_nil))))))
      (pss_cons (ps_for PassesOwn.never rfl (pi_list (pe_callTy (cr_listD (by rfl)) (by rfl) B.list PyProof.Rows.boot_list (pa_cons (pe_fld (pv 5) rfl) pa_nil))) (pg_tup (by rfl) (pgs_cons (pg_name (i := 6) scDouble.nd rfl (Or.inl rfl)) (pgs_cons (pg_name (i := 7) scDouble.nd rfl (Or.inl rfl)) pgs_nil)))
        (pss_one (ps_dput hu (pe_fld (pv 5) rfl) (pe_tup (pa_cons (pv 6) (pa_cons (pv 7) pa_nil))) (pe_op op_mul (pe_dget hu (pe_fld (pv 0) rfl) (pe_tup (pa_cons (pe_op op_fdiv (pv 6) (pv 1)) (pa_cons (pe_op op_fdiv (pv 7) (pv 2)) pa_nil))) (fun _ _ => rfl)) (pe_dget hu (pe_fld (pv 0) rfl) (pe_tup (pa_cons (pe_op op_mod (pv 6) (pv 1)) (pa_cons (pe_op op_mod (pv 7) (pv 2)) pa_nil))) (fun _ _ => rfl))) rfl)))
      (pss_cons (ps_for PassesOwn.never rfl (pi_list (pe_callTy (cr_listD (by rfl)) (by rfl) B.list PyProof.Rows.boot_list (pa_cons (pe_fld (pv 5) rfl) pa_nil))) (pg_tup (by rfl) (pgs_cons (pg_name (i := 6) scDouble.nd rfl (Or.inl rfl)) (pgs_cons (pg_name (i := 7) scDouble.nd rfl (Or.inl rfl)) (pgs_cons (pg_name (i := 8) scDouble.nd rfl (Or.inl rfl)) (pgs_cons (pg_name (i := 9) scDouble.nd rfl (Or.inl rfl)) pgs_nil)))))
        (pss_cons (ps_set (i := 10) scDouble.nd rfl (Or.inl rfl) (pe_dget hu (pe_fld (pv 0) rfl) (pe_tup (pa_cons (pe_op op_fdiv (pv 6) (pv 1)) (pa_cons (pe_op op_fdiv (pv 7) (pv 2)) (pa_cons (pe_op op_fdiv (pv 8) (pv 3)) (pa_cons (pe_op op_fdiv (pv 9) (pv 4)) pa_nil))))) (fun _ _ => rfl)))
        (pss_cons (ps_set (i := 11) scDouble.nd rfl (Or.inl rfl) (pe_dget hu (pe_fld (pv 0) rfl) (pe_tup (pa_cons (pe_op op_mod (pv 6) (pv 1)) (pa_cons (pe_op op_mod (pv 7) (pv 2)) (pa_cons (pe_op op_mod (pv 8) (pv 3)) (pa_cons (pe_op op_mod (pv 9) (pv 4)) pa_nil))))) (fun _ _ => rfl)))
        (pss_one (ps_dput hu (pe_fld (pv 5) rfl) (pe_tup (pa_cons (pv 6) (pa_cons (pv 7) (pa_cons (pv 8) (pa_cons (pv 9) pa_nil))))) (pe_op op_mul (pv 10) (pv 11)) rfl)))))
      (pss_one (ps_ret (pv 5)))))))))), ?_⟩
    refine ⟨_, rfl, g, C, dx, _, _, rfl, hi, G.cl, G.nx, gf_x _ _ _ _ _ _, ?_⟩
    refine ⟨_, rfl, g, C, dx, _, _, rfl, hi, G.cl, G.ny, gf_y _ _ _ _ _ _, ?_⟩
    refine ⟨_, rfl, g, C, dx, _, _, rfl, hi, G.cl, G.na, gf_a _ _ _ _ _ _, ?_⟩
    refine ⟨_, rfl, g, C, dx, _, _, rfl, hi, G.cl, G.nb, gf_b _ _ _ _ _ _, ?_⟩
    refine ⟨_, rfl, _, rfl, _, _, rfl, rfl, .inl ⟨by omega, by omega⟩, _, rfl, _, rfl, _, _, rfl, rfl, .inl ⟨by omega, by omega⟩, _, rfl, _, rfl, _, _, rfl, rfl, .inl ⟨by omega, by omega⟩, _, rfl, _, rfl, _, _, rfl, rfl, .inl ⟨by omega, by omega⟩, fun o dg ng nd ne => ?_⟩
    refine ⟨o, dg, A.x * A.x, A.y * A.y, A.a * A.a, A.b * A.b, rfl, upd_same, sq4 dx2, sq4 dy2, ⟨Nat.mul_pos wf.a0 wf.a0, sq4 da2⟩, ⟨Nat.mul_pos wf.b0 wf.b0, sq4 db2⟩, fun H1 F1 G1 f1 b1 => ⟨rfl, ?_⟩⟩
    have s1 : Same H H1 := Same.made' ng nd b1
    have new1 := made_new ng nd f1
    obtain ⟨ow, ot, gm1, hf1⟩ := G1
    have now : H ow = none := new1 ow ((hf1 ow).mpr (.inr (.inl rfl)))
    have not_ : H ot = none := new1 ot ((hf1 ot).mpr (.inr (.inr rfl)))
    obtain ⟨do_, hio⟩ := gm1.ins
    -- weights
    refine ⟨_, rfl, o, C, do_, _, _, rfl, hio, G.cl, G.nw, gf_w _ _ _ _ _ _, ow, _, rfl, gm1.w, fun l rs nl hlen hk => ?_⟩
    have kl : KL _ l rs (pk (A.x * A.x) (A.y * A.y)) := kl_of nl hlen hk
    have s2 : Same H1 (upd H1 l (.lst (rs.map V.ref))) := .new nl
    generalize upd H1 l (.lst (rs.map V.ref)) = H2 at kl s2
    refine ⟨l, rfl, ⟨_, SqL.of kl.lst⟩, for_list (K := K) (a := l) (xs := rs.map V.ref) (fun i σ H' => ∃ v6 v7 v8 v9 v10 v11, σ = [some (.ref g), some (.int (A.x : Nat)), some (.int (A.y : Nat)), some (.int (A.a : Nat)), some (.int (A.b : Nat)), some (.ref o), v6, v7, v8, v9, v10, v11] ∧ But ow H2 H' ∧
      H' ow = some (.dT (dOf (pk (A.x * A.x) (A.y * A.y)) (upds (cntV (Su172.new (A.x * A.x) (A.y * A.y) (A.a * A.a) (A.b * A.b))) (((pk (A.x * A.x) (A.y * A.y)).take i).map fun k => (k, V.int ((A.count (k.getD 0 0 / A.x) (k.getD 1 0 / A.y) * A.count (k.getD 0 0 % A.x) (k.getD 1 0 % A.y) : Nat) : Int)))))))
      ⟨none, none, none, none, none, none, rfl, fun _ _ _ h => h, s2 _ _ gm1.w⟩ (fun i σ H' _ ⟨_, _, _, _, _, _, _, b, _⟩ => SqL.of (b _ _ (ne_of kl.lst (s2 _ _ gm1.w) (by intro z; cases z)) kl.lst)) ?_ ?_⟩
    · rintro i y σ H3 hy ⟨v6, v7, v8, v9, v10, v11, rfl, b3, hw3⟩
      obtain ⟨r, kk, hr1, rfl, hkk, htup⟩ := kl.at hy
      obtain ⟨x, y, rfl, hx, hy1⟩ := mem_pk.mp (List.mem_of_getElem? hkk)
      have px := pos_of hx
      have py := pos_of hy1
      have s3 : Same H H3 := b3.same' (s1.trans s2) now
      refine ⟨r, _, rfl, .inl (.inl (b3 _ _ (ne_of htup (s2 _ _ gm1.w) (by intro z; cases z)) htup)), rfl, _, _, rfl, _, _, rfl, rfl, ?_⟩
      refine ⟨_, rfl, g, C, dx, _, _, rfl, s3 _ _ hi, G.cl, G.nw, gf_w _ _ _ _ _ _, _, rfl, _, rfl, _, _, rfl, rfl, ⟨by omega, by omega⟩, _, rfl, _, rfl, _, _, rfl, rfl, ⟨by omega, by omega⟩, by show 2 ≤ sizeLine; decide, fun k1 hk1 => ?_⟩
      have s4 : Same H3 (upd H3 k1 (.tup (natsV [x / A.x, y / A.y]))) := .new hk1
      refine ⟨wd, _, rfl, dget_of (k := [x / A.x, y / A.y]) (s4 _ _ (s3 _ _ gm.w)) upd_same (pk_mem.mpr ⟨Tm.div_lt hx, Tm.div_lt hy1⟩), ?_⟩
      refine ⟨_, rfl, g, C, dx, _, _, rfl, s4 _ _ (s3 _ _ hi), G.cl, G.nw, gf_w _ _ _ _ _ _, _, rfl, _, rfl, _, _, rfl, rfl, (by show (0 : Int) < (A.x : Int); omega), _, rfl, _, rfl, _, _, rfl, rfl, (by show (0 : Int) < (A.y : Int); omega), by show 2 ≤ sizeLine; decide, fun k2 hk2 => ?_⟩
      have s5 := s4.upd_new (o := .tup (natsV [x % A.x, y % A.y])) hk2
      refine ⟨wd, _, rfl, dget_of (k := [x % A.x, y % A.y]) (s5 _ _ (s3 _ _ gm.w)) upd_same (pk_mem.mpr ⟨Tm.mod_lt hx, Tm.mod_lt hy1⟩), _, _, rfl, rfl, .inl (smallN (hcb _ _)), ?_⟩
      have o3 : H3 o = some (.ins C do_ _) := b3 _ _ (ne_of hio gm1.w (by intro z; cases z)) (s2 _ _ hio)
      refine ⟨_, rfl, o, C, do_, _, _, rfl, s5 _ _ o3, G.cl, G.nw, gf_w _ _ _ _ _ _, _, rfl, _, rfl, by show 2 ≤ sizeLine; decide, fun k3 hk3 => ?_⟩
      have s6 := s5.upd_new (o := .tup (natsV [x, y])) hk3
      refine ⟨ow, _, rfl, dput_of (k := [x, y]) (s6 _ _ hw3) upd_same (pk_mem.mpr ⟨hx, hy1⟩) (pk_lt (sq4 dx2) (sq4 dy2)), ?_⟩
      refine ⟨_, _, v8, v9, v10, v11, rfl, b3.trans (s6.but.trans .upd), ?_⟩
      rw [upd_same, take_snoc hkk, List.map_append, List.map_cons, List.map_nil, upds_snoc]
      rfl
    · rintro σ H3 ⟨v6, v7, v8, v9, v10, v11, rfl, b3, hw3⟩
      rw [List.length_map, kl.len, List.take_length] at hw3
      have s3 : Same H H3 := b3.same' (s1.trans s2) now
      have t3 : H3 ot = some (.dT (dOf (qk (A.x * A.x) (A.y * A.y) (A.a * A.a) (A.b * A.b)) (wonV (Su172.new (A.x * A.x) (A.y * A.y) (A.a * A.a) (A.b * A.b))))) := b3 _ _ gm1.apart.symm (s2 _ _ gm1.t)
      have c3 : ∀ c u, H1 c = some u → c ≠ ow → H3 c = some u := fun c u h n => b3 _ _ n (s2 _ _ h)
      generalize hfw : upds (cntV (Su172.new (A.x * A.x) (A.y * A.y) (A.a * A.a) (A.b * A.b))) ((pk (A.x * A.x) (A.y * A.y)).map fun k => (k, V.int ((A.count (k.getD 0 0 / A.x) (k.getD 1 0 / A.y) * A.count (k.getD 0 0 % A.x) (k.getD 1 0 % A.y) : Nat) : Int))) = fw at hw3
      have o3 : H3 o = some (.ins C do_ _) := c3 _ _ hio (ne_of hio gm1.w (by intro z; cases z))
      -- winning
      refine ⟨_, rfl, o, C, do_, _, _, rfl, o3, G.cl, G.nt, gf_t _ _ _ _ _ _, ot, _, rfl, t3, fun l rs nl hlen hk => ?_⟩
      have kl : KL _ l rs (qk (A.x * A.x) (A.y * A.y) (A.a * A.a) (A.b * A.b)) := kl_of nl hlen hk
      have s4 : Same H3 (upd H3 l (.lst (rs.map V.ref))) := .new nl
      generalize upd H3 l (.lst (rs.map V.ref)) = H4 at kl s4
      refine ⟨l, rfl, ⟨_, SqL.of kl.lst⟩, for_list (K := K) (a := l) (xs := rs.map V.ref) (fun i σ H' => ∃ v6 v7 v8 v9 v10 v11, σ = [some (.ref g), some (.int (A.x : Nat)), some (.int (A.y : Nat)), some (.int (A.a : Nat)), some (.int (A.b : Nat)), some (.ref o), v6, v7, v8, v9, v10, v11] ∧ But ot H4 H' ∧
        H' ot = some (.dT (dOf (qk (A.x * A.x) (A.y * A.y) (A.a * A.a) (A.b * A.b)) (upds (wonV (Su172.new (A.x * A.x) (A.y * A.y) (A.a * A.a) (A.b * A.b))) (((qk (A.x * A.x) (A.y * A.y) (A.a * A.a) (A.b * A.b)).take i).map fun k => (k, V.int ((Su172.bit (A.won (k.getD 0 0 / A.x) (k.getD 1 0 / A.y) (k.getD 2 0 / A.a) (k.getD 3 0 / A.b)) * Su172.bit (A.won (k.getD 0 0 % A.x) (k.getD 1 0 % A.y) (k.getD 2 0 % A.a) (k.getD 3 0 % A.b)) : Nat) : Int)))))))
        ⟨v6, v7, v8, v9, v10, v11, rfl, fun _ _ _ h => h, s4 _ _ t3⟩ (fun i σ H' _ ⟨_, _, _, _, _, _, _, b, _⟩ => SqL.of (b _ _ (ne_of kl.lst (s4 _ _ t3) (by intro z; cases z)) kl.lst)) ?_ ?_⟩
      · rintro i y σ H5 hy ⟨v6, v7, v8, v9, v10, v11, rfl, b5, ht5⟩
        obtain ⟨r, kk, hr1, rfl, hkk, htup⟩ := kl.at hy
        obtain ⟨x, y, a, b, rfl, hx, hy1, ha, hb⟩ := mem_qk.mp (List.mem_of_getElem? hkk)
        have px := pos_of hx
        have py := pos_of hy1
        have pa := pos_of ha
        have pb := pos_of hb
        have s5 : Same H H5 := b5.same' (s3.trans s4) not_
        refine ⟨r, _, rfl, .inl (.inl (b5 _ _ (ne_of htup (s4 _ _ t3) (by intro z; cases z)) htup)), rfl, _, _, rfl, _, _, rfl, _, _, rfl, _, _, rfl, rfl, ?_⟩
        refine ⟨_, rfl, g, C, dx, _, _, rfl, s5 _ _ hi, G.cl, G.nt, gf_t _ _ _ _ _ _, _, rfl, _, rfl, _, _, rfl, rfl, ⟨by omega, by omega⟩, _, rfl, _, rfl, _, _, rfl, rfl, ⟨by omega, by omega⟩, _, rfl, _, rfl, _, _, rfl, rfl, ⟨by omega, by omega⟩, _, rfl, _, rfl, _, _, rfl, rfl, ⟨by omega, by omega⟩, by show 4 ≤ sizeLine; decide, fun k1 hk1 => ?_⟩
        have s6 : Same H5 (upd H5 k1 (.tup (natsV [x / A.x, y / A.y, a / A.a, b / A.b]))) := .new hk1
        refine ⟨td, _, rfl, dget_of (k := [x / A.x, y / A.y, a / A.a, b / A.b]) (s6 _ _ (s5 _ _ gm.t)) upd_same (qk_mem.mpr ⟨Tm.div_lt hx, Tm.div_lt hy1, Tm.div_lt ha, Tm.div_lt hb⟩), ?_⟩
        refine ⟨_, rfl, g, C, dx, _, _, rfl, s6 _ _ (s5 _ _ hi), G.cl, G.nt, gf_t _ _ _ _ _ _, _, rfl, _, rfl, _, _, rfl, rfl, (by show (0 : Int) < (A.x : Int); omega), _, rfl, _, rfl, _, _, rfl, rfl, (by show (0 : Int) < (A.y : Int); omega), _, rfl, _, rfl, _, _, rfl, rfl, (by show (0 : Int) < (A.a : Int); omega), _, rfl, _, rfl, _, _, rfl, rfl, (by show (0 : Int) < (A.b : Int); omega), by show 4 ≤ sizeLine; decide, fun k2 hk2 => ?_⟩
        have s7 := s6.upd_new (o := .tup (natsV [x % A.x, y % A.y, a % A.a, b % A.b])) hk2
        refine ⟨td, _, rfl, dget_of (k := [x % A.x, y % A.y, a % A.a, b % A.b]) (s7 _ _ (s5 _ _ gm.t)) upd_same (qk_mem.mpr ⟨Tm.mod_lt hx, Tm.mod_lt hy1, Tm.mod_lt ha, Tm.mod_lt hb⟩), ?_⟩
        have o5 : H5 o = some (.ins C do_ _) := b5 _ _ (ne_of hio gm1.t (by intro z; cases z)) (s4 _ _ o3)
        have hb1 : ∀ z : Bool, (Su172.bit z) ≤ 1 := fun z => by cases z <;> decide
        refine ⟨_, rfl, _, rfl, _, _, rfl, rfl, .inl (smallN (Nat.le_trans (hb1 _) (by decide))), ?_⟩
        refine ⟨_, rfl, o, C, do_, _, _, rfl, s7 _ _ o5, G.cl, G.nt, gf_t _ _ _ _ _ _, _, rfl, _, rfl, _, rfl, _, rfl, by show 4 ≤ sizeLine; decide, fun k3 hk3 => ?_⟩
        have s8 := s7.upd_new (o := .tup (natsV [x, y, a, b])) hk3
        refine ⟨ot, _, rfl, dput_of (k := [x, y, a, b]) (s8 _ _ ht5) upd_same (qk_mem.mpr ⟨hx, hy1, ha, hb⟩) (qk_lt (sq4 dx2) (sq4 dy2) (sq4 da2) (sq4 db2)), ?_⟩
        refine ⟨_, _, _, _, _, _, rfl, b5.trans (s8.but.trans .upd), ?_⟩
        rw [upd_same, take_snoc hkk, List.map_append, List.map_cons, List.map_nil, upds_snoc]
        rfl
      · rintro σ H5 ⟨v6, v7, v8, v9, v10, v11, rfl, b5, ht5⟩
        rw [List.length_map, kl.len, List.take_length] at ht5
        have s5 : Same H H5 := b5.same' (s3.trans s4) not_
        refine ⟨_, rfl, k H5 o (Foot o ow ot) s5 (built gm1 rfl rfl rfl rfl (fun c u h n1 n2 => b5 _ _ n2 (s4 _ _ (c3 _ _ h n1))) (b5 _ _ gm1.apart (s4 _ _ hw3)) ht5 (fun i j hi hj => ?_) (fun i j a b hi hj ha hb => ?_) (twice_wf wf dx2 dy2 da2 db2)) fun c hc => ?_⟩
        · rw [← hfw, Tm.twice_count hi hj]
          refine upds_some (fun p hp e => ?_) ⟨([i, j], _), List.mem_map.mpr ⟨[i, j], pk_mem.mpr ⟨hi, hj⟩, rfl⟩, rfl⟩
          obtain ⟨q, hq, rfl⟩ := List.mem_map.mp hp
          obtain ⟨u, v, rfl, _, _⟩ := mem_pk.mp hq
          cases e
          rfl
        · rw [Tm.twice_won wf.ww, Tm.bit_and]
          refine upds_some (fun p hp e => ?_) ⟨([i, j, a, b], _), List.mem_map.mpr ⟨[i, j, a, b], qk_mem.mpr ⟨hi, hj, ha, hb⟩, rfl⟩, rfl⟩
          obtain ⟨q, hq, rfl⟩ := List.mem_map.mp hp
          obtain ⟨u, v, s, t, rfl, _⟩ := mem_qk.mp hq
          cases e
          rfl
        · rcases hc with e | e | e
          · rw [e]; exact ng
          · rw [e]; exact now
          · rw [e]; exact not_
end
end Ta

set_option Elab.async false
set_option linter.all false
set_option maxRecDepth 100000
set_option maxHeartbeats 2000000
namespace Ta
open PySem PySem.Spec PyProof.Rows L2
/-- an answer as values -/
def ansV (a : Su172.Ans) : List V := .int a.value :: natsV a.out
/-- behind a call on the game: it is A', the answer stands in a new list; what else was there is as it was -/
def Did (C : Addr) (H : Hp) (g : Addr) (F : Addr → Prop) (z : Su172.Abs × Su172.Ans) (Q : VK) : Prop := ∀ (H' : Hp) (q : Addr) (F' : Addr → Prop), GAt C H' g z.1 F' → (∀ c, F' c → F c ∨ H c = none) → (∀ c o, H c = some o → ¬ F c → H' c = some o) → H q = none →
  H' q = some (.lst (ansV z.2)) → Q (.ref q) H'
/-- .. where the game is as it was -/
theorem Did.same {C : Addr} {H H' : Hp} {g q : Addr} {A : Su172.Abs} {F : Addr → Prop} {a : Su172.Ans} {Q : VK} (d : Did C H g F (A, a) Q) (G : GAt C H g A F) (s : Same H H') (hq : H q = none) (h : H' q = some (.lst (ansV a))) : Q (.ref q) H' :=
  d H' q F (G.same s) (fun c h => .inl h) (fun c o h _ => s c o h) hq h
theorem ansV_no (v : Int) : ansV (Su172.no v) = [.int v] := rfl
theorem ansV_num (n : Nat) (l : List Nat) : ansV (Su172.num n l) = .int (n : Nat) :: natsV l := rfl
/-- the weights' sum -/
theorem pk_sum (A : Su172.Abs) (wf : Wf A) : ((pk A.x A.y).map fun k => A.count (k.getD 0 0) (k.getD 1 0)).sum = A.total := by
  rw [Tm.total_eq wf.cl wf.cr]
  unfold pk
  rw [List.map_flatMap, Tm.sum_flat]
  congr 1
  apply List.map_congr_left
  intro x hx
  rw [List.map_map]
  rfl
/-- what each plan wins, in order -/
def winsAll (A : Su172.Abs) : List Nat := A.firsts.flatMap fun f => A.seconds.map fun h => A.value f h
theorem winsAll_eq (A : Su172.Abs) : winsAll A = A.plans.map fun p => A.value p.1 p.2 := by
  unfold winsAll Su172.Abs.plans
  rw [List.map_flatMap]
  congr 1
  funext f
  rw [List.map_map]
  rfl
theorem rows_ok {A : Su172.Abs} {f : List Nat} (h : f ∈ Su172.rows A.a A.x) : Su172.okRow A.x A.a f = true := Tm.okRow_iff.mpr (Tm.mem_rows.mp h)
theorem gains_pos {A : Su172.Abs} (wf : Wf A) (f : List Nat) : ∀ l ∈ Tm.gains A f, 0 < l.length := fun l hl => by
  unfold Tm.gains at hl
  obtain ⟨y, _, rfl⟩ := List.mem_map.mp hl
  have := wf.b0
  simp; omega
theorem gains_len (A : Su172.Abs) (f : List Nat) : (Tm.gains A f).length = A.y := by
  unfold Tm.gains; simp
theorem gains_len4 {A : Su172.Abs} (wf : Wf A) (f : List Nat) : ∀ l ∈ Tm.gains A f, l.length ≤ 4 := fun l hl => by
  unfold Tm.gains at hl
  obtain ⟨y, _, rfl⟩ := List.mem_map.mp hl
  have := wf.b1
  simpa using this
theorem rows_le {k n : Nat} (hk : k ≤ 4) (hn : n ≤ 4) (h0 : 1 ≤ k) : (Su172.rows k n).length ≤ 256 := by
  rw [Tm.rows_length]
  calc k ^ n ≤ 4 ^ n := Nat.pow_le_pow_left hk n
    _ ≤ 4 ^ 4 := Nat.pow_le_pow_right (by omega) hn
    _ = 256 := rfl
/-- items that are rows of numbers -/
theorem LL.of_items {H : Hp} {q : Addr} {ys : List V} {n : Nat} {f : Nat → List Nat} (h : H q = some (.lst ys)) (hl : ys.length = n) (hR : ∀ (i : Nat) y, ys[i]? = some y → ∃ r, y = .ref r ∧ H r = some (.lst (natsV (f i)))) : LL H q ((List.range n).map f) := by
  have e : ∃ rs : List Addr, ys = rs.map V.ref := by
    clear h hl
    induction ys generalizing f with
    | nil => exact ⟨[], rfl⟩
    | cons y ys ih =>
      obtain ⟨r, rfl, _⟩ := hR 0 y rfl
      obtain ⟨rs, e⟩ := ih (f := fun i => f (i + 1)) fun i y h => hR (i + 1) y h
      exact ⟨r :: rs, by rw [e]; rfl⟩
  obtain ⟨rs, rfl⟩ := e
  refine ⟨rs, h, by simpa using hl, fun i r l h1 h2 => ?_⟩
  obtain ⟨r', e, h3⟩ := hR i (.ref r) (by rw [List.getElem?_map, h1]; rfl)
  cases e
  have hi : i < n := by
    have := (List.getElem?_eq_some_iff.mp h1).1
    simp at hl
    omega
  rw [List.getElem?_map, List.getElem?_range hi] at h2
  cases h2
  exact h3
section
variable {P : Program} {w : World} {K : PySem.W.Frag} {mg : Str → Option Value} {base : Heap} {C : Addr}
/-! ### total_weight -/
def spTotal (C : Addr) : Sp := fun vs H Q _ => ∃ (g : Addr) (A : Su172.Abs) (F : Addr → Prop), vs = [.ref g] ∧ GAt C H g A F ∧ ∀ H' : Hp, Same H H' → Q (.int (A.total : Nat)) H'
abbrev sTotal : Stmt := inClass (top 34) 5
/-- slots: 0:self -/
theorem scTotal : FnScope ["self"] ["self"] (defScope sTotal) := ⟨rfl, rfl, rfl, by decide +kernel, rfl, by decide +kernel, by decide +kernel⟩
theorem ok_total {f : Addr} {fd : FuncData} (F : Fun K "total_weight" "Game.total_weight" sTotal f fd) (B : Blt mg) (G : GCls K C) : FnOk P w K mg base CX0 1 f fd ["self"] (spTotal C) := by
  refine F.ok scTotal (fun vs H Q E h => ?_) (fun cdv A outer s H vs Q E hr h => ?_)
  · obtain ⟨g, A, F, rfl, _⟩ := h
    rfl
  · obtain ⟨g, A, F, rfl, ⟨wd, td, gm, _⟩, k⟩ := h
    obtain ⟨dx, hi⟩ := gm.ins
    refine ⟨_, (pss_one (ps_ret (pe_callB (cr_sumV (by rfl)) (by rfl) B.sum PyProof.Rows.boot_sum (pa_cons (pe_values (pe_fld (pv 0) rfl)) pa_nil)))), ?_⟩
    refine ⟨_, rfl, g, C, dx, _, _, rfl, hi, G.cl, G.nw, gf_w _ _ _ _ _ _, wd, _, rfl, gm.w, fun v nv => ?_⟩
    refine ⟨v, wd, _, ((pk A.x A.y).map fun k => A.count (k.getD 0 0) (k.getD 1 0)).map fun (n : Nat) => (n : Int), rfl, upd_same, Same.new nv _ _ gm.w, ?_, ?_⟩
    · unfold dOf
      rw [List.map_map, List.map_map, List.map_map]
      rfl
    · rw [sum_cast, pk_sum A gm.wf]
      exact k _ (.new nv)
/-! ### first_rows, second_rows -/
def spFirsts (C : Addr) : Sp := fun vs H Q _ => ∃ (g : Addr) (A : Su172.Abs) (F : Addr → Prop), vs = [.ref g] ∧ GAt C H g A F ∧ ∀ (H' : Hp) (p : Addr), Same H H' → H p = none → LL H' p A.firsts → Q (.ref p) H'
def spSeconds (C : Addr) : Sp := fun vs H Q _ => ∃ (g : Addr) (A : Su172.Abs) (F : Addr → Prop), vs = [.ref g] ∧ GAt C H g A F ∧ ∀ (H' : Hp) (p : Addr), Same H H' → H p = none → LL H' p A.seconds → Q (.ref p) H'
abbrev sFirsts : Stmt := inClass (top 34) 6
/-- slots: 0:self -/
theorem scFirsts : FnScope ["self"] ["self"] (defScope sFirsts) := ⟨rfl, rfl, rfl, by decide +kernel, rfl, by decide +kernel, by decide +kernel⟩
theorem ok_firsts {f : Addr} {fd : FuncData} (F : Fun K "first_rows" "Game.first_rows" sFirsts f fd) (G : GCls K C) (c_rows_in_order : Cal P w K mg base 1 "rows_in_order" ["questions", "choices"] spRows) : FnOk P w K mg base CX0 2 f fd ["self"] (spFirsts C) := by
  refine F.ok scFirsts (fun vs H Q E h => ?_) (fun cdv A outer s H vs Q E hr h => ?_)
  · obtain ⟨g, A, F, rfl, _⟩ := h
    rfl
  · obtain ⟨g, A, F, rfl, ⟨wd, td, gm, _⟩, k⟩ := h
    obtain ⟨dx, hi⟩ := gm.ins
    have wf := gm.wf
    refine ⟨_, (pss_one (ps_ret (pe_fn c_rows_in_order (hr.mono (by decide)) (pa_cons (pe_fld (pv 0) rfl) (pa_cons (pe_fld (pv 0) rfl) pa_nil))))), ?_⟩
    exact ⟨_, rfl, g, C, dx, _, _, rfl, hi, G.cl, G.nx, gf_x _ _ _ _ _ _, _, rfl, g, C, dx, _, _, rfl, hi, G.cl, G.na, gf_a _ _ _ _ _ _, A.x, A.a, rfl, wf.x1, wf.a1, k⟩
abbrev sSeconds : Stmt := inClass (top 34) 7
/-- slots: 0:self -/
theorem scSeconds : FnScope ["self"] ["self"] (defScope sSeconds) := ⟨rfl, rfl, rfl, by decide +kernel, rfl, by decide +kernel, by decide +kernel⟩
theorem ok_seconds {f : Addr} {fd : FuncData} (F : Fun K "second_rows" "Game.second_rows" sSeconds f fd) (G : GCls K C) (c_rows_in_order : Cal P w K mg base 1 "rows_in_order" ["questions", "choices"] spRows) : FnOk P w K mg base CX0 2 f fd ["self"] (spSeconds C) := by
  refine F.ok scSeconds (fun vs H Q E h => ?_) (fun cdv A outer s H vs Q E hr h => ?_)
  · obtain ⟨g, A, F, rfl, _⟩ := h
    rfl
  · obtain ⟨g, A, F, rfl, ⟨wd, td, gm, _⟩, k⟩ := h
    obtain ⟨dx, hi⟩ := gm.ins
    have wf := gm.wf
    refine ⟨_, (pss_one (ps_ret (pe_fn c_rows_in_order (hr.mono (by decide)) (pa_cons (pe_fld (pv 0) rfl) (pa_cons (pe_fld (pv 0) rfl) pa_nil))))), ?_⟩
    exact ⟨_, rfl, g, C, dx, _, _, rfl, hi, G.cl, G.ny, gf_y _ _ _ _ _ _, _, rfl, g, C, dx, _, _, rfl, hi, G.cl, G.nb, gf_b _ _ _ _ _ _, A.y, A.b, rfl, wf.y1, wf.b1, k⟩
/-! ### gain -/
def spGain (K : PySem.W.Frag) (C : Addr) : Sp := fun vs H Q _ => ∃ (g r : Addr) (A : Su172.Abs) (F : Addr → Prop) (l : List Nat) (y : Nat), vs = [.ref g, .ref r, .int y] ∧ GAt C H g A F ∧ SqL K H r (natsV l) ∧ Su172.okRow A.x A.a l = true ∧ y < A.y ∧
  ∀ (H' : Hp) (q : Addr), Same H H' → H q = none → H' q = some (.lst (natsV ((List.range A.b).map fun b => A.gainAt l y b))) → Q (.ref q) H'
abbrev sGain : Stmt := inClass (top 34) 8
/-- slots: 0:self 1:first_row 2:y 3:won 4:x 5:a 6:weight 7:b -/
theorem scGain : FnScope ["self", "first_row", "y", "won", "x", "a", "weight", "b"] ["self", "first_row", "y"] (defScope sGain) := ⟨rfl, rfl, rfl, by decide +kernel, rfl, by decide +kernel, by decide +kernel⟩
theorem ok_gain {f : Addr} {fd : FuncData} (F : Fun K "gain" "Game.gain" sGain f fd) (B : Blt mg) (G : GCls K C) : FnOk P w K mg base CX0 1 f fd ["self", "first_row", "y"] (spGain K C) := by
  refine F.ok scGain (fun vs H Q E h => ?_) (fun cdv A outer s H vs Q E hr h => ?_)
  · obtain ⟨g, r, A, F, l, y, rfl, _⟩ := h
    rfl
  · obtain ⟨g, r, A, F, l, y, rfl, ⟨wd, td, gm, _⟩, hl, hok, hy, k⟩ := h
    obtain ⟨dx, hi⟩ := gm.ins
    have wf := gm.wf
    have hu := hu_of hr
    refine ⟨_, (pss_cons (ps_set (i := 3) scGain.nd rfl (Or.inl rfl) (pe_op op_rep (pe_lst (pa_cons pe_int pa_nil)) (pe_fld (pv 0) rfl)))
      (pss_cons (ps_for PassesOwn.never rfl (pi_range1 rfl B.range (pa_cons (pe_fld (pv 0) rfl) pa_nil)) (pg_name (i := 4) scGain.nd rfl (Or.inl rfl))
        (pss_cons (ps_set (i := 5) scGain.nd rfl (Or.inl rfl) (pe_ix ix_list (pv 1) (pv 4) (fun _ _ => rfl)))
        (pss_cons (ps_set (i := 6) scGain.nd rfl (Or.inl rfl) (pe_dget hu (pe_fld (pv 0) rfl) (pe_tup (pa_cons (pv 4) (pa_cons (pv 2) pa_nil))) (fun _ _ => rfl)))
        (pss_one (ps_for PassesOwn.never rfl (pi_range1 rfl B.range (pa_cons (pe_fld (pv 0) rfl) pa_nil)) (pg_name (i := 7) scGain.nd rfl (Or.inl rfl))
          (pss_one (ps_augS (pv 3) (pv 7) get_list (pe_op op_mul (pv 6) (pe_dget hu (pe_fld (pv 0) rfl) (pe_tup (pa_cons (pv 4) (pa_cons (pv 2) (pa_cons (pv 5) (pa_cons (pv 7) pa_nil))))) (fun _ _ => rfl))) ip_add set_list)))))))
      (pss_one (ps_ret (pv 3))))), ?_⟩
    refine ⟨by show 1 ≤ sizeLine; decide, fun l0 hl0 => ⟨_, rfl, g, C, dx, _, _, rfl, Same.new hl0 _ _ hi, G.cl, G.nb, gf_b _ _ _ _ _ _, l0, (A.b : Int), _, rfl, rfl, upd_same, by have := wf.b1; omega, by have := wf.b1; omega, ?_, fun q hq => ?_⟩⟩
    · show 1 * (A.b : Int).toNat ≤ sizeLine
      rw [sizeLine_eq]; have := wf.b1; omega
    rw [Int.toNat_natCast, rep_one]
    have s0 : Same H (upd H l0 (.lst [.int 0])) := .new hl0
    have s1 := s0.upd_new (o := .lst ((List.range A.b).map fun b => V.int ((0 : Nat) : Int))) hq
    have nq : H q = none := s0.free hq
    refine ⟨_, rfl, g, C, dx, _, _, rfl, s1 _ _ hi, G.cl, G.nx, gf_x _ _ _ _ _ _, A.x, rfl, by have := wf.x1; omega, by have := wf.x1; omega,
      for_range0 (n := A.x) (fun i σ H' => ∃ v4 v5 v6 v7, σ = [some (.ref g), some (.ref r), some (.int (y : Nat)), some (.ref q), v4, v5, v6, v7] ∧ Same H H' ∧ H' q = some (.lst (natsV ((List.range A.b).map fun b => Tm.part (fun x => if A.won x y (l.getD x 0) b = true then A.count x y else 0) i)))) ?_ ?_ ?_⟩
    · refine ⟨none, none, none, none, rfl, s1, ?_⟩
      rw [upd_same]
      unfold natsV
      rw [List.map_map]
      rfl
    · rintro i σ H2 hi2 ⟨v4, v5, v6, v7, rfl, s2, hq2⟩
      obtain ⟨e1, e2⟩ := Tm.okRow_get hok hi2
      refine ⟨_, rfl, _, rfl, r, _, _, _, rfl, rfl, s2.seq hl, atI_nat (natsV_get e1), ?_⟩
      refine ⟨_, rfl, g, C, dx, _, _, rfl, s2 _ _ hi, G.cl, G.nw, gf_w _ _ _ _ _ _, _, rfl, _, rfl, by show 2 ≤ sizeLine; decide, fun k1 hk1 => ?_⟩
      have s3 : Same H2 (upd H2 k1 (.tup (natsV [i, y]))) := .new hk1
      refine ⟨wd, _, rfl, dget_of (k := [i, y]) (s3 _ _ (s2 _ _ gm.w)) upd_same (pk_mem.mpr ⟨hi2, hy⟩), ?_⟩
      have s5 : Same H (upd H2 k1 (.tup (natsV [i, y]))) := s2.trans s3
      have hq4 := s3 _ _ hq2
      refine ⟨_, rfl, g, C, dx, _, _, rfl, s5 _ _ hi, G.cl, G.nb, gf_b _ _ _ _ _ _, A.b, rfl, by have := wf.b1; omega, by have := wf.b1; omega,
        for_range0 (n := A.b) (fun j σ H' => ∃ v7, σ = [some (.ref g), some (.ref r), some (.int (y : Nat)), some (.ref q), some (.int (i : Nat)), some (.int (l.getD i 0 : Nat)), some (.int (A.count i y : Nat)), v7] ∧ Same H H' ∧
          H' q = some (.lst (natsV ((List.range A.b).map fun b => Tm.part (fun x => if A.won x y (l.getD x 0) b = true then A.count x y else 0) i + if b < j then (if A.won i y (l.getD i 0) b = true then A.count i y else 0) else 0)))) ?_ ?_ ?_⟩
      · refine ⟨v7, rfl, s5, ?_⟩
        refine hq4.trans ?_
        simp
      · rintro j σ H5 hj ⟨v7, rfl, s6, hq5⟩
        refine ⟨_, rfl, _, rfl, q, _, j, _, rfl, rfl, SqL.of hq5, natsV_get (by rw [List.getElem?_map, List.getElem?_range hj]; rfl), _, rfl, _, rfl, g, C, dx, _, _, rfl, s6 _ _ hi, G.cl, G.nt, gf_t _ _ _ _ _ _, _, rfl, _, rfl, _, rfl, _, rfl, by show 4 ≤ sizeLine; decide, fun k2 hk2 => ?_⟩
        have s7 : Same H5 (upd H5 k2 (.tup (natsV [i, y, l.getD i 0, j]))) := .new hk2
        have hq6 := s7 _ _ hq5
        have hb1 : ∀ z : Bool, (Su172.bit z) ≤ 1 := fun z => by cases z <;> decide
        refine ⟨td, _, rfl, dget_of (k := [i, y, l.getD i 0, j]) (s7 _ _ (s6 _ _ gm.t)) upd_same (qk_mem.mpr ⟨hi2, hy, e2, hj⟩), _, _, rfl, rfl, .inr (smallN (Nat.le_trans (hb1 _) (by decide))), _, _, rfl, rfl, q, _, _, j, rfl, rfl, hq6, ixN_nat (by rw [natsV_len]; simpa using hj), ?_⟩
        refine ⟨_, rfl, (s6.trans s7).upd_free nq, ?_⟩
        rw [upd_same]
        have e3 : ∀ m : Nat, V.int ((m : Int) + ((A.count i y : Nat) : Int) * ((Su172.bit (A.won i y (l.getD i 0) j) : Nat) : Int)) = V.int ((m + if A.won i y (l.getD i 0) j = true then A.count i y else 0 : Nat) : Int) := fun m => by
          rw [← Tm.mul_bit]
          congr 1
        show some (HO.lst ((natsV _).set j (V.int (_ + ((A.count i y : Nat) : Int) * ((Su172.bit (A.won i y (l.getD i 0) j) : Nat) : Int))))) = _
        rw [e3, natsV_set, Tm.map_range_set]
        congr 3
        apply List.map_congr_left
        intro b hb
        by_cases q1 : b = j
        · subst q1
          rw [if_pos rfl]
          dsimp only
          rw [if_neg (Nat.lt_irrefl _), if_pos (Nat.lt_succ_self _), Nat.add_zero]
        · rw [if_neg q1]
          congr 1
          exact ite_cg (by omega) rfl rfl
      · rintro σ H5 ⟨v7, rfl, s6, hq5⟩
        refine ⟨_, _, _, _, rfl, s6, ?_⟩
        rw [hq5]
        congr 3
        apply List.map_congr_left
        intro b hb
        rw [Tm.part_succ, if_pos (List.mem_range.mp hb)]
    · rintro σ H2 ⟨v4, v5, v6, v7, rfl, s2, hq2⟩
      exact ⟨_, rfl, k H2 q s2 nq hq2⟩
/-! ### gains -/
def spGains (K : PySem.W.Frag) (C : Addr) : Sp := fun vs H Q _ => ∃ (g r : Addr) (A : Su172.Abs) (F : Addr → Prop) (l : List Nat), vs = [.ref g, .ref r] ∧ GAt C H g A F ∧ SqL K H r (natsV l) ∧ Su172.okRow A.x A.a l = true ∧
  ∀ (H' : Hp) (q : Addr), Same H H' → H q = none → LL H' q (Tm.gains A l) → Q (.ref q) H'
abbrev sGains : Stmt := inClass (top 34) 9
/-- slots: 0:self 1:first_row 2:y -/
theorem scGains : FnScope ["self", "first_row", "y"] ["self", "first_row"] (defScope sGains) := ⟨rfl, rfl, rfl, by decide +kernel, rfl, by decide +kernel, by decide +kernel⟩
theorem ok_gains {f : Addr} {fd : FuncData} (F : Fun K "gains" "Game.gains" sGains f fd) (B : Blt mg) (G : GCls K C) (m_gain : MCal P w K mg base C 1 "gain" ["self", "first_row", "y"] (spGain K C)) :
    FnOk P w K mg base CX0 2 f fd ["self", "first_row"] (spGains K C) := by
  refine F.ok scGains (fun vs H Q E h => ?_) (fun cdv A outer s H vs Q E hr h => ?_)
  · obtain ⟨g, r, A, F, l, rfl, _⟩ := h
    rfl
  · obtain ⟨g, r, A, F, l, rfl, gat, hl, hok, k⟩ := h
    obtain ⟨wd, td, gm, _⟩ := id gat
    obtain ⟨dx, hi⟩ := gm.ins
    have wf := gm.wf
    refine ⟨_, (pss_one (ps_ret (pe_lc (te := _) rfl scGains.nd (pi_range1 rfl B.range (pa_cons (pe_fld (pv 0) rfl) pa_nil)) (own := [("y", 2)]) (blkOk_by rfl) (fun _ _ _ _ _ => pg_name (i := 2) scGains.nd rfl (Or.inl rfl)) (fun _ _ _ _ _ => pts_nil)
        (fun _ _ _ _ _ => (pe_me m_gain (pv 0) (hr.mono (by decide)) (pa_cons (pv 1) (pa_cons (pv 2) pa_nil))))))), ?_⟩
    refine ⟨_, rfl, g, C, dx, _, _, rfl, hi, G.cl, G.ny, gf_y _ _ _ _ _ _, A.y, rfl, by have := wf.y1; omega, by have := wf.y1; omega, fun D hD => ?_⟩
    refine lc_range0 (n := A.y) hD (by rw [sizeLine_eq]; have := wf.y1; omega) (fun i y H' => ∃ q, y = .ref q ∧ q ≠ D ∧ H' q = some (.lst (natsV ((List.range A.b).map fun b => A.gainAt l i b)))) (fun i y H1 H2 b ⟨q, e, n, h⟩ => ⟨q, e, n, b _ _ n h⟩) ?_ ?_
    · intro i H1 Q' hi1 s1 ⟨zs, hzs⟩ k'
      refine ⟨_, rfl, g, dx, _, rfl, s1 _ _ hi, gf_no (by decide +kernel), _, rfl, _, rfl, g, r, A, F, l, i, rfl, gat.same s1, s1.seq hl, hok, hi1, fun H2 q s2 nq hq => k' _ _ s2 ⟨q, rfl, (ne_of_none hzs nq).symm, hq⟩⟩
    · intro H1 ys s1 hD1 hlen hR
      exact k H1 D s1 hD (.of_items hD1 hlen fun i y h => let ⟨q, e, _, h⟩ := hR i y h; ⟨q, e, h⟩)
/-! ### what_plans_win -/
def spPlansWin (C : Addr) : Sp := fun vs H Q _ => ∃ (g : Addr) (A : Su172.Abs) (F : Addr → Prop), vs = [.ref g] ∧ GAt C H g A F ∧ ∀ (H' : Hp) (q : Addr), Same H H' → H q = none → H' q = some (.lst (natsV (winsAll A))) → Q (.ref q) H'
abbrev sPlansWin : Stmt := inClass (top 34) 10
/-- slots: 0:self 1:totals 2:first_row -/
theorem scPlansWin : FnScope ["self", "totals", "first_row"] ["self"] (defScope sPlansWin) := ⟨rfl, rfl, rfl, by decide +kernel, rfl, by decide +kernel, by decide +kernel⟩
theorem ok_plansWin {f : Addr} {fd : FuncData} (F : Fun K "what_plans_win" "Game.what_plans_win" sPlansWin f fd) (G : GCls K C) (m_first_rows : MCal P w K mg base C 2 "first_rows" ["self"] (spFirsts C)) (c_what_rows_win : Cal P w K mg base 1 "what_rows_win" ["gains"] spWins)
    (m_gains : MCal P w K mg base C 2 "gains" ["self", "first_row"] (spGains K C)) : FnOk P w K mg base CX0 3 f fd ["self"] (spPlansWin C) := by
  refine F.ok scPlansWin (fun vs H Q E h => ?_) (fun cdv A outer s H vs Q E hr h => ?_)
  · obtain ⟨g, A, F, rfl, _⟩ := h
    rfl
  · obtain ⟨g, A, F, rfl, gat, k⟩ := h
    obtain ⟨wd, td, gm, hf⟩ := id gat
    obtain ⟨dx, hi⟩ := gm.ins
    have wf := gm.wf
    refine ⟨_, (pss_cons (ps_set (i := 1) scPlansWin.nd rfl (Or.inl rfl) (pe_lst pa_nil))
      (pss_cons (ps_for PassesOwn.never rfl (pi_list (pe_me0 m_first_rows (pv 0) (hr.mono (by decide)))) (pg_name (i := 2) scPlansWin.nd rfl (Or.inl rfl))
        (pss_one (ps_expr (pe_bm PySem.F.plainAttrs_list PySem.F.slot_list_extend PySem.F.type_list_extend mt_extend (pv 1) (pa_cons (pe_fn c_what_rows_win (hr.mono (by decide)) (pa_cons (pe_me m_gains (pv 0) (hr.mono (by decide)) (pa_cons (pv 2) pa_nil)) pa_nil)) pa_nil)))))
      (pss_one (ps_ret (pv 1))))), ?_⟩
    refine ⟨Nat.zero_le _, fun t0 nt0 => ?_⟩
    have s0 : Same H (upd H t0 (.lst [])) := .new nt0
    refine ⟨_, rfl, g, dx, _, rfl, s0 _ _ hi, gf_no (by decide +kernel), g, A, F, rfl, gat.same s0, fun H1 p s1 np ⟨rs, L1⟩ => ?_⟩
    have sA : Same H H1 := s0.trans s1
    have ntp : p ≠ t0 := fun e => by rw [e, upd_same] at np; cases np
    refine ⟨p, rfl, ⟨_, SqL.of L1.lst⟩, for_list (K := K) (a := p) (xs := rs.map V.ref) (fun i σ H' => ∃ v2, σ = [some (.ref g), some (.ref t0), v2] ∧ But t0 H1 H' ∧ H' t0 = some (.lst (natsV ((A.firsts.take i).flatMap fun f => A.seconds.map fun h => A.value f h))))
      ⟨none, rfl, fun _ _ _ h => h, s1 _ _ upd_same⟩ (fun i σ H' _ ⟨_, _, b, _⟩ => SqL.of (b _ _ ntp L1.lst)) ?_ ?_⟩
    · rintro i y σ H2 hy ⟨v2, rfl, b2, ht2⟩
      obtain ⟨r, l, hr', rfl, hl, hrl⟩ := L1.at hy
      have s2 : Same H H2 := b2.same' sA nt0
      have hrow : H2 r = some (.lst (natsV l)) := by
        by_cases e : r = t0
        · have h1 := hrl
          rw [e, s1 _ _ upd_same] at h1
          have hn : natsV l = [] := by injection h1 with h1; injection h1 with h1; exact h1.symm
          have hl0 : l = [] := by
            cases l with
            | nil => rfl
            | cons a l => cases hn
          have hx0 : A.x = 0 := by
            have := (Tm.mem_rows.mp (List.mem_of_getElem? hl)).1
            rw [hl0] at this
            exact this.symm
          have hi0 : i = 0 := by
            have h2 := (List.getElem?_eq_some_iff.mp hl).1
            have h3 : A.firsts.length = A.a ^ A.x := Tm.rows_length _ _
            rw [hx0, Nat.pow_zero] at h3
            omega
          rw [e, ht2, hn, hi0]
          rfl
        · exact b2 _ _ e hrl
      refine ⟨_, rfl, .inl ⟨rfl, _, SqL.of ht2⟩, _, rfl, g, dx, _, rfl, s2 _ _ hi, gf_no (by decide +kernel), _, rfl, g, r, A, F, l, rfl, gat.same s2, SqL.of hrow, rows_ok (List.mem_of_getElem? hl), fun H3 p3 s3 np3 L3 => ?_⟩
      refine ⟨p3, Tm.gains A l, rfl, L3, gains_len4 wf l, by rw [gains_len]; exact wf.y1, fun H4 q s4 nq hq => ?_⟩
      rw [Tm.gains_wins] at hq
      have s5 := s3.trans s4
      refine ⟨t0, q, _, _, rfl, rfl, s5 _ _ ht2, hq, ?_, ?_⟩
      · rw [natsV_len, natsV_len, sizeLine_eq]
        have h1 := flatMap_len_le (A.firsts.take i) 256 (fun f => A.seconds.map fun h => A.value f h) fun f _ => by rw [List.length_map]; exact rows_le wf.b1 wf.y1 wf.b0
        have h2 : (A.firsts.take i).length ≤ 256 := by
          rw [List.length_take]
          have : A.firsts.length ≤ 256 := rows_le wf.a1 wf.x1 wf.a0
          omega
        have h3 : (A.seconds.map fun h => A.value l h).length ≤ 256 := by rw [List.length_map]; exact rows_le wf.b1 wf.y1 wf.b0
        omega
      · refine ⟨_, rfl, b2.trans (s5.but.trans .upd), ?_⟩
        rw [upd_same, take_snoc hl, flatMap_snoc, natsV_append]
    · rintro σ H2 ⟨v2, rfl, b2, ht2⟩
      rw [List.length_map, L1.len, List.take_length] at ht2
      exact ⟨_, rfl, k H2 t0 (b2.same' sA nt0) nt0 ht2⟩
end
end Ta

set_option Elab.async false
set_option linter.all false
set_option maxRecDepth 100000
set_option maxHeartbeats 2000000
namespace Ta
open PySem PySem.Spec PyProof.Rows L2
/-- whole numbers of the module's top -/
structure Cst (mg : Str → Option Value) : Prop where
  NO_SUCH : ∃ t, mg "NO_SUCH" = some (.int (-2) t)
  NOT_BEGUN : ∃ t, mg "NOT_BEGUN" = some (.int (-11) t)
  NOT_AS_TOLD : ∃ t, mg "NOT_AS_TOLD" = some (.int (-22) t)
  TOO_MANY : ∃ t, mg "TOO_MANY" = some (.int (-28) t)
  THERE_IS_NONE : ∃ t, mg "THERE_IS_NONE" = some (.int (-33) t)
  MOST_QUESTIONS : ∃ t, mg "MOST_QUESTIONS" = some (.int 3 t)
  MOST_CHOICES : ∃ t, mg "MOST_CHOICES" = some (.int 4 t)
  MOST_WEIGHT : ∃ t, mg "MOST_WEIGHT" = some (.int 99 t)
  MOST_WORDS : ∃ t, mg "MOST_WORDS" = some (.int 3 t)
  MOST_FOR_TWICE : ∃ t, mg "MOST_FOR_TWICE" = some (.int 2 t)
  BEGIN : ∃ t, mg "BEGIN" = some (.int 0 t)
  WINS : ∃ t, mg "WINS" = some (.int 1 t)
  ODD : ∃ t, mg "ODD" = some (.int 2 t)
  COUNTS : ∃ t, mg "COUNTS" = some (.int 3 t)
  VALUE : ∃ t, mg "VALUE" = some (.int 4 t)
  BEST : ∃ t, mg "BEST" = some (.int 5 t)
  REPLY : ∃ t, mg "REPLY" = some (.int 6 t)
  REPLYTO : ∃ t, mg "REPLYTO" = some (.int 7 t)
  PLANS : ∃ t, mg "PLANS" = some (.int 8 t)
  NTH : ∃ t, mg "NTH" = some (.int 9 t)
  PERFECT : ∃ t, mg "PERFECT" = some (.int 10 t)
  CORE : ∃ t, mg "CORE" = some (.int 11 t)
  TOLD : ∃ t, mg "TOLD" = some (.int 12 t)
  TWICE : ∃ t, mg "TWICE" = some (.int 13 t)
  SWAP : ∃ t, mg "SWAP" = some (.int 14 t)
  PAIR : ∃ t, mg "PAIR" = some (.int 15 t)
theorem Wf.set {A : Su172.Abs} {x y a b v : Nat} (wf : Wf A) (hx : x < A.x) (hy : y < A.y) (ha : a < A.a) (hb : b < A.b) : Wf (A.set x y a b v) :=
  ⟨wf.x1, wf.y1, wf.a0, wf.a1, wf.b0, wf.b1, wf.cl, wf.cr, fun p hp => by
    rcases Tm.set_wins hp with h | rfl
    · exact wf.ww p h
    · exact ⟨hx, hy, ha, hb⟩⟩
theorem odd_wf {A : Su172.Abs} {x y s : Nat} (wf : Wf A) (hx : x < A.x) (hy : y < A.y) : Wf (A.odd_ x y s) := by
  obtain ⟨h1, h2, h3, h4, h5⟩ := Tm.odd_dims A x y s
  refine ⟨h1 ▸ wf.x1, h2 ▸ wf.y1, h3 ▸ wf.a0, h3 ▸ wf.a1, h4 ▸ wf.b0, h4 ▸ wf.b1, by rw [h5, h1]; exact wf.cl, by rw [h5, h2]; exact wf.cr, fun p hp => ?_⟩
  rw [h1, h2, h3, h4]
  rcases Tm.odd_wins hp with h | ⟨e1, e2, e3, e4⟩
  · exact wf.ww p h
  · exact ⟨by omega, by omega, e3, e4⟩
theorem asks_wf {A : Su172.Abs} {x y v : Nat} (wf : Wf A) (hx : x < A.x) : Wf (Tm.asks A x y v) := by
  obtain ⟨h1, h2⟩ := Tm.asks_len (w := v) (y := y) wf.cl wf.cr hx
  exact ⟨wf.x1, wf.y1, wf.a0, wf.a1, wf.b0, wf.b1, h1, h2, wf.ww⟩
section
variable {P : Program} {w : World} {K : PySem.W.Frag} {mg : Str → Option Value} {base : Heap} {C : Addr}
/-- the winning answers have been written -/
theorem GameAt.setT {H : Hp} {g : Addr} {A A' : Su172.Abs} {wd td : Addr} {ft : List Nat → V} (G : GameAt C H g A wd td) (d1 : A'.x = A.x) (d2 : A'.y = A.y) (d3 : A'.a = A.a) (d4 : A'.b = A.b) (d5 : A'.counts = A.counts)
    (et : ∀ i j k l, i < A.x → j < A.y → k < A.a → l < A.b → ft [i, j, k, l] = .int (Su172.bit (A'.won i j k l) : Nat)) (wf : Wf A') : GameAt C (upd H td (.dT (dOf (qk A.x A.y A.a A.b) ft))) g A' wd td := by
  obtain ⟨dx, hi⟩ := G.ins
  refine ⟨⟨dx, ?_⟩, ?_, ?_, G.apart, wf⟩
  · rw [upd_ne (ne_of hi G.t (by intro z; cases z)), d1, d2, d3, d4]; exact hi
  · rw [upd_ne G.apart, d1, d2, G.w]
    congr 2
    apply dOf_congr
    intro k _
    show V.int _ = V.int _
    unfold Su172.Abs.count
    rw [d5]
  · rw [upd_same, d1, d2, d3, d4]
    congr 2
    apply dOf_congr
    intro k hk
    obtain ⟨u, v, s, t, rfl, h1, h2, h3, h4⟩ := mem_qk.mp hk
    exact et u v s t h1 h2 h3 h4
theorem GameAt.setW {H : Hp} {g : Addr} {A A' : Su172.Abs} {wd td : Addr} {fw : List Nat → V} (G : GameAt C H g A wd td) (d1 : A'.x = A.x) (d2 : A'.y = A.y) (d3 : A'.a = A.a) (d4 : A'.b = A.b) (d5 : A'.wins = A.wins)
    (ew : ∀ i j, i < A.x → j < A.y → fw [i, j] = .int (A'.count i j : Nat)) (wf : Wf A') : GameAt C (upd H wd (.dT (dOf (pk A.x A.y) fw))) g A' wd td := by
  obtain ⟨dx, hi⟩ := G.ins
  refine ⟨⟨dx, ?_⟩, ?_, ?_, G.apart, wf⟩
  · rw [upd_ne (ne_of hi G.w (by intro z; cases z)), d1, d2, d3, d4]; exact hi
  · rw [upd_same, d1, d2]
    congr 2
    apply dOf_congr
    intro k hk
    obtain ⟨u, v, rfl, h1, h2⟩ := mem_pk.mp hk
    exact ew u v h1 h2
  · rw [upd_ne G.apart.symm, d1, d2, d3, d4, G.t]
    congr 2
    apply dOf_congr
    intro k _
    show V.int _ = V.int _
    unfold Su172.Abs.won
    rw [d5]
/-- a new list behind a store in place -/
theorem Did.put {H H1 : Hp} {g : Addr} {A' : Su172.Abs} {F : Addr → Prop} {a : Su172.Ans} {Q : VK} {wd td D : Addr} (d : Did C H g F (A', a) Q) (hf : ∀ b, F b ↔ Foot g wd td b) (hD : F D) (b1 : But D H H1) (gm : GameAt C H1 g A' wd td)
    (q : Addr) (hq : H1 q = none) (hDt : H1 D ≠ none) : Q (.ref q) (upd H1 q (.lst (ansV a))) := by
  have nq : H q = none := by
    cases q1 : H q with
    | none => rfl
    | some o =>
      exfalso
      by_cases z : q = D
      · exact hDt (z ▸ hq)
      · rw [b1 _ _ z q1] at hq; cases hq
  exact d _ q F ⟨wd, td, gm.same (.new hq), hf⟩ (fun c h => .inl h) (fun c o h nc => Same.new hq _ _ (b1 _ _ (fun z => nc (z ▸ hD)) h)) nq upd_same
def spMWins (C : Addr) : Sp := fun vs H Q _ => ∃ (g : Addr) (A : Su172.Abs) (F : Addr → Prop) (x y a b v : Nat), vs = [.ref g, .int x, .int y, .int a, .int b, .int v] ∧ GAt C H g A F ∧ Did C H g F (Su172.does A (.wins x y a b v)) Q
abbrev sMWins : Stmt := inClass (top 34) 11
/-- slots: 0:self 1:x 2:y 3:a 4:b 5:v 6:before -/
theorem scMWins : FnScope ["self", "x", "y", "a", "b", "v", "before"] ["self", "x", "y", "a", "b", "v"] (defScope sMWins) := ⟨rfl, rfl, rfl, by decide +kernel, rfl, by decide +kernel, by decide +kernel⟩
theorem ok_mwins {f : Addr} {fd : FuncData} (F : Fun K "wins" "Game.wins" sMWins f fd) (G : GCls K C) (T : Cst mg) : FnOk P w K mg base CX0 1 f fd ["self", "x", "y", "a", "b", "v"] (spMWins C) := by
  refine F.ok scMWins (fun vs H Q E h => ?_) (fun cdv A outer s H vs Q E hr h => ?_)
  · obtain ⟨g, A, F, x, y, a, b, v, rfl, _⟩ := h
    rfl
  · obtain ⟨g, A, F, x, y, a, b, v, rfl, gat, k⟩ := h
    obtain ⟨wd, td, gm, hf⟩ := id gat
    obtain ⟨dx, hi⟩ := gm.ins
    have wf := gm.wf
    have hu := hu_of hr
    refine ⟨_, (pss_cons (ps_if (pt_cmp (pc_dnotin hu (pe_tup (pa_cons (pv 1) (pa_cons (pv 2) (pa_cons (pv 3) (pa_cons (pv 4) pa_nil))))) (pe_fld (pv 0) rfl)))
        (pss_one (ps_ret (pe_lst (pa_cons (pe_gi T.NO_SUCH) pa_nil)))) pss_nil)
      (pss_cons (ps_if (pt_cmpR op_gt (pv 5) pe_int (nomark _))
        (pss_one (ps_ret (pe_lst (pa_cons (pe_gi T.NOT_AS_TOLD) pa_nil)))) pss_nil)
      (pss_cons (ps_set (i := 6) scMWins.nd rfl (Or.inl rfl) (pe_dget hu (pe_fld (pv 0) rfl) (pe_tup (pa_cons (pv 1) (pa_cons (pv 2) (pa_cons (pv 3) (pa_cons (pv 4) pa_nil))))) (fun _ _ => rfl)))
      (pss_cons (ps_dput hu (pe_fld (pv 0) rfl) (pe_tup (pa_cons (pv 1) (pa_cons (pv 2) (pa_cons (pv 3) (pa_cons (pv 4) pa_nil))))) (pv 5) rfl)
      (pss_one (ps_ret (pe_lst (pa_cons (pv 6) pa_nil)))))))), ?_⟩
    refine ⟨_, rfl, _, rfl, _, rfl, _, rfl, by show 4 ≤ sizeLine; decide, fun k1 hk1 => ?_⟩
    have s1 : Same H (upd H k1 (.tup (natsV [x, y, a, b]))) := .new hk1
    refine ⟨_, rfl, g, C, dx, _, _, rfl, s1 _ _ hi, G.cl, G.nt, gf_t _ _ _ _ _ _, td, _, rfl, dget_any (k := [x, y, a, b]) (s1 _ _ gm.t) upd_same, _, rfl, ?_⟩
    rw [dOf_isSome]
    refine ite2 (fun hc => ?_) fun hc => ?_
    · refine ⟨by show 1 ≤ sizeLine; decide, fun q hq => ?_⟩
      have e : Su172.does A (.wins x y a b v) = (A, Su172.no (-2)) := if_pos (by
        rw [Bool.not_eq_true'] at hc
        have h1 : ¬ (x < A.x ∧ y < A.y ∧ a < A.a ∧ b < A.b) := fun z => of_decide_eq_false hc (qk_mem.mpr z)
        omega)
      rw [e] at k
      exact k.same gat (s1.upd_new hq) (s1.free hq) upd_same
    rw [Bool.not_eq_true', Bool.not_eq_false] at hc
    have hkm := of_decide_eq_true hc
    obtain ⟨hx, hy, ha, hb⟩ := qk_mem.mp hkm
    have en : ¬ (A.x ≤ x ∨ A.y ≤ y ∨ A.a ≤ a ∨ A.b ≤ b) := by omega
    refine ⟨_, rfl, _, _, rfl, rfl, _, rfl, ?_⟩
    refine ite2 (fun hc => ?_) fun hc => ?_
    · refine ⟨by show 1 ≤ sizeLine; decide, fun q hq => ?_⟩
      have hv : 1 < v := by have := of_decide_eq_true hc; omega
      have e : Su172.does A (.wins x y a b v) = (A, Su172.no (-22)) := (if_neg en).trans (if_pos hv)
      rw [e] at k
      exact k.same gat (s1.upd_new hq) (s1.free hq) upd_same
    have hv : v ≤ 1 := by
      have h1 : ¬ (1 : Int) < (v : Int) := fun z => hc (decide_eq_true z)
      omega
    have e : Su172.does A (.wins x y a b v) = (A.set x y a b v, Su172.num (Su172.bit (A.won x y a b)) []) := (if_neg en).trans (if_neg (by omega))
    rw [e] at k
    refine ⟨_, rfl, g, C, dx, _, _, rfl, s1 _ _ hi, G.cl, G.nt, gf_t _ _ _ _ _ _, _, rfl, _, rfl, _, rfl, _, rfl, by show 4 ≤ sizeLine; decide, fun k2 hk2 => ?_⟩
    have s2 := s1.upd_new (o := .tup (natsV [x, y, a, b])) hk2
    refine ⟨td, _, rfl, dget_of (k := [x, y, a, b]) (s2 _ _ gm.t) upd_same hkm, ?_⟩
    refine ⟨_, rfl, _, rfl, g, C, dx, _, _, rfl, s2 _ _ hi, G.cl, G.nt, gf_t _ _ _ _ _ _, _, rfl, _, rfl, _, rfl, _, rfl, by show 4 ≤ sizeLine; decide, fun k3 hk3 => ?_⟩
    have s3 := s2.upd_new (o := .tup (natsV [x, y, a, b])) hk3
    refine ⟨td, _, rfl, dput_of (k := [x, y, a, b]) (s3 _ _ gm.t) upd_same hkm (qk_lt wf.x1 wf.y1 wf.a1 wf.b1), ?_⟩
    refine ⟨_, rfl, by show 1 ≤ sizeLine; decide, fun q hq => ?_⟩
    refine k.put hf ((hf td).mpr (.inr (.inr rfl))) (s3.but.trans .upd) ((gm.same s3).setT (A' := A.set x y a b v) rfl rfl rfl rfl rfl (fun i j k l _ _ _ _ => ?_) (wf.set hx hy ha hb)) q hq (by rw [upd_same]; intro z; cases z)
    rw [Tm.set_won _ _ _ _ _ _ _ _ _ _ hv]
    by_cases z : i = x ∧ j = y ∧ k = a ∧ l = b
    · obtain ⟨rfl, rfl, rfl, rfl⟩ := z
      rw [if_pos rfl, if_pos ⟨rfl, rfl, rfl, rfl⟩]
      have : v = 0 ∨ v = 1 := by omega
      rcases this with rfl | rfl <;> rfl
    · rw [if_neg z, if_neg fun e => z (by cases e; exact ⟨rfl, rfl, rfl, rfl⟩)]
      rfl
/-! ### odd -/
def spMOdd (C : Addr) : Sp := fun vs H Q _ => ∃ (g : Addr) (A : Su172.Abs) (F : Addr → Prop) (x y v : Nat), vs = [.ref g, .int x, .int y, .int v] ∧ GAt C H g A F ∧ Did C H g F (Su172.does A (.odd x y v)) Q
def oddF (A : Su172.Abs) (x y s : Nat) (p : Nat → Nat → Prop) [∀ a b, Decidable (p a b)] : List Nat → V := fun k => if k.getD 0 0 = x ∧ k.getD 1 0 = y ∧ p (k.getD 2 0) (k.getD 3 0) then .int ((if (k.getD 2 0 + k.getD 3 0) % 2 = s then 1 else 0 : Nat) : Int) else wonV A k
abbrev sMOdd : Stmt := inClass (top 34) 12
/-- slots: 0:self 1:x 2:y 3:s 4:a 5:b -/
theorem scMOdd : FnScope ["self", "x", "y", "s", "a", "b"] ["self", "x", "y", "s"] (defScope sMOdd) := ⟨rfl, rfl, rfl, by decide +kernel, rfl, by decide +kernel, by decide +kernel⟩
theorem ok_modd {f : Addr} {fd : FuncData} (F : Fun K "odd" "Game.odd" sMOdd f fd) (B : Blt mg) (G : GCls K C) (T : Cst mg) : FnOk P w K mg base CX0 1 f fd ["self", "x", "y", "s"] (spMOdd C) := by
  refine F.ok scMOdd (fun vs H Q E h => ?_) (fun cdv A outer s H vs Q E hr h => ?_)
  · obtain ⟨g, A, F, x, y, v, rfl, _⟩ := h
    rfl
  · obtain ⟨g, A, F, x, y, v, rfl, gat, k⟩ := h
    obtain ⟨wd, td, gm, hf⟩ := id gat
    obtain ⟨dx, hi⟩ := gm.ins
    have wf := gm.wf
    have hu := hu_of hr
    refine ⟨_, (pss_cons (ps_if (pt_cmp (pc_dnotin hu (pe_tup (pa_cons (pv 1) (pa_cons (pv 2) pa_nil))) (pe_fld (pv 0) rfl)))
        (pss_one (ps_ret (pe_lst (pa_cons (pe_gi T.NO_SUCH) pa_nil)))) pss_nil)
      (pss_cons (ps_if (pt_cmpR op_gt (pv 3) pe_int (nomark _))
        (pss_one (ps_ret (pe_lst (pa_cons (pe_gi T.NOT_AS_TOLD) pa_nil)))) pss_nil)
      (pss_cons (ps_for PassesOwn.never rfl (pi_range1 rfl B.range (pa_cons (pe_fld (pv 0) rfl) pa_nil)) (pg_name (i := 4) scMOdd.nd rfl (Or.inl rfl))
        (pss_one (ps_for PassesOwn.never rfl (pi_range1 rfl B.range (pa_cons (pe_fld (pv 0) rfl) pa_nil)) (pg_name (i := 5) scMOdd.nd rfl (Or.inl rfl))
          (pss_one (ps_dput hu (pe_fld (pv 0) rfl) (pe_tup (pa_cons (pv 1) (pa_cons (pv 2) (pa_cons (pv 4) (pa_cons (pv 5) pa_nil))))) (pe_ifExp (pt_cmpR op_eq (pe_op op_mod (pe_op op_add (pv 4) (pv 5)) pe_int) (pv 3) (nomark _)) pe_int pe_int) rfl)))))
      (pss_one (ps_ret (pe_lst (pa_cons pe_int pa_nil))))))), ?_⟩
    refine ⟨_, rfl, _, rfl, by show 2 ≤ sizeLine; decide, fun k1 hk1 => ?_⟩
    have s1 : Same H (upd H k1 (.tup (natsV [x, y]))) := .new hk1
    refine ⟨_, rfl, g, C, dx, _, _, rfl, s1 _ _ hi, G.cl, G.nw, gf_w _ _ _ _ _ _, wd, _, rfl, dget_any (k := [x, y]) (s1 _ _ gm.w) upd_same, _, rfl, ?_⟩
    rw [dOf_isSome]
    refine ite2 (fun hc => ?_) fun hc => ?_
    · refine ⟨by show 1 ≤ sizeLine; decide, fun q hq => ?_⟩
      have e : Su172.does A (.odd x y v) = (A, Su172.no (-2)) := if_pos (by
        rw [Bool.not_eq_true'] at hc
        have h1 : ¬ (x < A.x ∧ y < A.y) := fun z => of_decide_eq_false hc (pk_mem.mpr z)
        omega)
      rw [e] at k
      exact k.same gat (s1.upd_new hq) (s1.free hq) upd_same
    rw [Bool.not_eq_true', Bool.not_eq_false] at hc
    obtain ⟨hx, hy⟩ := pk_mem.mp (of_decide_eq_true hc)
    have en : ¬ (A.x ≤ x ∨ A.y ≤ y) := by omega
    refine ⟨_, rfl, _, _, rfl, rfl, _, rfl, ?_⟩
    refine ite2 (fun hc => ?_) fun hc => ?_
    · refine ⟨by show 1 ≤ sizeLine; decide, fun q hq => ?_⟩
      have hv : 1 < v := by have := of_decide_eq_true hc; omega
      have e : Su172.does A (.odd x y v) = (A, Su172.no (-22)) := (if_neg en).trans (if_pos hv)
      rw [e] at k
      exact k.same gat (s1.upd_new hq) (s1.free hq) upd_same
    have hv : v ≤ 1 := by
      have h1 : ¬ (1 : Int) < (v : Int) := fun z => hc (decide_eq_true z)
      omega
    have e : Su172.does A (.odd x y v) = (A.odd_ x y v, Su172.num 0 []) := (if_neg en).trans (if_neg (by omega))
    rw [e] at k
    refine ⟨_, rfl, g, C, dx, _, _, rfl, s1 _ _ hi, G.cl, G.na, gf_a _ _ _ _ _ _, A.a, rfl, by have := wf.a1; omega, by have := wf.a1; omega,
      for_range0 (n := A.a) (fun i σ H' => ∃ v4 v5, σ = [some (.ref g), some (.int (x : Nat)), some (.int (y : Nat)), some (.int (v : Nat)), v4, v5] ∧ But td H H' ∧ H' td = some (.dT (dOf (qk A.x A.y A.a A.b) (oddF A x y v fun a _ => a < i)))) ?_ ?_ ?_⟩
    · refine ⟨none, none, rfl, s1.but, ?_⟩
      refine (s1 _ _ gm.t).trans ?_
      congr 2
      apply dOf_congr
      intro k _
      unfold oddF
      rw [if_neg (by omega)]
    · rintro i σ H2 hi2 ⟨v4, v5, rfl, b2, t2⟩
      have i2 := b2 _ _ (ne_of hi gm.t (by intro z; cases z)) hi
      refine ⟨_, rfl, g, C, dx, _, _, rfl, i2, G.cl, G.nb, gf_b _ _ _ _ _ _, A.b, rfl, by have := wf.b1; omega, by have := wf.b1; omega,
        for_range0 (n := A.b) (fun j σ H' => ∃ v5, σ = [some (.ref g), some (.int (x : Nat)), some (.int (y : Nat)), some (.int (v : Nat)), some (.int (i : Nat)), v5] ∧ But td H H' ∧ H' td = some (.dT (dOf (qk A.x A.y A.a A.b) (oddF A x y v fun a b => a < i ∨ (a = i ∧ b < j))))) ?_ ?_ ?_⟩
      · refine ⟨v5, rfl, b2, ?_⟩
        rw [t2]
        congr 2
        apply dOf_congr
        intro k _
        unfold oddF
        exact ite_cg (by omega) rfl rfl
      · rintro j σ H3 hj ⟨v5, rfl, b3, t3⟩
        have i3 := b3 _ _ (ne_of hi gm.t (by intro z; cases z)) hi
        have go : ∀ k2, H3 k2 = none → But td H (upd (upd H3 k2 (.tup (natsV [x, y, i, j]))) td (.dT (dOf (qk A.x A.y A.a A.b) fun k' => if k' = [x, y, i, j] then .int ((if (i + j) % 2 = v then 1 else 0 : Nat) : Int) else oddF A x y v (fun a b => a < i ∨ (a = i ∧ b < j)) k'))) ∧
            (upd (upd H3 k2 (.tup (natsV [x, y, i, j]))) td (.dT (dOf (qk A.x A.y A.a A.b) fun k' => if k' = [x, y, i, j] then .int ((if (i + j) % 2 = v then 1 else 0 : Nat) : Int) else oddF A x y v (fun a b => a < i ∨ (a = i ∧ b < j)) k'))) td = some (.dT (dOf (qk A.x A.y A.a A.b) (oddF A x y v fun a b => a < i ∨ (a = i ∧ b < j + 1)))) := fun k2 hk2 => by
          refine ⟨b3.trans ((Same.new hk2).but.trans .upd), ?_⟩
          rw [upd_same]
          congr 2
          apply dOf_congr
          intro k hk
          obtain ⟨x', y', a', b', rfl, h1, h2, h3, h4⟩ := mem_qk.mp hk
          show (if [x', y', a', b'] = [x, y, i, j] then _ else if x' = x ∧ y' = y ∧ (a' < i ∨ (a' = i ∧ b' < j)) then _ else _) = if x' = x ∧ y' = y ∧ (a' < i ∨ (a' = i ∧ b' < j + 1)) then _ else _
          by_cases z : x' = x ∧ y' = y ∧ a' = i ∧ b' = j
          · obtain ⟨rfl, rfl, rfl, rfl⟩ := z
            rw [if_pos (show [x', y', a', b'] = [x', y', a', b'] from rfl), if_pos (show x' = x' ∧ y' = y' ∧ (a' < a' ∨ (a' = a' ∧ b' < b' + 1)) from ⟨rfl, rfl, .inr ⟨rfl, by omega⟩⟩)]
            rfl
          · rw [if_neg fun e => z (by cases e; exact ⟨rfl, rfl, rfl, rfl⟩)]
            exact ite_cg (by omega) rfl rfl
        have hmem : [x, y, i, j] ∈ qk A.x A.y A.a A.b := qk_mem.mpr ⟨hx, hy, hi2, hj⟩
        refine ⟨_, rfl, _, rfl, _, _, rfl, rfl, _, _, rfl, rfl, (by show (0 : Int) < 2; decide), _, rfl, rfl, _, rfl, ?_⟩
        refine ite2 (fun hc => ?_) fun hc => ?_
        · have hc' : (i + j) % 2 = v := by
            have := of_decide_eq_true hc
            injection this with this
            omega
          refine ⟨_, rfl, g, C, dx, _, _, rfl, i3, G.cl, G.nt, gf_t _ _ _ _ _ _, _, rfl, _, rfl, _, rfl, _, rfl, by show 4 ≤ sizeLine; decide, fun k2 hk2 => ?_⟩
          obtain ⟨g1, g2⟩ := go k2 hk2
          rw [if_pos hc'] at g1 g2
          exact ⟨td, _, rfl, dput_of (k := [x, y, i, j]) (Same.new hk2 _ _ t3) upd_same hmem (qk_lt wf.x1 wf.y1 wf.a1 wf.b1), _, rfl, g1, g2⟩
        · have hc' : ¬ (i + j) % 2 = v := fun z => hc (decide_eq_true (by
            show V.int (((i : Nat) + (j : Nat) : Int) % 2) = V.int (v : Nat)
            congr 1
            omega))
          refine ⟨_, rfl, g, C, dx, _, _, rfl, i3, G.cl, G.nt, gf_t _ _ _ _ _ _, _, rfl, _, rfl, _, rfl, _, rfl, by show 4 ≤ sizeLine; decide, fun k2 hk2 => ?_⟩
          obtain ⟨g1, g2⟩ := go k2 hk2
          rw [if_neg hc'] at g1 g2
          exact ⟨td, _, rfl, dput_of (k := [x, y, i, j]) (Same.new hk2 _ _ t3) upd_same hmem (qk_lt wf.x1 wf.y1 wf.a1 wf.b1), _, rfl, g1, g2⟩
      · rintro σ H3 ⟨v5, rfl, b3, t3⟩
        refine ⟨_, _, rfl, b3, ?_⟩
        rw [t3]
        congr 2
        apply dOf_congr
        intro k hk
        obtain ⟨x', y', a', b', rfl, h1, h2, h3, h4⟩ := mem_qk.mp hk
        show (if x' = x ∧ y' = y ∧ (a' < i ∨ (a' = i ∧ b' < A.b)) then _ else _) = if x' = x ∧ y' = y ∧ a' < i + 1 then _ else _
        exact ite_cg (by omega) rfl rfl
    · rintro σ H2 ⟨v4, v5, rfl, b2, t2⟩
      refine ⟨by show 1 ≤ sizeLine; decide, fun q hq => ?_⟩
      obtain ⟨h1, h2, h3, h4, h5⟩ := Tm.odd_dims A x y v
      have gm2 : GameAt C H2 g (A.odd_ x y v) wd td := by
        have e2 : H2 = upd H2 td (.dT (dOf (qk A.x A.y A.a A.b) (oddF A x y v fun a _ => a < A.a))) := by
          funext c
          by_cases z : c = td
          · rw [z, upd_same]; exact t2
          · rw [upd_ne z]
        rw [e2]
        have i2 := b2 _ _ (ne_of hi gm.t (by intro z; cases z)) hi
        have gmw : H2 wd = _ := b2 _ _ gm.apart gm.w
        refine ⟨⟨dx, ?_⟩, ?_, ?_, gm.apart, odd_wf wf hx hy⟩
        · rw [upd_ne (ne_of hi gm.t (by intro z; cases z)), h1, h2, h3, h4]; exact i2
        · rw [upd_ne gm.apart, h1, h2, gmw]
          congr 2
          apply dOf_congr
          intro k _
          show V.int _ = V.int _
          unfold Su172.Abs.count
          rw [h5]
        · rw [upd_same, h1, h2, h3, h4]
          congr 2
          apply dOf_congr
          intro k hk
          obtain ⟨x', y', a', b', rfl, g1, g2, g3, g4⟩ := mem_qk.mp hk
          show (if x' = x ∧ y' = y ∧ a' < A.a then _ else wonV A [x', y', a', b']) = V.int (Su172.bit ((A.odd_ x y v).won x' y' a' b') : Nat)
          rw [Tm.odd_won x' y' g3 g4]
          by_cases z : x' = x ∧ y' = y
          · rw [if_pos ⟨z.1, z.2, g3⟩, if_pos z]
            show V.int ((if (a' + b') % 2 = v then 1 else 0 : Nat) : Int) = _
            by_cases z2 : (a' + b') % 2 = v <;> simp [z2, Su172.bit]
          · rw [if_neg fun q => z ⟨q.1, q.2.1⟩, if_neg z]
            rfl
      exact k.put hf ((hf td).mpr (.inr (.inr rfl))) b2 gm2 q hq (by rw [t2]; intro z; cases z)
/-! ### counts -/
def spMCounts (C : Addr) : Sp := fun vs H Q _ => ∃ (g : Addr) (A : Su172.Abs) (F : Addr → Prop) (x y v : Nat), vs = [.ref g, .int x, .int y, .int v] ∧ GAt C H g A F ∧ Did C H g F (Su172.does A (.asks x y v)) Q
abbrev sMCounts : Stmt := inClass (top 34) 13
/-- slots: 0:self 1:x 2:y 3:how_much 4:before -/
theorem scMCounts : FnScope ["self", "x", "y", "how_much", "before"] ["self", "x", "y", "how_much"] (defScope sMCounts) := ⟨rfl, rfl, rfl, by decide +kernel, rfl, by decide +kernel, by decide +kernel⟩
theorem ok_mcounts {f : Addr} {fd : FuncData} (F : Fun K "counts" "Game.counts" sMCounts f fd) (G : GCls K C) (T : Cst mg) : FnOk P w K mg base CX0 1 f fd ["self", "x", "y", "how_much"] (spMCounts C) := by
  refine F.ok scMCounts (fun vs H Q E h => ?_) (fun cdv A outer s H vs Q E hr h => ?_)
  · obtain ⟨g, A, F, x, y, v, rfl, _⟩ := h
    rfl
  · obtain ⟨g, A, F, x, y, v, rfl, gat, k⟩ := h
    obtain ⟨wd, td, gm, hf⟩ := id gat
    obtain ⟨dx, hi⟩ := gm.ins
    have wf := gm.wf
    have hu := hu_of hr
    refine ⟨_, (pss_cons (ps_if (pt_cmp (pc_dnotin hu (pe_tup (pa_cons (pv 1) (pa_cons (pv 2) pa_nil))) (pe_fld (pv 0) rfl)))
        (pss_one (ps_ret (pe_lst (pa_cons (pe_gi T.NO_SUCH) pa_nil)))) pss_nil)
      (pss_cons (ps_if (pt_cmpR op_gt (pv 3) (pe_gi T.MOST_WEIGHT) (nomark _))
        (pss_one (ps_ret (pe_lst (pa_cons (pe_gi T.NOT_AS_TOLD) pa_nil)))) pss_nil)
      (pss_cons (ps_set (i := 4) scMCounts.nd rfl (Or.inl rfl) (pe_dget hu (pe_fld (pv 0) rfl) (pe_tup (pa_cons (pv 1) (pa_cons (pv 2) pa_nil))) (fun _ _ => rfl)))
      (pss_cons (ps_dput hu (pe_fld (pv 0) rfl) (pe_tup (pa_cons (pv 1) (pa_cons (pv 2) pa_nil))) (pv 3) rfl)
      (pss_one (ps_ret (pe_lst (pa_cons (pv 4) pa_nil)))))))), ?_⟩
    refine ⟨_, rfl, _, rfl, by show 2 ≤ sizeLine; decide, fun k1 hk1 => ?_⟩
    have s1 : Same H (upd H k1 (.tup (natsV [x, y]))) := .new hk1
    refine ⟨_, rfl, g, C, dx, _, _, rfl, s1 _ _ hi, G.cl, G.nw, gf_w _ _ _ _ _ _, wd, _, rfl, dget_any (k := [x, y]) (s1 _ _ gm.w) upd_same, _, rfl, ?_⟩
    rw [dOf_isSome]
    refine ite2 (fun hc => ?_) fun hc => ?_
    · refine ⟨by show 1 ≤ sizeLine; decide, fun q hq => ?_⟩
      have e : Su172.does A (.asks x y v) = (A, Su172.no (-2)) := if_pos (by
        rw [Bool.not_eq_true'] at hc
        have h1 : ¬ (x < A.x ∧ y < A.y) := fun z => of_decide_eq_false hc (pk_mem.mpr z)
        omega)
      rw [e] at k
      exact k.same gat (s1.upd_new hq) (s1.free hq) upd_same
    rw [Bool.not_eq_true', Bool.not_eq_false] at hc
    have hkm := of_decide_eq_true hc
    obtain ⟨hx, hy⟩ := pk_mem.mp hkm
    have en : ¬ (A.x ≤ x ∨ A.y ≤ y) := by omega
    refine ⟨_, rfl, _, _, rfl, rfl, _, rfl, ?_⟩
    refine ite2 (fun hc => ?_) fun hc => ?_
    · refine ⟨by show 1 ≤ sizeLine; decide, fun q hq => ?_⟩
      have hv : Su172.COUNT < v := by have := of_decide_eq_true hc; show 99 < v; omega
      have e : Su172.does A (.asks x y v) = (A, Su172.no (-22)) := (if_neg en).trans (if_pos hv)
      rw [e] at k
      exact k.same gat (s1.upd_new hq) (s1.free hq) upd_same
    have hv : v ≤ 99 := by
      have h1 : ¬ (99 : Int) < (v : Int) := fun z => hc (decide_eq_true z)
      omega
    have e : Su172.does A (.asks x y v) = (Tm.asks A x y v, Su172.num (A.count x y) []) := (if_neg en).trans (if_neg (show ¬ 99 < v by omega))
    rw [e] at k
    refine ⟨_, rfl, g, C, dx, _, _, rfl, s1 _ _ hi, G.cl, G.nw, gf_w _ _ _ _ _ _, _, rfl, _, rfl, by show 2 ≤ sizeLine; decide, fun k2 hk2 => ?_⟩
    have s2 := s1.upd_new (o := .tup (natsV [x, y])) hk2
    refine ⟨wd, _, rfl, dget_of (k := [x, y]) (s2 _ _ gm.w) upd_same hkm, ?_⟩
    refine ⟨_, rfl, _, rfl, g, C, dx, _, _, rfl, s2 _ _ hi, G.cl, G.nw, gf_w _ _ _ _ _ _, _, rfl, _, rfl, by show 2 ≤ sizeLine; decide, fun k3 hk3 => ?_⟩
    have s3 := s2.upd_new (o := .tup (natsV [x, y])) hk3
    refine ⟨wd, _, rfl, dput_of (k := [x, y]) (s3 _ _ gm.w) upd_same hkm (pk_lt wf.x1 wf.y1), ?_⟩
    refine ⟨_, rfl, by show 1 ≤ sizeLine; decide, fun q hq => ?_⟩
    refine k.put hf ((hf wd).mpr (.inr (.inl rfl))) (s3.but.trans .upd) ((gm.same s3).setW (A' := Tm.asks A x y v) rfl rfl rfl rfl rfl (fun i j _ _ => ?_) (asks_wf wf hx)) q hq (by rw [upd_same]; intro z; cases z)
    rw [Tm.asks_count v i j wf.cl wf.cr hx hy]
    by_cases z : i = x ∧ j = y
    · obtain ⟨rfl, rfl⟩ := z
      rw [if_pos rfl, if_pos ⟨rfl, rfl⟩]
    · rw [if_neg z, if_neg fun e => z (by cases e; exact ⟨rfl, rfl⟩)]
      rfl
end
end Ta

set_option Elab.async false
set_option linter.all false
set_option maxRecDepth 100000
/-! What the specification's calls of point 3 mean, whatever way they are reckoned. -/
namespace Tm
open Su172
theorem sum_le {α : Type} {f g : α → Nat} : ∀ {l : List α}, (∀ x ∈ l, f x ≤ g x) → (l.map f).sum ≤ (l.map g).sum
  | [], _ => Nat.le_refl _
  | a :: l, h => by
    rw [List.map_cons, List.map_cons, List.sum_cons, List.sum_cons]
    exact Nat.add_le_add (h a (List.mem_cons_self ..)) (sum_le fun x hx => h x (List.mem_cons_of_mem _ hx))
theorem sum_eq_iff {α : Type} {f g : α → Nat} : ∀ {l : List α}, (∀ x ∈ l, f x ≤ g x) → ((l.map f).sum = (l.map g).sum ↔ ∀ x ∈ l, f x = g x)
  | [], _ => ⟨fun _ _ h => (by cases h), fun _ => rfl⟩
  | a :: l, h => by
    rw [List.map_cons, List.map_cons, List.sum_cons, List.sum_cons]
    have h1 := h a (List.mem_cons_self ..)
    have h2 : (l.map f).sum ≤ (l.map g).sum := sum_le fun x hx => h x (List.mem_cons_of_mem _ hx)
    have ih := sum_eq_iff (l := l) fun x hx => h x (List.mem_cons_of_mem _ hx)
    constructor
    · intro e x hx
      rcases List.mem_cons.mp hx with rfl | hx
      · omega
      · exact ih.mp (by omega) x hx
    · intro e
      rw [e a (List.mem_cons_self ..), ih.mpr fun x hx => e x (List.mem_cons_of_mem _ hx)]
theorem sum_add {α : Type} (f g : α → Nat) : ∀ l : List α, (l.map fun x => f x + g x).sum = (l.map f).sum + (l.map g).sum
  | [] => rfl
  | a :: l => by
    rw [List.map_cons, List.map_cons, List.map_cons, List.sum_cons, List.sum_cons, List.sum_cons, sum_add f g l]
    omega
theorem sum_zero {α : Type} : ∀ l : List α, (l.map fun _ => 0).sum = 0
  | [] => rfl
  | a :: l => by rw [List.map_cons, List.sum_cons, sum_zero l]
theorem sum_comm {α β : Type} (f : α → β → Nat) (m : List β) : ∀ l : List α, (l.map fun a => (m.map fun b => f a b).sum).sum = (m.map fun b => (l.map fun a => f a b).sum).sum
  | [] => (sum_zero m).symm
  | a :: l => by
    rw [List.map_cons, List.sum_cons, sum_comm f m l, ← sum_add]
    rfl
/-! ### no plan wins more than the best -/
theorem value_le_reply {A : Abs} (f h : List Nat) (hh : ∀ y, y < A.y → h.getD y 0 < A.b) : A.value f h ≤ A.value f (A.reply f) := by
  rw [reply_value]
  unfold Abs.value
  refine sum_le fun y hy => ?_
  exact most_le (hh y (List.mem_range.mp hy))
theorem fold_best {α : Type} (v : α → Nat) : ∀ (l : List α) (m : α), v m ≤ v (l.foldl (fun m f => if v m < v f then f else m) m) ∧ ∀ f ∈ l, v f ≤ v (l.foldl (fun m f => if v m < v f then f else m) m)
  | [], m => ⟨Nat.le_refl _, fun f hf => by cases hf⟩
  | a :: l, m => by
    rw [List.foldl_cons]
    obtain ⟨h1, h2⟩ := fold_best v l (if v m < v a then a else m)
    have h3 : v m ≤ v (if v m < v a then a else m) ∧ v a ≤ v (if v m < v a then a else m) := by
      by_cases e : v m < v a
      · rw [if_pos e]; exact ⟨Nat.le_of_lt e, Nat.le_refl _⟩
      · rw [if_neg e]; exact ⟨Nat.le_refl _, by omega⟩
    refine ⟨Nat.le_trans h3.1 h1, fun f hf => ?_⟩
    rcases List.mem_cons.mp hf with rfl | hf
    · exact Nat.le_trans h3.2 h1
    · exact h2 f hf
theorem fold_best_mem {α : Type} (v : α → Nat) : ∀ (l : List α) (m : α), l.foldl (fun m f => if v m < v f then f else m) m = m ∨ l.foldl (fun m f => if v m < v f then f else m) m ∈ l
  | [], m => .inl rfl
  | a :: l, m => by
    rw [List.foldl_cons]
    rcases fold_best_mem v l (if v m < v a then a else m) with h | h
    · rw [h]
      by_cases e : v m < v a
      · rw [if_pos e]; exact .inr (List.mem_cons_self ..)
      · rw [if_neg e]; exact .inl rfl
    · exact .inr (List.mem_cons_of_mem _ h)
theorem firsts_ne {A : Abs} (ha : 0 < A.a) : A.firsts ≠ [] := by
  intro e
  have := rows_length A.a A.x
  rw [show rows A.a A.x = [] from e] at this
  have h2 : 0 < A.a ^ A.x := Nat.pow_pos ha
  simp at this
  omega
theorem best_mem {A : Abs} (ha : 0 < A.a) : A.best.1 ∈ A.firsts := by
  show A.firsts.foldl (fun m f => if A.value m (A.reply m) < A.value f (A.reply f) then f else m) (A.firsts.headD []) ∈ A.firsts
  rcases fold_best_mem (fun f => A.value f (A.reply f)) A.firsts (A.firsts.headD []) with h | h
  · rw [h]
    cases e : A.firsts with
    | nil => exact absurd e (firsts_ne ha)
    | cons a l => exact List.mem_cons_self ..
  · exact h
theorem most_ge {A : Abs} {f : List Nat} (hf : f ∈ A.firsts) : A.value f (A.reply f) ≤ A.most_ := (fold_best (fun f => A.value f (A.reply f)) A.firsts (A.firsts.headD [])).2 f hf
theorem most_best {A : Abs} : A.most_ = A.value A.best.1 (A.reply A.best.1) := rfl
theorem seconds_lt {A : Abs} {h : List Nat} (hh : h ∈ A.seconds) {y : Nat} (hy : y < A.y) : h.getD y 0 < A.b := by
  obtain ⟨h1, h2⟩ := mem_rows.mp hh
  have hl : y < h.length := by omega
  have e : h[y]? = some (h.getD y 0) := by simp [List.getD, hl]
  exact h2 _ (List.mem_of_getElem? e)
theorem firsts_lt {A : Abs} {f : List Nat} (hf : f ∈ A.firsts) {x : Nat} (hx : x < A.x) : f.getD x 0 < A.a := by
  obtain ⟨h1, h2⟩ := mem_rows.mp hf
  have hl : x < f.length := by omega
  have e : f[x]? = some (f.getD x 0) := by simp [List.getD, hl]
  exact h2 _ (List.mem_of_getElem? e)
theorem reply_mem {A : Abs} (hb : 0 < A.b) (f : List Nat) : A.reply f ∈ A.seconds := by
  refine mem_rows.mpr ⟨by unfold Abs.reply; simp, fun v hv => ?_⟩
  unfold Abs.reply at hv
  obtain ⟨y, _, rfl⟩ := List.mem_map.mp hv
  exact most_lt hb
/-! ### all is won -/
theorem value_sum (A : Abs) (f h : List Nat) : A.value f h = ((List.range A.x).map fun x => ((List.range A.y).map fun y => if A.won x y (f.getD x 0) (h.getD y 0) = true then A.count x y else 0).sum).sum := by
  unfold Abs.value Abs.gainAt
  exact sum_comm (fun y x => if A.won x y (f.getD x 0) (h.getD y 0) = true then A.count x y else 0) (List.range A.x) (List.range A.y)
theorem value_le_total {A : Abs} (cl : A.counts.length = A.x) (cr : ∀ r ∈ A.counts, r.length = A.y) (f h : List Nat) : A.value f h ≤ A.total := by
  rw [value_sum, total_eq cl cr]
  refine sum_le fun x _ => sum_le fun y _ => ?_
  split <;> omega
theorem value_total_iff {A : Abs} (cl : A.counts.length = A.x) (cr : ∀ r ∈ A.counts, r.length = A.y) (f h : List Nat) : A.value f h = A.total ↔ ∀ x y, x < A.x → y < A.y → A.count x y = 0 ∨ A.won x y (f.getD x 0) (h.getD y 0) = true := by
  rw [value_sum, total_eq cl cr, sum_eq_iff fun x _ => sum_le fun y _ => by split <;> omega]
  constructor
  · intro e x y hx hy
    have h1 := (sum_eq_iff (l := List.range A.y) (f := fun y => if A.won x y (f.getD x 0) (h.getD y 0) = true then A.count x y else 0) (g := fun y => A.count x y) fun y _ => by split <;> omega).mp (e x (List.mem_range.mpr hx)) y (List.mem_range.mpr hy)
    by_cases q : A.won x y (f.getD x 0) (h.getD y 0) = true
    · exact .inr q
    · rw [if_neg q] at h1
      exact .inl h1.symm
  · intro e x hx
    refine (sum_eq_iff fun y _ => by split <;> omega).mpr fun y hy => ?_
    rcases e x y (List.mem_range.mp hx) (List.mem_range.mp hy) with q | q
    · rw [q]; split <;> rfl
    · rw [if_pos q]
theorem mem_pairs {A : Abs} {x y : Nat} : (x, y) ∈ A.pairs ↔ x < A.x ∧ y < A.y ∧ A.count x y ≠ 0 := by
  unfold Abs.pairs
  rw [List.mem_flatMap]
  constructor
  · rintro ⟨x', hx', h⟩
    rw [List.mem_filterMap] at h
    obtain ⟨y', hy', h⟩ := h
    by_cases e : A.count x' y' = 0
    · rw [if_pos e] at h; cases h
    · rw [if_neg e] at h
      injection h with h
      injection h with h1 h2
      subst h1 h2
      exact ⟨List.mem_range.mp hx', List.mem_range.mp hy', e⟩
  · rintro ⟨hx, hy, hc⟩
    refine ⟨x, List.mem_range.mpr hx, ?_⟩
    rw [List.mem_filterMap]
    exact ⟨y, List.mem_range.mpr hy, if_neg hc⟩
theorem wonAll_iff (A : Abs) (l : List (Nat × Nat)) : A.wonAll l = true ↔ ∃ f ∈ A.firsts, ∀ y, y < A.y → ∃ b, b < A.b ∧ ∀ p ∈ l, p.2 = y → A.won p.1 y (f.getD p.1 0) b = true := by
  unfold Abs.wonAll
  rw [List.any_eq_true]
  constructor
  · rintro ⟨f, hf, h⟩
    rw [List.all_eq_true] at h
    refine ⟨f, hf, fun y hy => ?_⟩
    have h1 := h y (List.mem_range.mpr hy)
    rw [List.any_eq_true] at h1
    obtain ⟨b, hb, h2⟩ := h1
    rw [List.all_eq_true] at h2
    refine ⟨b, List.mem_range.mp hb, fun p hp e => ?_⟩
    have h3 := h2 p hp
    rw [Bool.or_eq_true] at h3
    rcases h3 with h3 | h3
    · exact absurd e (by simpa using h3)
    · exact h3
  · rintro ⟨f, hf, h⟩
    refine ⟨f, hf, ?_⟩
    rw [List.all_eq_true]
    intro y hy
    obtain ⟨b, hb, h2⟩ := h y (List.mem_range.mp hy)
    rw [List.any_eq_true]
    refine ⟨b, List.mem_range.mpr hb, ?_⟩
    rw [List.all_eq_true]
    intro p hp
    rw [Bool.or_eq_true]
    by_cases e : p.2 = y
    · exact .inr (h2 p hp e)
    · exact .inl (by simpa using e)
/-- .. by one plan -/
theorem wonAll_plan {A : Abs} {l : List (Nat × Nat)} (hl : ∀ p ∈ l, p.2 < A.y) : A.wonAll l = true ↔ ∃ f ∈ A.firsts, ∃ h ∈ A.seconds, ∀ p ∈ l, A.won p.1 p.2 (f.getD p.1 0) (h.getD p.2 0) = true := by
  rw [wonAll_iff]
  constructor
  · rintro ⟨f, hf, h⟩
    have h' : ∀ y, ∃ b, y < A.y → b < A.b ∧ ∀ p ∈ l, p.2 = y → A.won p.1 y (f.getD p.1 0) b = true := fun y => by
      by_cases hy : y < A.y
      · obtain ⟨b, hb⟩ := h y hy
        exact ⟨b, fun _ => hb⟩
      · exact ⟨0, fun z => absurd z hy⟩
    obtain ⟨g, hg⟩ := Classical.axiomOfChoice h'
    refine ⟨f, hf, (List.range A.y).map g, mem_rows.mpr ⟨by simp, fun v hv => ?_⟩, fun p hp => ?_⟩
    · obtain ⟨y, hy, rfl⟩ := List.mem_map.mp hv
      exact (hg y (List.mem_range.mp hy)).1
    · have e : ((List.range A.y).map g).getD p.2 0 = g p.2 := by simp [List.getD, hl p hp]
      rw [e]
      exact (hg p.2 (hl p hp)).2 p hp rfl
  · rintro ⟨f, hf, h, hh, e⟩
    refine ⟨f, hf, fun y hy => ⟨h.getD y 0, seconds_lt hh hy, fun p hp q => ?_⟩⟩
    rw [← q]
    exact e p hp
theorem pairs_lt {A : Abs} : ∀ p ∈ A.pairs, p.2 < A.y := fun p hp => (mem_pairs.mp (show (p.1, p.2) ∈ A.pairs from hp)).2.1
/-- perfect: just if the best plan wins all that counts -/
theorem perfect_iff {A : Abs} (ha : 0 < A.a) (hb : 0 < A.b) (cl : A.counts.length = A.x) (cr : ∀ r ∈ A.counts, r.length = A.y) : A.wonAll A.pairs = true ↔ A.most_ = A.total := by
  rw [wonAll_plan pairs_lt]
  constructor
  · rintro ⟨f, hf, h, hh, e⟩
    have h1 : A.value f h = A.total := (value_total_iff cl cr f h).mpr fun x y hx hy => by
      by_cases c : A.count x y = 0
      · exact .inl c
      · exact .inr (e (x, y) (mem_pairs.mpr ⟨hx, hy, c⟩))
    have h2 := value_le_reply f h fun y hy => seconds_lt hh hy
    have h3 := most_ge hf
    have h4 : A.most_ ≤ A.total := by rw [most_best]; exact value_le_total cl cr _ _
    omega
  · intro e
    rw [most_best] at e
    refine ⟨A.best.1, best_mem ha, A.reply A.best.1, reply_mem hb _, fun p hp => ?_⟩
    obtain ⟨h1, h2, h3⟩ := mem_pairs.mp (show (p.1, p.2) ∈ A.pairs from hp)
    rcases (value_total_iff cl cr _ _).mp e p.1 p.2 h1 h2 with q | q
    · exact absurd q h3
    · exact q
theorem wonAll_mono {A : Abs} {l m : List (Nat × Nat)} (h : ∀ p ∈ l, p ∈ m) (hm : A.wonAll m = true) : A.wonAll l = true := by
  rw [wonAll_iff] at hm ⊢
  obtain ⟨f, hf, e⟩ := hm
  refine ⟨f, hf, fun y hy => ?_⟩
  obtain ⟨b, hb, e⟩ := e y hy
  exact ⟨b, hb, fun p hp => e p (h p hp)⟩
/-! ### subsets -/
theorem mem_subsets : ∀ (l : List (Nat × Nat)) (n : Nat) (s : List (Nat × Nat)), s ∈ subsets n l ↔ s.Sublist l ∧ s.length = n
  | l, 0, s => by
    unfold subsets
    rw [List.mem_singleton]
    constructor
    · rintro rfl; exact ⟨List.nil_sublist _, rfl⟩
    · rintro ⟨_, h⟩; exact List.eq_nil_of_length_eq_zero h
  | [], n + 1, s => by
    unfold subsets
    constructor
    · intro h; cases h
    · rintro ⟨h1, h2⟩
      rw [List.sublist_nil.mp h1] at h2
      cases h2
  | p :: l, n + 1, s => by
    unfold subsets
    rw [List.mem_append, List.mem_map, mem_subsets l (n + 1) s]
    constructor
    · rintro (⟨t, ht, rfl⟩ | ⟨h1, h2⟩)
      · obtain ⟨h1, h2⟩ := (mem_subsets l n t).mp ht
        exact ⟨h1.cons_cons p, by simp [h2]⟩
      · exact ⟨h1.cons p, h2⟩
    · rintro ⟨h1, h2⟩
      cases h1 with
      | cons _ h => exact .inr ⟨h, h2⟩
      | cons_cons _ h => exact .inl ⟨_, (mem_subsets l n _).mpr ⟨h, by simpa using h2⟩, rfl⟩
theorem core_none_iff {A : Abs} : A.core = none ↔ A.wonAll A.pairs = true := by
  unfold Abs.core
  rw [List.findSome?_eq_none_iff]
  constructor
  · intro h
    have h1 := h A.pairs.length (List.mem_range.mpr (Nat.lt_succ_self _))
    rw [List.find?_eq_none] at h1
    have h2 := h1 A.pairs ((mem_subsets _ _ _).mpr ⟨List.Sublist.refl _, rfl⟩)
    simpa using h2
  · intro h n hn
    rw [List.find?_eq_none]
    intro s hs
    have h1 := ((mem_subsets _ _ _).mp hs).1
    have h2 := wonAll_mono (fun p hp => h1.subset hp) h
    simp [h2]
end Tm

set_option Elab.async false
set_option linter.all false
set_option maxRecDepth 100000
set_option maxHeartbeats 2000000
namespace Ta
open PySem PySem.Spec PyProof.Rows L2
theorem cut_take {l : List Nat} (n : Nat) : cutV (natsV l) none (some (n : Int)) = natsV (l.take n) := by
  unfold cutV
  rw [HT.sIx_none, HT.sIx_nat, natsV_len, List.drop_zero, Nat.sub_zero]
  unfold natsV
  rw [← List.map_take]
  congr 1
  rcases Nat.le_total n l.length with h | h
  · rw [Nat.min_eq_left h]
  · rw [Nat.min_eq_right h, List.take_length, List.take_of_length_le h]
theorem cut_drop {l : List Nat} (n : Nat) : cutV (natsV l) (some (n : Int)) none = natsV (l.drop n) := by
  unfold cutV
  rw [HT.sIx_none, HT.sIx_nat, natsV_len]
  unfold natsV
  rw [← List.map_drop, ← List.map_take]
  congr 1
  rcases Nat.le_total n l.length with h | h
  · rw [Nat.min_eq_left h, List.take_of_length_le (by simp)]
  · rw [Nat.min_eq_right h, List.drop_eq_nil_of_le h, List.drop_length, List.take_nil]
theorem count_cast (t : Nat) : ∀ l : List Nat, (l.map fun (n : Nat) => (n : Int)).count (t : Int) = l.count t
  | [] => rfl
  | a :: l => by
    rw [List.map_cons, List.count_cons, List.count_cons, count_cast t l]
    congr 1
    by_cases e : a = t
    · subst e; simp
    · have : ¬ (a : Int) = (t : Int) := by omega
      simp [e, this]
/-- the best of some rows of the first's, with the reply to it -/
def bstep (A : Su172.Abs) (m f : List Nat) : List Nat := if A.value m (A.reply m) < A.value f (A.reply f) then f else m
def bestOf (A : Su172.Abs) (L : List (List Nat)) : List Nat := L.foldl (bstep A) (L.headD [])
theorem bestOf_one (A : Su172.Abs) (f : List Nat) : bestOf A [f] = f := by
  show bstep A f f = f
  unfold bstep
  rw [if_neg (Nat.lt_irrefl _)]
theorem bestOf_snoc (A : Su172.Abs) (L : List (List Nat)) (f : List Nat) (h : L ≠ []) : bestOf A (L ++ [f]) = bstep A (bestOf A L) f := by
  unfold bestOf
  rw [List.foldl_append]
  cases L with
  | nil => exact absurd rfl h
  | cons a L => rfl
theorem bstep_fold_mem (A : Su172.Abs) (L0 : List (List Nat)) : ∀ (L : List (List Nat)) (m : List Nat), m ∈ L0 → (∀ f ∈ L, f ∈ L0) → L.foldl (bstep A) m ∈ L0
  | [], m, hm, _ => hm
  | f :: L, m, hm, h => by
    rw [List.foldl_cons]
    refine bstep_fold_mem A L0 L _ ?_ fun g hg => h g (List.mem_cons_of_mem _ hg)
    unfold bstep
    by_cases e : A.value m (A.reply m) < A.value f (A.reply f)
    · rw [if_pos e]; exact h f (List.mem_cons_self ..)
    · rw [if_neg e]; exact hm
theorem bestOf_mem (A : Su172.Abs) (L : List (List Nat)) (h : L ≠ []) : bestOf A L ∈ L := by
  unfold bestOf
  cases L with
  | nil => exact absurd rfl h
  | cons a L => exact bstep_fold_mem A (a :: L) (a :: L) a (List.mem_cons_self ..) fun f hf => hf
theorem best_eq (A : Su172.Abs) : A.best = (bestOf A A.firsts, A.reply (bestOf A A.firsts)) := rfl
/-- behind a call that leaves the game as it is -/
def Ro (H : Hp) (a : Su172.Ans) (Q : VK) : Prop := ∀ (H' : Hp) (q : Addr), Same H H' → H q = none → H' q = some (.lst (ansV a)) → Q (.ref q) H'
theorem Did.ro {C : Addr} {H : Hp} {g : Addr} {A : Su172.Abs} {F : Addr → Prop} {z : Su172.Abs × Su172.Ans} {Q : VK} (d : Did C H g F z Q) (e : z.1 = A) (G : GAt C H g A F) : Ro H z.2 Q := by
  obtain ⟨z1, z2⟩ := z
  have e : z1 = A := e
  subst e
  exact fun H' q s nq hq => d.same G s nq hq
theorem count_map {α : Type} (f : α → Nat) (t : Nat) : ∀ l : List α, (l.map f).count t = (l.filter fun p => f p == t).length
  | [] => rfl
  | a :: l => by
    rw [List.map_cons, List.count_cons, List.filter_cons, count_map f t l]
    by_cases e : (f a == t) = true
    · rw [if_pos e, if_pos e, List.length_cons]
    · rw [if_neg e, if_neg e]; rfl
theorem does_replyTo (A : Su172.Abs) (l : List Nat) : (Su172.does A (.replyTo l)).2 = (Su172.does A.swapped (.reply l)).2 := by
  show (if Su172.okRow A.y A.b l = false then (A, Su172.no (-22)) else (A, Su172.num (A.swapped.value l (A.swapped.reply l)) (A.swapped.reply l))).2 = (if Su172.okRow A.y A.b l = false then (A.swapped, Su172.no (-22)) else (A.swapped, Su172.num (A.swapped.value l (A.swapped.reply l)) (A.swapped.reply l))).2
  split <;> rfl
section
variable {P : Program} {w : World} {K : PySem.W.Frag} {mg : Str → Option Value} {base : Heap} {C : Addr}
/-! ### value -/
def spMValue (K : PySem.W.Frag) (C : Addr) : Sp := fun vs H Q _ => ∃ (g r : Addr) (A : Su172.Abs) (F : Addr → Prop) (l : List Nat), vs = [.ref g, .ref r] ∧ GAt C H g A F ∧ SqL K H r (natsV l) ∧ l.length < sizeLine ∧ Ro H (Su172.does A (.value l)).2 Q
abbrev sMValue : Stmt := inClass (top 34) 14
/-- slots: 0:self 1:row 2:first_row 3:second_row 4:won 5:y -/
theorem scMValue : FnScope ["self", "row", "first_row", "second_row", "won", "y"] ["self", "row"] (defScope sMValue) := ⟨rfl, rfl, rfl, by decide +kernel, rfl, by decide +kernel, by decide +kernel⟩
theorem ok_mvalue {f : Addr} {fd : FuncData} (F : Fun K "value" "Game.value" sMValue f fd) (B : Blt mg) (G : GCls K C) (T : Cst mg) (c_is_row : Cal P w K mg base 1 "is_row" ["row", "questions", "choices"] (spIsRow K))
    (m_gain : MCal P w K mg base C 1 "gain" ["self", "first_row", "y"] (spGain K C)) (m_total_weight : MCal P w K mg base C 1 "total_weight" ["self"] (spTotal C)) : FnOk P w K mg base CX0 2 f fd ["self", "row"] (spMValue K C) := by
  refine F.ok scMValue (fun vs H Q E h => ?_) (fun cdv A outer s H vs Q E hr h => ?_)
  · obtain ⟨g, r, A, F, l, rfl, _⟩ := h
    rfl
  · obtain ⟨g, r, A, F, l, rfl, gat, hl, hz, k⟩ := h
    obtain ⟨wd, td, gm, hf⟩ := id gat
    obtain ⟨dx, hi⟩ := gm.ins
    have wf := gm.wf
    refine ⟨_, (pss_cons (ps_set (i := 2) scMValue.nd rfl (Or.inr rfl) (pe_slice sl_list (pv 1) po_none (po_some (pe_fld (pv 0) rfl))))
      (pss_cons (ps_set (i := 3) scMValue.nd rfl (Or.inr rfl) (pe_slice sl_list (pv 1) (po_some (pe_fld (pv 0) rfl)) po_none))
      (pss_cons (ps_if (pt_not (pt_val (pe_fn c_is_row (hr.mono (by decide)) (pa_cons (pv 2) (pa_cons (pe_fld (pv 0) rfl) (pa_cons (pe_fld (pv 0) rfl) pa_nil))))))
        (pss_one (ps_ret (pe_lst (pa_cons (pe_gi T.NOT_AS_TOLD) pa_nil)))) pss_nil)
      (pss_cons (ps_if (pt_not (pt_val (pe_fn c_is_row (hr.mono (by decide)) (pa_cons (pv 3) (pa_cons (pe_fld (pv 0) rfl) (pa_cons (pe_fld (pv 0) rfl) pa_nil))))))
        (pss_one (ps_ret (pe_lst (pa_cons (pe_gi T.NOT_AS_TOLD) pa_nil)))) pss_nil)
      (pss_cons (ps_setLc (i := 4) (te := tOp (rIxL K) (tMeth C "gain" (spGain K C) [] E0 (tVar 0) (tCons (tVar 2) (tCons (tVar 5) tNil))) (tOp (rIxL K) (tVar 3) (tVar 5))) rfl scMValue.nd rfl rfl (sw_true rfl rfl rfl rfl) (pi_range1 rfl B.range (pa_cons (pe_fld (pv 0) rfl) pa_nil)) (own := [("y", 5)]) (blkOk_by rfl) (fun _ _ _ _ _ => pg_name (i := 5) scMValue.nd rfl (Or.inl rfl)) (fun _ _ _ _ _ => pts_nil)
        (fun _ _ _ _ _ => (pe_ix ix_list (pe_me m_gain (pv 0) (hr.mono (by decide)) (pa_cons (pv 2) (pa_cons (pv 5) pa_nil))) (pe_ix ix_list (pv 3) (pv 5) (fun _ _ => rfl)) (fun _ _ => rfl))))
      (pss_one (ps_ret (pe_lst (pa_cons (pe_callB (cr_sum (by rfl)) (by rfl) B.sum PyProof.Rows.boot_sum (pa_cons (pv 4) pa_nil)) (pa_cons (pe_me0 m_total_weight (pv 0) (hr.mono (by decide))) pa_nil)))))))))), ?_⟩
    refine ⟨_, rfl, _, rfl, g, C, dx, _, _, rfl, hi, G.cl, G.nx, gf_x _ _ _ _ _ _, _, rfl, r, _, rfl, hl, fun p1 n1 => ?_⟩
    rw [cut_take]
    have s1 : Same H (upd H p1 (.lst (natsV (l.take A.x)))) := .new n1
    refine ⟨_, rfl, _, rfl, g, C, dx, _, _, rfl, s1 _ _ hi, G.cl, G.nx, gf_x _ _ _ _ _ _, _, rfl, r, _, rfl, s1.seq hl, fun p2 n2 => ?_⟩
    rw [cut_drop]
    have s2 : Same H (upd (upd H p1 (.lst (natsV (l.take A.x)))) p2 (.lst (natsV (l.drop A.x)))) := s1.upd_new n2
    have h1 : (upd (upd H p1 (.lst (natsV (l.take A.x)))) p2 (.lst (natsV (l.drop A.x)))) p1 = some (.lst (natsV (l.take A.x))) := by
      rw [upd_ne (ne_of_none upd_same n2), upd_same]
    have h2 : (upd (upd H p1 (.lst (natsV (l.take A.x)))) p2 (.lst (natsV (l.drop A.x)))) p2 = some (.lst (natsV (l.drop A.x))) := upd_same
    generalize upd (upd H p1 (.lst (natsV (l.take A.x)))) p2 (.lst (natsV (l.drop A.x))) = H2 at s2 h1 h2
    have no22 : ∀ H' : Hp, Same H H' → (l.length ≠ A.x + A.y ∨ Su172.okRow A.x A.a (l.take A.x) = false ∨ Su172.okRow A.y A.b (l.drop A.x) = false) → ∀ σ, tLst (tCons (tC (.int (-22))) tNil) σ H' Q := fun H' s h σ => by
      refine ⟨by show 1 ≤ sizeLine; decide, fun q hq => ?_⟩
      have e : Su172.does A (.value l) = (A, Su172.no (-22)) := if_pos h
      rw [e] at k
      exact k _ q (s.upd_new hq) (s.free hq) upd_same
    refine ⟨_, rfl, _, rfl, g, C, dx, _, _, rfl, s2 _ _ hi, G.cl, G.nx, gf_x _ _ _ _ _ _, _, rfl, g, C, dx, _, _, rfl, s2 _ _ hi, G.cl, G.na, gf_a _ _ _ _ _ _, p1, _, A.x, A.a, rfl, SqL.of h1, by rw [List.length_take]; omega, fun H3 s3 => ⟨_, rfl, ?_⟩⟩
    refine ite2 (fun hc => ?_) fun hc => ?_
    · refine no22 H3 (s2.trans s3) (.inr (.inl ?_)) _
      rw [Bool.not_eq_true'] at hc
      exact hc
    rw [Bool.not_eq_true', Bool.not_eq_false] at hc
    refine ⟨_, rfl, _, rfl, g, C, dx, _, _, rfl, s3 _ _ (s2 _ _ hi), G.cl, G.ny, gf_y _ _ _ _ _ _, _, rfl, g, C, dx, _, _, rfl, s3 _ _ (s2 _ _ hi), G.cl, G.nb, gf_b _ _ _ _ _ _, p2, _, A.y, A.b, rfl, SqL.of (s3 _ _ h2), by rw [List.length_drop]; omega, fun H4 s4 => ⟨_, rfl, ?_⟩⟩
    refine ite2 (fun hc2 => ?_) fun hc2 => ?_
    · refine no22 H4 ((s2.trans s3).trans s4) (.inr (.inr ?_)) _
      rw [Bool.not_eq_true'] at hc2
      exact hc2
    rw [Bool.not_eq_true', Bool.not_eq_false] at hc2
    have hlen : l.length = A.x + A.y := by
      have e1 := Tm.okRow_len hc
      have e2 := Tm.okRow_len hc2
      rw [List.length_take] at e1
      rw [List.length_drop] at e2
      omega
    have e : Su172.does A (.value l) = (A, Su172.num (A.value (l.take A.x) (l.drop A.x)) [A.total]) := if_neg (by
      rintro (z | z | z)
      · exact z hlen
      · rw [hc] at z; cases z
      · rw [hc2] at z; cases z)
    rw [e] at k
    have s5 : Same H H4 := (s2.trans s3).trans s4
    have s6 : Same H2 H4 := s3.trans s4
    refine ⟨_, rfl, g, C, dx, _, _, rfl, s5 _ _ hi, G.cl, G.ny, gf_y _ _ _ _ _ _, A.y, rfl, by have := wf.y1; omega, by have := wf.y1; omega, fun D hD => ?_⟩
    refine lc_range0 (n := A.y) hD (by rw [sizeLine_eq]; have := wf.y1; omega) (fun i y H' => y = .int (A.gainAt (l.take A.x) i ((l.drop A.x).getD i 0) : Nat)) (fun _ _ _ _ _ h => h) ?_ ?_
    · intro i H5 Q' hi5 s7 ⟨zs, hzs⟩ k'
      obtain ⟨e1, e2⟩ := Tm.okRow_get hc2 hi5
      refine ⟨_, rfl, g, dx, _, rfl, s7 _ _ (s5 _ _ hi), gf_no (by decide +kernel), _, rfl, _, rfl, g, p1, A, F, _, i, rfl, gat.same (s5.trans s7), SqL.of (s7 _ _ (s6 _ _ h1)), hc, hi5, fun H6 q s8 nq hq => ?_⟩
      exact ⟨_, rfl, _, rfl, p2, _, _, _, rfl, rfl, SqL.of (s8 _ _ (s7 _ _ (s6 _ _ h2))), atI_nat (natsV_get e1), q, _, _, _, rfl, rfl, SqL.of hq, atI_nat (natsV_get (by rw [List.getElem?_map, List.getElem?_range e2]; rfl)), k' _ _ s8 rfl⟩
    · intro H5 ys s7 hD5 hlen5 hR
      have ey : ys = ((List.range A.y).map fun y => A.gainAt (l.take A.x) y ((l.drop A.x).getD y 0)).map fun (n : Nat) => V.int (n : Int) := by
        rw [List.map_map]
        exact items_eq hlen5 hR
      refine ⟨_, rfl, D, (((List.range A.y).map fun y => A.gainAt (l.take A.x) y ((l.drop A.x).getD y 0)).map fun (n : Nat) => (n : Int)), rfl, SqL.of (by rw [hD5, ey]; exact congrArg (fun z => some (HO.lst z)) (natsV_ints _)), ?_⟩
      rw [sum_cast]
      refine ⟨_, rfl, g, dx, _, rfl, s7 _ _ (s5 _ _ hi), gf_no (by decide +kernel), g, A, F, rfl, gat.same (s5.trans s7), fun H6 s8 => ⟨by show 2 ≤ sizeLine; decide, fun q hq => ?_⟩⟩
      have s9 := (s5.trans s7).trans s8
      exact k _ q (s9.upd_new hq) (s9.free hq) (by rw [upd_same]; rfl)
/-! ### reply, replyto -/
def spMReply (K : PySem.W.Frag) (C : Addr) : Sp := fun vs H Q _ => ∃ (g r : Addr) (A : Su172.Abs) (F : Addr → Prop) (l : List Nat), vs = [.ref g, .ref r] ∧ GAt C H g A F ∧ SqL K H r (natsV l) ∧ l.length < sizeLine ∧ Ro H (Su172.does A (.reply l)).2 Q
def spMReplyTo (K : PySem.W.Frag) (C : Addr) : Sp := fun vs H Q _ => ∃ (g r : Addr) (A : Su172.Abs) (F : Addr → Prop) (l : List Nat), vs = [.ref g, .ref r] ∧ GAt C H g A F ∧ SqL K H r (natsV l) ∧ l.length < sizeLine ∧ Ro H (Su172.does A (.replyTo l)).2 Q
abbrev sMReply : Stmt := inClass (top 34) 16
/-- slots: 0:self 1:row -/
theorem scMReply : FnScope ["self", "row"] ["self", "row"] (defScope sMReply) := ⟨rfl, rfl, rfl, by decide +kernel, rfl, by decide +kernel, by decide +kernel⟩
theorem ok_mreply {f : Addr} {fd : FuncData} (F : Fun K "reply" "Game.reply" sMReply f fd) (G : GCls K C) (T : Cst mg) (c_is_row : Cal P w K mg base 1 "is_row" ["row", "questions", "choices"] (spIsRow K))
    (m_gains : MCal P w K mg base C 2 "gains" ["self", "first_row"] (spGains K C)) (c_best_reply : Cal P w K mg base 1 "best_reply" ["gains"] spReply) : FnOk P w K mg base CX0 3 f fd ["self", "row"] (spMReply K C) := by
  refine F.ok scMReply (fun vs H Q E h => ?_) (fun cdv A outer s H vs Q E hr h => ?_)
  · obtain ⟨g, r, A, F, l, rfl, _⟩ := h
    rfl
  · obtain ⟨g, r, A, F, l, rfl, gat, hl, hz, k⟩ := h
    obtain ⟨wd, td, gm, hf⟩ := id gat
    obtain ⟨dx, hi⟩ := gm.ins
    have wf := gm.wf
    refine ⟨_, (pss_cons (ps_if (pt_not (pt_val (pe_fn c_is_row (hr.mono (by decide)) (pa_cons (pv 1) (pa_cons (pe_fld (pv 0) rfl) (pa_cons (pe_fld (pv 0) rfl) pa_nil))))))
        (pss_one (ps_ret (pe_lst (pa_cons (pe_gi T.NOT_AS_TOLD) pa_nil)))) pss_nil)
      (pss_one (ps_ret (pe_fn c_best_reply (hr.mono (by decide)) (pa_cons (pe_me m_gains (pv 0) (hr.mono (by decide)) (pa_cons (pv 1) pa_nil)) pa_nil))))), ?_⟩
    refine ⟨_, rfl, _, rfl, g, C, dx, _, _, rfl, hi, G.cl, G.nx, gf_x _ _ _ _ _ _, _, rfl, g, C, dx, _, _, rfl, hi, G.cl, G.na, gf_a _ _ _ _ _ _, r, l, A.x, A.a, rfl, hl, hz, fun H3 s3 => ⟨_, rfl, ?_⟩⟩
    refine ite2 (fun hc => ?_) fun hc => ?_
    · rw [Bool.not_eq_true'] at hc
      refine ⟨by show 1 ≤ sizeLine; decide, fun q hq => ?_⟩
      have e : Su172.does A (.reply l) = (A, Su172.no (-22)) := if_pos hc
      rw [e] at k
      exact k _ q (s3.upd_new hq) (s3.free hq) upd_same
    rw [Bool.not_eq_true', Bool.not_eq_false] at hc
    have e : Su172.does A (.reply l) = (A, Su172.num (A.value l (A.reply l)) (A.reply l)) := if_neg (by rw [hc]; decide)
    rw [e] at k
    refine ⟨_, rfl, g, dx, _, rfl, s3 _ _ hi, gf_no (by decide +kernel), _, rfl, g, r, A, F, l, rfl, gat.same s3, s3.seq hl, hc, fun H4 p s4 np L4 => ?_⟩
    refine ⟨p, Tm.gains A l, rfl, L4, gains_pos wf l, by rw [gains_len]; have := wf.y1; omega, fun H5 q s5 nq hq => ?_⟩
    rw [Tm.gains_topN, Tm.gains_topV wf.b0] at hq
    exact k _ q ((s3.trans s4).trans s5) ((s3.trans s4).free nq) hq
abbrev sMReplyTo : Stmt := inClass (top 34) 17
/-- slots: 0:self 1:row -/
theorem scMReplyTo : FnScope ["self", "row"] ["self", "row"] (defScope sMReplyTo) := ⟨rfl, rfl, rfl, by decide +kernel, rfl, by decide +kernel, by decide +kernel⟩
theorem ok_mreplyto {f : Addr} {fd : FuncData} (F : Fun K "replyto" "Game.replyto" sMReplyTo f fd) (G : GCls K C) (m_exchanged : MCal P w K mg base C 3 "exchanged" ["self"] (spExch C)) (m_reply : MCal P w K mg base C 3 "reply" ["self", "row"] (spMReply K C)) :
    FnOk P w K mg base CX0 4 f fd ["self", "row"] (spMReplyTo K C) := by
  refine F.ok scMReplyTo (fun vs H Q E h => ?_) (fun cdv A outer s H vs Q E hr h => ?_)
  · obtain ⟨g, r, A, F, l, rfl, _⟩ := h
    rfl
  · obtain ⟨g, r, A, F, l, rfl, gat, hl, hz, k⟩ := h
    obtain ⟨wd, td, gm, hf⟩ := id gat
    obtain ⟨dx, hi⟩ := gm.ins
    refine ⟨_, (pss_one (ps_ret (pe_me m_reply (pe_me0 m_exchanged (pv 0) (hr.mono (by decide))) (hr.mono (by decide)) (pa_cons (pv 1) pa_nil)))), ?_⟩
    refine ⟨_, rfl, g, dx, _, rfl, hi, gf_no (by decide +kernel), g, A, F, rfl, gat, fun H1 o F1 s1 G1 new1 => ?_⟩
    obtain ⟨ow, ot, gm1, hf1⟩ := id G1
    obtain ⟨do_, hio⟩ := gm1.ins
    refine ⟨o, do_, _, rfl, hio, gf_no (by decide +kernel), _, rfl, o, r, A.swapped, F1, l, rfl, G1, s1.seq hl, hz, fun H2 q s2 nq hq => ?_⟩
    rw [does_replyTo] at k
    exact k _ q (s1.trans s2) (s1.free nq) hq
/-! ### best -/
def spMBest (C : Addr) : Sp := fun vs H Q _ => ∃ (g : Addr) (A : Su172.Abs) (F : Addr → Prop), vs = [.ref g] ∧ GAt C H g A F ∧ Ro H (Su172.num A.most_ (A.total :: A.best.1 ++ A.best.2)) Q
abbrev sMBest : Stmt := inClass (top 34) 15
/-- slots: 0:self 1:most 2:plan 3:first_row 4:replied -/
theorem scMBest : FnScope ["self", "most", "plan", "first_row", "replied"] ["self"] (defScope sMBest) := ⟨rfl, rfl, rfl, by decide +kernel, rfl, by decide +kernel, by decide +kernel⟩
theorem ok_mbest {f : Addr} {fd : FuncData} (F : Fun K "best" "Game.best" sMBest f fd) (G : GCls K C) (m_first_rows : MCal P w K mg base C 2 "first_rows" ["self"] (spFirsts C)) (c_best_reply : Cal P w K mg base 1 "best_reply" ["gains"] spReply)
    (m_gains : MCal P w K mg base C 2 "gains" ["self", "first_row"] (spGains K C)) (m_total_weight : MCal P w K mg base C 1 "total_weight" ["self"] (spTotal C)) : FnOk P w K mg base CX0 3 f fd ["self"] (spMBest C) := by
  refine F.ok scMBest (fun vs H Q E h => ?_) (fun cdv A outer s H vs Q E hr h => ?_)
  · obtain ⟨g, A, F, rfl, _⟩ := h
    rfl
  · obtain ⟨g, A, F, rfl, gat, k⟩ := h
    obtain ⟨wd, td, gm, hf⟩ := id gat
    obtain ⟨dx, hi⟩ := gm.ins
    have wf := gm.wf
    refine ⟨_, (pss_cons (ps_set (i := 1) scMBest.nd rfl (Or.inl rfl) (pe_un un_neg pe_int))
      (pss_cons (ps_set (i := 2) scMBest.nd rfl (Or.inl rfl) (pe_lst pa_nil))
      (pss_cons (ps_for PassesOwn.never rfl (pi_list (pe_me0 m_first_rows (pv 0) (hr.mono (by decide)))) (pg_name (i := 3) scMBest.nd rfl (Or.inl rfl))
        (pss_cons (ps_set (i := 4) scMBest.nd rfl (Or.inl rfl) (pe_fn c_best_reply (hr.mono (by decide)) (pa_cons (pe_me m_gains (pv 0) (hr.mono (by decide)) (pa_cons (pv 3) pa_nil)) pa_nil)))
        (pss_one (ps_if (pt_cmpR op_gt (pe_ix ix_list (pv 4) pe_int (fun _ _ => rfl)) (pv 1) (nomark _))
          (pss_cons (ps_set (i := 1) scMBest.nd rfl (Or.inl rfl) (pe_ix ix_list (pv 4) pe_int (fun _ _ => rfl)))
          (pss_one (ps_set (i := 2) scMBest.nd rfl (Or.inl rfl) (pe_op op_cat (pv 3) (pe_slice sl_list (pv 4) (po_some pe_int) po_none))))) pss_nil))))
      (pss_one (ps_ret (pe_op op_cat (pe_lst (pa_cons (pv 1) (pa_cons (pe_me0 m_total_weight (pv 0) (hr.mono (by decide))) pa_nil))) (pv 2))))))), ?_⟩
    refine ⟨1, rfl, ⟨Nat.zero_le _, fun pl npl => ?_⟩⟩
    have s0 : Same H (upd H pl (.lst [])) := .new npl
    refine ⟨_, rfl, g, dx, _, rfl, s0 _ _ hi, gf_no (by decide +kernel), g, A, F, rfl, gat.same s0, fun H1 p s1 np ⟨rs, L1⟩ => ?_⟩
    have sA : Same H H1 := s0.trans s1
    refine ⟨p, rfl, ⟨_, SqL.of L1.lst⟩, for_list (K := K) (a := p) (xs := rs.map V.ref) (fun i σ H' => ∃ (m : Int) (pl : Addr) (v3 v4 : Option V), σ = [some (.ref g), some (.int m), some (.ref pl), v3, v4] ∧ Same H1 H' ∧ (i = 0 → m = -1) ∧
      (0 < i → ∃ b, b = bestOf A ((A.firsts).take i) ∧ m = (A.value b (A.reply b) : Nat) ∧ H' pl = some (.lst (natsV (b ++ A.reply b))))) ⟨-1, pl, none, none, rfl, .refl _, fun _ => rfl, fun z => absurd z (Nat.lt_irrefl _)⟩ (fun i σ H' _ ⟨_, _, _, _, _, s2, _⟩ => SqL.of (s2 _ _ L1.lst)) ?_ ?_⟩
    · rintro i y σ H2 hy ⟨m, pl, v3, v4, rfl, s2, c0, c1⟩
      obtain ⟨r, l, hr', rfl, hl, hrl⟩ := L1.at hy
      have hok := rows_ok (List.mem_of_getElem? hl)
      refine ⟨_, rfl, g, dx, _, rfl, s2 _ _ (sA _ _ hi), gf_no (by decide +kernel), _, rfl, g, r, A, F, l, rfl, gat.same (sA.trans s2), SqL.of (s2 _ _ hrl), hok, fun H3 p3 s3 np3 L3 => ?_⟩
      refine ⟨p3, Tm.gains A l, rfl, L3, gains_pos wf l, by rw [gains_len]; have := wf.y1; omega, fun H4 q s4 nq hq => ?_⟩
      rw [Tm.gains_topN, Tm.gains_topV wf.b0] at hq
      have s5 : Same H2 H4 := s3.trans s4
      have q0 : atI (natsV (A.value l (A.reply l) :: A.reply l)) 0 = some (.int (A.value l (A.reply l) : Nat)) := at_of (j := 0) rfl rfl
      refine ⟨_, rfl, q, _, _, _, rfl, rfl, SqL.of hq, q0, _, rfl, _, _, rfl, rfl, _, rfl, ?_⟩
      have hnew : (0 < i → ¬ (A.value (bestOf A ((A.firsts).take i)) (A.reply (bestOf A ((A.firsts).take i))) < A.value l (A.reply l))) → i = 0 ∨ (bestOf A ((A.firsts).take (i + 1)) = bestOf A ((A.firsts).take i) ∧ 0 < i) := fun z => by
        rcases Nat.eq_zero_or_pos i with e | e
        · exact .inl e
        · refine .inr ⟨?_, e⟩
          rw [take_snoc hl, bestOf_snoc]
          · unfold bstep
            rw [if_neg (z e)]
          · intro q
            have := congrArg List.length q
            rw [List.length_take] at this
            have h2 := (List.getElem?_eq_some_iff.mp hl).1
            rw [List.length_nil] at this
            omega
      refine ite2 (fun hc => ?_) fun hc => ?_
      · refine ⟨_, rfl, q, _, _, _, rfl, rfl, SqL.of hq, q0, ?_⟩
        refine ⟨_, rfl, _, rfl, 1, rfl, q, _, rfl, SqL.of hq, fun u hu => ?_⟩
        have ecut : cutV (natsV (A.value l (A.reply l) :: A.reply l)) (some 1) none = natsV (A.reply l) := cut_drop (l := A.value l (A.reply l) :: A.reply l) 1
        rw [ecut]
        refine ⟨r, u, _, _, rfl, rfl, Same.new hu _ _ (s5 _ _ (s2 _ _ hrl)), upd_same, ?_, fun z hz => ?_⟩
        · rw [natsV_len, natsV_len, Tm.okRow_len hok, sizeLine_eq]
          have : (A.reply l).length = A.y := by unfold Su172.Abs.reply; simp
          have := wf.x1
          have := wf.y1
          omega
        · refine ⟨_, z, _, _, rfl, s2.trans ((s5.upd_new hu).upd_new hz), fun e => absurd e (Nat.succ_ne_zero i), fun _ => ⟨l, ?_, rfl, ?_⟩⟩
          · rcases Nat.eq_zero_or_pos i with e | e
            · subst e
              rw [take_snoc hl]
              exact (bestOf_one A l).symm
            · obtain ⟨b, hb, hm, _⟩ := c1 e
              rw [take_snoc hl, bestOf_snoc]
              · unfold bstep
                rw [if_pos]
                rw [← hb]
                have := of_decide_eq_true hc
                omega
              · intro q
                have := congrArg List.length q
                rw [List.length_take] at this
                have h2 := (List.getElem?_eq_some_iff.mp hl).1
                rw [List.length_nil] at this
                omega
          · rw [upd_same, natsV_append]
      · have hcf : ¬ (m < ((A.value l (A.reply l) : Nat) : Int)) := fun z => hc (decide_eq_true z)
        have hi0 : 0 < i := by
          rcases Nat.eq_zero_or_pos i with e | e
          · have := c0 e
            omega
          · exact e
        obtain ⟨b, hb, hm, hpl⟩ := c1 hi0
        refine ⟨m, pl, _, _, rfl, s2.trans s5, fun e => absurd e (Nat.succ_ne_zero i), fun _ => ⟨b, ?_, hm, s5 _ _ hpl⟩⟩
        rcases hnew (fun _ z => hcf (by rw [← hb] at z; omega)) with e | ⟨e, _⟩
        · omega
        · rw [e]; exact hb
    · rintro σ H2 ⟨m, pl, v3, v4, rfl, s2, c0, c1⟩
      have hlen : 0 < (rs.map V.ref).length := by
        rw [List.length_map, L1.len, show A.firsts.length = _ from Tm.rows_length _ _]
        exact Nat.pow_pos (by have := wf.a0; omega)
      obtain ⟨b, hb, hm, hpl⟩ := c1 hlen
      rw [List.length_map, L1.len, List.take_length] at hb
      have sB : Same H H2 := sA.trans s2
      refine ⟨_, rfl, _, rfl, g, dx, _, rfl, sB _ _ hi, gf_no (by decide +kernel), g, A, F, rfl, gat.same sB, fun H3 s3 => ⟨by show 2 ≤ sizeLine; decide, fun u hu => ?_⟩⟩
      have hb2 : b.length = A.x ∧ (A.reply b).length = A.y := by
        refine ⟨?_, by unfold Su172.Abs.reply; simp⟩
        have hm : b ∈ A.firsts := by
          rw [hb]
          exact bestOf_mem A _ (by
            intro e
            rw [List.length_map, L1.len, e] at hlen
            exact absurd hlen (Nat.lt_irrefl _))
        exact (Tm.mem_rows.mp hm).1
      refine ⟨_, rfl, u, pl, _, _, rfl, rfl, upd_same, Same.new hu _ _ (s3 _ _ hpl), ?_, fun q hq => ?_⟩
      · rw [natsV_len, List.length_append, hb2.1, hb2.2, sizeLine_eq]
        have := wf.x1
        have := wf.y1
        show 2 + _ ≤ _
        omega
      · have s4 := ((sB.trans s3).upd_new (o := .lst [.int m, .int (A.total : Nat)]) hu)
        refine k _ q (s4.upd_new hq) (s4.free hq) ?_
        rw [upd_same, hm]
        show _ = some (HO.lst (.int (A.most_ : Nat) :: natsV (A.total :: A.best.1 ++ A.best.2)))
        have e1 : A.most_ = A.value b (A.reply b) := by
          unfold Su172.Abs.most_
          rw [best_eq, ← hb]
        rw [e1, best_eq, ← hb]
        rfl
/-! ### plans, perfect -/
def spMPlans (C : Addr) : Sp := fun vs H Q _ => ∃ (g : Addr) (A : Su172.Abs) (F : Addr → Prop) (t : Nat), vs = [.ref g, .int t] ∧ GAt C H g A F ∧ Ro H (Su172.does A (.plans t)).2 Q
abbrev sMPlans : Stmt := inClass (top 34) 18
/-- slots: 0:self 1:t 2:totals -/
theorem scMPlans : FnScope ["self", "t", "totals"] ["self", "t"] (defScope sMPlans) := ⟨rfl, rfl, rfl, by decide +kernel, rfl, by decide +kernel, by decide +kernel⟩
theorem ok_mplans {f : Addr} {fd : FuncData} (F : Fun K "plans" "Game.plans" sMPlans f fd) (B : Blt mg) (G : GCls K C) (m_what_plans_win : MCal P w K mg base C 3 "what_plans_win" ["self"] (spPlansWin C)) : FnOk P w K mg base CX0 4 f fd ["self", "t"] (spMPlans C) := by
  refine F.ok scMPlans (fun vs H Q E h => ?_) (fun cdv A outer s H vs Q E hr h => ?_)
  · obtain ⟨g, A, F, t, rfl, _⟩ := h
    rfl
  · obtain ⟨g, A, F, t, rfl, gat, k⟩ := h
    obtain ⟨wd, td, gm, hf⟩ := id gat
    obtain ⟨dx, hi⟩ := gm.ins
    refine ⟨_, (pss_cons (ps_set (i := 2) scMPlans.nd rfl (Or.inl rfl) (pe_me0 m_what_plans_win (pv 0) (hr.mono (by decide))))
      (pss_one (ps_ret (pe_lst (pa_cons (pe_bm PySem.F.plainAttrs_list PySem.F.slot_list_count PySem.F.type_list_count mt_countI (pv 2) (pa_cons (pv 1) pa_nil)) (pa_cons (pe_callB call_len_seq (by rfl) B.len PySem.boot_len (pa_cons (pv 2) pa_nil)) pa_nil)))))), ?_⟩
    refine ⟨_, rfl, g, dx, _, rfl, hi, gf_no (by decide +kernel), g, A, F, rfl, gat, fun H1 p s1 np hp => ?_⟩
    refine ⟨_, rfl, .inl ⟨rfl, _, SqL.of hp⟩, _, rfl, p, _, _, rfl, rfl, SqL.of (by rw [hp, natsV_ints]), ?_⟩
    refine ⟨_, rfl, p, _, rfl, .inl (SqL.of hp), by show 2 ≤ sizeLine; decide, fun q hq => ?_⟩
    refine k _ q (s1.upd_new hq) (s1.free hq) ?_
    rw [upd_same, count_cast, natsV_len, winsAll_eq, count_map, List.length_map]
    rfl
def spMPerfect (C : Addr) : Sp := fun vs H Q _ => ∃ (g : Addr) (A : Su172.Abs) (F : Addr → Prop), vs = [.ref g] ∧ GAt C H g A F ∧ Ro H (Su172.does A .perfect).2 Q
abbrev sMPerfect : Stmt := inClass (top 34) 20
/-- slots: 0:self -/
theorem scMPerfect : FnScope ["self"] ["self"] (defScope sMPerfect) := ⟨rfl, rfl, rfl, by decide +kernel, rfl, by decide +kernel, by decide +kernel⟩
theorem ok_mperfect {f : Addr} {fd : FuncData} (F : Fun K "perfect" "Game.perfect" sMPerfect f fd) (G : GCls K C) (m_best : MCal P w K mg base C 3 "best" ["self"] (spMBest C)) (m_total_weight : MCal P w K mg base C 1 "total_weight" ["self"] (spTotal C)) :
    FnOk P w K mg base CX0 4 f fd ["self"] (spMPerfect C) := by
  refine F.ok scMPerfect (fun vs H Q E h => ?_) (fun cdv A outer s H vs Q E hr h => ?_)
  · obtain ⟨g, A, F, rfl, _⟩ := h
    rfl
  · obtain ⟨g, A, F, rfl, gat, k⟩ := h
    obtain ⟨wd, td, gm, hf⟩ := id gat
    obtain ⟨dx, hi⟩ := gm.ins
    have wf := gm.wf
    refine ⟨_, (pss_one (ps_ret (pe_lst (pa_cons (pe_ifExp (pt_cmpR op_eq (pe_ix ix_list (pe_me0 m_best (pv 0) (hr.mono (by decide))) pe_int (fun _ _ => rfl)) (pe_me0 m_total_weight (pv 0) (hr.mono (by decide))) (nomark _)) pe_int pe_int) pa_nil)))), ?_⟩
    have hp := Tm.perfect_iff wf.a0 wf.b0 wf.cl wf.cr
    refine ⟨_, rfl, g, dx, _, rfl, hi, gf_no (by decide +kernel), g, A, F, rfl, gat, fun H1 p s1 np hp1 => ?_⟩
    refine ⟨p, _, _, _, rfl, rfl, SqL.of hp1, at_of (j := 0) rfl rfl, ?_⟩
    refine ⟨_, rfl, g, dx, _, rfl, s1 _ _ hi, gf_no (by decide +kernel), g, A, F, rfl, gat.same s1, fun H2 s2 => ⟨rfl, _, rfl, ?_⟩⟩
    refine ite2 (fun hc => ?_) fun hc => ?_
    · refine ⟨by show 1 ≤ sizeLine; decide, fun q hq => ?_⟩
      have e1 : A.most_ = A.total := by
        have := of_decide_eq_true hc
        injection this with this
        exact Int.ofNat.inj this
      refine k _ q ((s1.trans s2).upd_new hq) ((s1.trans s2).free hq) ?_
      rw [upd_same]
      show _ = some (HO.lst (ansV (Su172.num (Su172.bit (A.wonAll A.pairs)) [])))
      rw [hp.mpr e1]
      rfl
    · refine ⟨by show 1 ≤ sizeLine; decide, fun q hq => ?_⟩
      have e1 : ¬ A.most_ = A.total := fun z => hc (decide_eq_true (by show V.int (A.most_ : Nat) = V.int (A.total : Nat); rw [z]))
      refine k _ q ((s1.trans s2).upd_new hq) ((s1.trans s2).free hq) ?_
      rw [upd_same]
      show _ = some (HO.lst (ansV (Su172.num (Su172.bit (A.wonAll A.pairs)) [])))
      have : A.wonAll A.pairs = false := by
        cases z : A.wonAll A.pairs with
        | false => rfl
        | true => exact absurd (hp.mp z) e1
      rw [this]
      rfl
end
end Ta

set_option Elab.async false
set_option linter.all false
set_option maxRecDepth 100000
/-! What is won if the second hears the question, or a word; the plans by their places. -/
namespace Tm
open Su172
theorem foldmax_acc : ∀ (l : List Nat) (a : Nat), a ≤ l.foldl max a ∧ (∀ v ∈ l, v ≤ l.foldl max a) ∧ (l.foldl max a = a ∨ l.foldl max a ∈ l)
  | [], a => ⟨Nat.le_refl _, fun v hv => (by cases hv), .inl rfl⟩
  | b :: l, a => by
    obtain ⟨h1, h2, h3⟩ := foldmax_acc l (max a b)
    rw [List.foldl_cons]
    refine ⟨Nat.le_trans (Nat.le_max_left a b) h1, fun v hv => ?_, ?_⟩
    · rcases List.mem_cons.mp hv with rfl | hv
      · exact Nat.le_trans (Nat.le_max_right a v) h1
      · exact h2 v hv
    · rcases h3 with h3 | h3
      · rw [h3]
        rcases Nat.le_total a b with q | q
        · rw [Nat.max_eq_right q]; exact .inr (List.mem_cons_self ..)
        · rw [Nat.max_eq_left q]; exact .inl rfl
      · exact .inr (List.mem_cons_of_mem _ h3)
theorem foldmax_ge {l : List Nat} {v : Nat} (h : v ∈ l) : v ≤ l.foldl max 0 := (foldmax_acc l 0).2.1 v h
theorem foldmax_eq {l : List Nat} {M : Nat} (h1 : ∀ v ∈ l, v ≤ M) (h2 : M ∈ l) : l.foldl max 0 = M := by
  have h3 := foldmax_ge h2
  rcases (foldmax_acc l 0).2.2 with h | h
  · rw [h] at h3 ⊢; omega
  · have := h1 _ h; omega
theorem foldmax_mem {l : List Nat} (h : l ≠ []) : l.foldl max 0 ∈ l := by
  rcases (foldmax_acc l 0).2.2 with q | q
  · cases l with
    | nil => exact absurd rfl h
    | cons a l =>
      have := foldmax_ge (List.mem_cons_self (a := a) (l := l))
      rw [q] at this ⊢
      have : a = 0 := by omega
      rw [this]; exact List.mem_cons_self ..
  · exact q
theorem foldmax_map {α : Type} {L : List α} {g : α → List Nat} {W : α → Nat} (h : ∀ m ∈ L, (∀ v ∈ g m, v ≤ W m) ∧ W m ∈ g m) : (L.flatMap g).foldl max 0 = (L.map W).foldl max 0 := by
  apply Nat.le_antisymm
  · rcases (foldmax_acc (L.flatMap g) 0).2.2 with q | q
    · rw [q]; exact Nat.zero_le _
    · obtain ⟨m, hm, hv⟩ := List.mem_flatMap.mp q
      exact Nat.le_trans ((h m hm).1 _ hv) (foldmax_ge (List.mem_map.mpr ⟨m, hm, rfl⟩))
  · rcases (foldmax_acc (L.map W) 0).2.2 with q | q
    · rw [q]; exact Nat.zero_le _
    · obtain ⟨m, hm, hv⟩ := List.mem_map.mp q
      rw [← hv]
      exact foldmax_ge (List.mem_flatMap.mpr ⟨m, hm, (h m hm).2⟩)
theorem foldmax_most {n : Nat} (hn : 0 < n) (v : Nat → Nat) : ((List.range n).map v).foldl max 0 = v (most n v) := by
  refine foldmax_eq (fun u hu => ?_) (List.mem_map.mpr ⟨most n v, List.mem_range.mpr (most_lt hn), rfl⟩)
  obtain ⟨i, hi, rfl⟩ := List.mem_map.mp hu
  exact most_le (List.mem_range.mp hi)
theorem most_eq {B : Abs} (ha : 0 < B.a) {M : Nat} (h1 : ∀ f ∈ B.firsts, B.value f (B.reply f) ≤ M) (h2 : ∃ f ∈ B.firsts, B.value f (B.reply f) = M) : B.most_ = M := by
  obtain ⟨f, hf, e⟩ := h2
  have q1 := most_ge hf
  have q2 := h1 _ (best_mem ha)
  rw [← most_best] at q2
  omega
theorem getD_map_range {n i d : Nat} (f : Nat → Nat) (h : i < n) : ((List.range n).map f).getD i d = f i := by simp [List.getD, h]
/-! ### the second hears the question -/
theorem most_if {n c : Nat} (hn : 0 < n) (p : Nat → Bool) : (fun b => if p b = true then c else 0) (most n fun b => if p b = true then c else 0) = if (List.range n).any p = true then c else 0 := by
  by_cases h : (List.range n).any p = true
  · rw [if_pos h]
    obtain ⟨b, hb, hp⟩ := List.any_eq_true.mp h
    have q := most_le (v := fun b => if p b = true then c else 0) (List.mem_range.mp hb)
    dsimp only at q ⊢
    rw [if_pos hp] at q
    split
    · rfl
    · rename_i z; rw [if_neg z] at q; omega
  · rw [if_neg h]
    dsimp only
    rw [if_neg fun z => h (List.any_eq_true.mpr ⟨_, List.mem_range.mpr (most_lt hn), z⟩)]
def heardAt (A : Abs) (x a : Nat) : Nat := ((List.range A.y).map fun y => if (List.range A.b).any (fun b => A.won x y a b) = true then A.count x y else 0).sum
theorem rows_one (k : Nat) : rows k 1 = (List.range k).map fun c => [c] := by
  rw [rows_succ]
  generalize List.range k = l
  induction l with
  | nil => rfl
  | cons a l ih => rw [List.flatMap_cons, ih]; rfl
theorem most_congr {n : Nat} (hn : 0 < n) {v u : Nat → Nat} (h : ∀ i, i < n → v i = u i) : v (most n v) = u (most n u) := by
  rw [← foldmax_most hn v, ← foldmax_most hn u]
  congr 1
  apply List.map_congr_left
  intro i hi
  exact h i (List.mem_range.mp hi)
theorem narrow_one {A : Abs} (ha : 0 < A.a) (hb : 0 < A.b) {x : Nat} : (narrow A [x]).most_ = ((List.range A.a).map fun a => heardAt A x a).foldl max 0 := by
  have key : ∀ c, c < A.a → (narrow A [x]).value [c] ((narrow A [x]).reply [c]) = heardAt A x c := fun c hc => by
    rw [reply_value]
    unfold heardAt
    show ((List.range A.y).map _).sum = _
    congr 1
    apply List.map_congr_left
    intro y hy
    have hy := List.mem_range.mp hy
    have e : ∀ b, b < A.b → (narrow A [x]).gainAt [c] y b = if A.won x y c b = true then A.count x y else 0 := fun b hb' => by
      unfold Abs.gainAt
      show ((List.range 1).map fun i => if (narrow A [x]).won i y ([c].getD i 0) b = true then (narrow A [x]).count i y else 0).sum = _
      show (if (narrow A [x]).won 0 y c b = true then (narrow A [x]).count 0 y else 0) + 0 = _
      rw [Nat.add_zero, show (narrow A [x]).won 0 y c b = A.won x y c b from ofFun_won (show 0 < 1 by decide) hy hc hb', show (narrow A [x]).count 0 y = A.count x y from ofFun_count (show 0 < 1 by decide) hy]
    show (narrow A [x]).gainAt [c] y (most A.b ((narrow A [x]).gainAt [c] y)) = _
    rw [most_congr hb e]
    exact most_if hb _
  have hne : ((List.range A.a).map fun a => heardAt A x a) ≠ [] := by
    intro z
    have := congrArg List.length z
    simp at this
    omega
  refine most_eq (B := narrow A [x]) ha (fun f hf => ?_) ?_
  · have hf : f ∈ rows A.a 1 := hf
    rw [rows_one] at hf
    obtain ⟨c, hc, rfl⟩ := List.mem_map.mp hf
    rw [key c (List.mem_range.mp hc)]
    exact foldmax_ge (List.mem_map.mpr ⟨c, hc, rfl⟩)
  · obtain ⟨c, hc, e⟩ := List.mem_map.mp (foldmax_mem hne)
    refine ⟨[c], ?_, by rw [key c (List.mem_range.mp hc)]; exact e⟩
    show [c] ∈ rows A.a 1
    rw [rows_one]
    exact List.mem_map.mpr ⟨c, hc, rfl⟩
theorem can_eq {A : Abs} (ha : 0 < A.a) (hb : 0 < A.b) : A.can = ((List.range A.x).map fun x => (narrow A [x]).most_).sum := by
  unfold Abs.can
  congr 1
  apply List.map_congr_left
  intro x _
  rw [narrow_one ha hb]
  rfl
/-! ### a word is told -/
def group (A : Abs) (m : List Nat) (w : Nat) : List Nat := (List.range A.x).filter fun x => m.getD x 0 == w
def wordsWin (A : Abs) (c : Nat) (m : List Nat) : Nat := ((List.range c).map fun w => (narrow A (group A m w)).most_).sum
theorem mem_group {A : Abs} {m : List Nat} {w x : Nat} : x ∈ group A m w ↔ x < A.x ∧ m.getD x 0 = w := by
  unfold group
  rw [List.mem_filter, List.mem_range, beq_iff_eq]
theorem group_nd (A : Abs) (m : List Nat) (w : Nat) : (group A m w).Nodup := List.nodup_range.sublist List.filter_sublist
theorem group_len (A : Abs) (m : List Nat) (w : Nat) : (group A m w).length ≤ A.x := by
  have := List.length_filter_le (fun x => m.getD x 0 == w) (List.range A.x)
  rw [List.length_range] at this
  exact this
theorem sum_filter (p : Nat → Bool) (h : Nat → Nat) : ∀ l : List Nat, ((l.filter p).map h).sum = (l.map fun x => if p x = true then h x else 0).sum
  | [] => rfl
  | a :: l => by
    rw [List.filter_cons, List.map_cons, List.sum_cons, ← sum_filter p h l]
    by_cases e : p a = true
    · rw [if_pos e, if_pos e, List.map_cons, List.sum_cons]
    · rw [if_neg e, if_neg e, Nat.zero_add]
theorem sum_by_place (h : Nat → Nat) (L : List Nat) : ((List.range L.length).map fun i => h (L.getD i 0)).sum = (L.map h).sum := by
  congr 1
  conv => rhs; rw [list_range 0 L]
  rw [List.map_map]
  rfl
/-- the first's row, where that word is told -/
def restr (A : Abs) (m f : List Nat) (w : Nat) : List Nat := (group A m w).map fun x => f.getD x 0
theorem restr_get {A : Abs} {m f : List Nat} {w i : Nat} (hi : i < (group A m w).length) : (restr A m f w).getD i 0 = f.getD ((group A m w).getD i 0) 0 := by
  unfold restr
  simp [List.getD, hi]
theorem getD_mem {L : List Nat} {i : Nat} (h : i < L.length) : L.getD i 0 ∈ L := by
  have e : L.getD i 0 = L[i] := by simp [List.getD, h]
  rw [e]; exact List.getElem_mem h
theorem restr_mem {A : Abs} {m f : List Nat} {w : Nat} (hf : f ∈ A.firsts) : restr A m f w ∈ (narrow A (group A m w)).firsts := by
  show _ ∈ rows A.a (group A m w).length
  refine mem_rows.mpr ⟨by unfold restr; simp, fun v hv => ?_⟩
  unfold restr at hv
  obtain ⟨x, hx, rfl⟩ := List.mem_map.mp hv
  exact firsts_lt hf (mem_group.mp hx).1
theorem gain_restr {A : Abs} {m f : List Nat} {w y b : Nat} (hf : f ∈ A.firsts) (hy : y < A.y) (hb : b < A.b) : (narrow A (group A m w)).gainAt (restr A m f w) y b = ((List.range A.x).map fun x => if m.getD x 0 = w ∧ A.won x y (f.getD x 0) b = true then A.count x y else 0).sum := by
  unfold Abs.gainAt
  show ((List.range (group A m w).length).map fun i => if (narrow A (group A m w)).won i y ((restr A m f w).getD i 0) b = true then (narrow A (group A m w)).count i y else 0).sum = _
  have e1 : ((List.range (group A m w).length).map fun i => if (narrow A (group A m w)).won i y ((restr A m f w).getD i 0) b = true then (narrow A (group A m w)).count i y else 0) = (List.range (group A m w).length).map fun i => (fun x => if A.won x y (f.getD x 0) b = true then A.count x y else 0) ((group A m w).getD i 0) := by
    apply List.map_congr_left
    intro i hi
    have hi := List.mem_range.mp hi
    have hx := (mem_group.mp (getD_mem hi)).1
    rw [restr_get hi, show (narrow A (group A m w)).won i y (f.getD ((group A m w).getD i 0) 0) b = A.won ((group A m w).getD i 0) y (f.getD ((group A m w).getD i 0) 0) b from ofFun_won hi hy (firsts_lt hf hx) hb, show (narrow A (group A m w)).count i y = A.count ((group A m w).getD i 0) y from ofFun_count hi hy]
  rw [e1, sum_by_place (fun x => if A.won x y (f.getD x 0) b = true then A.count x y else 0) (group A m w)]
  unfold group
  rw [sum_filter]
  congr 1
  apply List.map_congr_left
  intro x _
  by_cases z : m.getD x 0 = w
  · rw [if_pos (beq_iff_eq.mpr z)]
    by_cases z2 : A.won x y (f.getD x 0) b = true
    · rw [if_pos z2, if_pos ⟨z, z2⟩]
    · rw [if_neg z2, if_neg fun q => z2 q.2]
  · rw [if_neg fun q => z (beq_iff_eq.mp q), if_neg fun q => z q.1]
def toldAt (A : Abs) (c : Nat) (m f : List Nat) : Nat := ((List.range A.y).map fun y => ((List.range c).map fun w => ((List.range A.b).map fun b => ((List.range A.x).map fun x => if m.getD x 0 = w ∧ A.won x y (f.getD x 0) b = true then A.count x y else 0).sum).foldl max 0).sum).sum
theorem toldAt_eq {A : Abs} (hb : 0 < A.b) {c : Nat} {m f : List Nat} (hf : f ∈ A.firsts) : toldAt A c m f = ((List.range c).map fun w => (narrow A (group A m w)).value (restr A m f w) ((narrow A (group A m w)).reply (restr A m f w))).sum := by
  unfold toldAt
  rw [sum_comm (fun y w => ((List.range A.b).map fun b => ((List.range A.x).map fun x => if m.getD x 0 = w ∧ A.won x y (f.getD x 0) b = true then A.count x y else 0).sum).foldl max 0) (List.range c) (List.range A.y)]
  congr 1
  apply List.map_congr_left
  intro w _
  rw [reply_value]
  show _ = ((List.range A.y).map _).sum
  congr 1
  apply List.map_congr_left
  intro y hy
  have hy := List.mem_range.mp hy
  rw [foldmax_most hb]
  show _ = (narrow A (group A m w)).gainAt (restr A m f w) y (most A.b ((narrow A (group A m w)).gainAt (restr A m f w) y))
  exact (most_congr hb fun b hb' => gain_restr hf hy hb').symm
/-- rows for each word, put together -/
def glue (A : Abs) (m : List Nat) (g : Nat → List Nat) : List Nat := (List.range A.x).map fun x => (g (m.getD x 0)).getD ((group A m (m.getD x 0)).idxOf x) 0
theorem glue_restr {A : Abs} {m : List Nat} {g : Nat → List Nat} {w : Nat} (hg : (g w).length = (group A m w).length) : restr A m (glue A m g) w = g w := by
  apply List.ext_getElem
  · unfold restr; simp [hg]
  · intro i h1 h2
    have hi : i < (group A m w).length := by omega
    have e1 : (restr A m (glue A m g) w)[i] = (glue A m g).getD ((group A m w).getD i 0) 0 := by
      rw [← restr_get hi]
      simp [List.getD, h1]
    obtain ⟨hx, hm⟩ := mem_group.mp (getD_mem hi)
    rw [e1]
    unfold glue
    rw [getD_map_range _ hx, hm]
    have hidx : (group A m w).idxOf ((group A m w).getD i 0) = i := by
      have hlt : (group A m w).idxOf ((group A m w).getD i 0) < (group A m w).length := List.idxOf_lt_length_of_mem (getD_mem hi)
      have e2 : (group A m w)[(group A m w).idxOf ((group A m w).getD i 0)] = (group A m w)[i] := by
        rw [List.getElem_idxOf hlt]
        simp [List.getD, hi]
      exact (List.getElem_inj (group_nd A m w)).mp e2
    rw [hidx]
    simp [List.getD, h2]
theorem glue_mem {A : Abs} {m : List Nat} {g : Nat → List Nat} (hg : ∀ x, x < A.x → g (m.getD x 0) ∈ (narrow A (group A m (m.getD x 0))).firsts) : glue A m g ∈ A.firsts := by
  show _ ∈ rows A.a A.x
  refine mem_rows.mpr ⟨by unfold glue; simp, fun v hv => ?_⟩
  unfold glue at hv
  obtain ⟨x, hx, rfl⟩ := List.mem_map.mp hv
  have hx := List.mem_range.mp hx
  obtain ⟨h1, h2⟩ := mem_rows.mp (show g (m.getD x 0) ∈ rows A.a (group A m (m.getD x 0)).length from hg x hx)
  have hlt : (group A m (m.getD x 0)).idxOf x < (group A m (m.getD x 0)).length := List.idxOf_lt_length_of_mem (mem_group.mpr ⟨hx, rfl⟩)
  exact h2 _ (getD_mem (by omega))
theorem told_eq {A : Abs} (ha : 0 < A.a) (hb : 0 < A.b) (c : Nat) : A.told c = ((rows c A.x).map (wordsWin A c)).foldl max 0 := by
  show ((rows c A.x).flatMap fun m => A.firsts.map fun f => toldAt A c m f).foldl max 0 = _
  refine foldmax_map fun m hm => ⟨fun v hv => ?_, ?_⟩
  · obtain ⟨f, hf, rfl⟩ := List.mem_map.mp hv
    rw [toldAt_eq hb hf]
    unfold wordsWin
    exact sum_le fun w _ => most_ge (restr_mem hf)
  · have hgm : glue A m (fun w => (narrow A (group A m w)).best.1) ∈ A.firsts := glue_mem fun x _ => best_mem ha
    refine List.mem_map.mpr ⟨_, hgm, ?_⟩
    rw [toldAt_eq hb hgm]
    unfold wordsWin
    congr 1
    apply List.map_congr_left
    intro w _
    have hl : ((narrow A (group A m w)).best.1).length = (group A m w).length := (mem_rows.mp (show (narrow A (group A m w)).best.1 ∈ rows A.a (group A m w).length from best_mem ha)).1
    rw [glue_restr (g := fun w => (narrow A (group A m w)).best.1) hl, most_best]
/-! ### plans by their places -/
def placesOf (t : Nat) (L : List Nat) : List Nat := (List.range L.length).filter fun i => L.getD i 0 == t
theorem filter_places_n {α : Type} (v : α → Nat) (t : Nat) : ∀ (n : Nat) (P : List α), P.length = n → (P.filter fun p => v p == t).map some = (placesOf t (P.map v)).map fun i => P[i]?
  | 0, P, h => by rw [List.eq_nil_of_length_eq_zero h]; rfl
  | n + 1, P0, h => by
    obtain ⟨P, p, rfl⟩ : ∃ P p, P0 = P ++ [p] := by
      rcases List.eq_nil_or_concat P0 with e | ⟨l, a, e⟩
      · rw [e] at h; cases h
      · exact ⟨l, a, by rw [e, List.concat_eq_append]⟩
    have ih := filter_places_n v t n P (by simpa using h)
    unfold placesOf at ih ⊢
    rw [List.length_map] at ih ⊢
    rw [List.filter_append, List.map_append, List.length_append, List.length_singleton, List.range_succ, List.filter_append, List.map_append, ih, List.map_append]
    congr 1
    · have e1 : (List.range P.length).filter (fun i => (P.map v ++ List.map v [p]).getD i 0 == t) = (List.range P.length).filter fun i => (P.map v).getD i 0 == t := by
        apply List.filter_congr
        intro i hi
        have hi := List.mem_range.mp hi
        simp [List.getD, List.getElem?_append_left, hi]
      rw [e1]
      apply List.map_congr_left
      intro i hi
      have hi := List.mem_range.mp (List.mem_filter.mp hi).1
      rw [List.getElem?_append_left hi]
    · have e2 : (P.map v ++ List.map v [p]).getD P.length 0 = v p := by simp [List.getD]
      rw [List.filter_cons, List.filter_cons, e2]
      by_cases z : (v p == t) = true
      · rw [if_pos z, if_pos z]; simp
      · rw [if_neg z, if_neg z]; simp
theorem filter_places {α : Type} (v : α → Nat) (t : Nat) (P : List α) : (P.filter fun p => v p == t).map some = (placesOf t (P.map v)).map fun i => P[i]? := filter_places_n v t _ P rfl
theorem flat_get {α β γ : Type} (f : α → β → γ) (S : List β) : ∀ (F : List α) (i : Nat), 0 < S.length → i < F.length * S.length → ∃ a b, F[i / S.length]? = some a ∧ S[i % S.length]? = some b ∧ (F.flatMap fun x => S.map fun y => f x y)[i]? = some (f a b)
  | [], i, hs, hi => by simp at hi
  | x :: F, i, hs, hi => by
    rw [List.flatMap_cons]
    rcases Nat.lt_or_ge i S.length with h | h
    · rw [Nat.div_eq_of_lt h, Nat.mod_eq_of_lt h]
      refine ⟨x, S[i], rfl, List.getElem?_eq_getElem h, ?_⟩
      rw [List.getElem?_append_left (by simpa using h), List.getElem?_map, List.getElem?_eq_getElem h]; rfl
    · have e1 : i / S.length = (i - S.length) / S.length + 1 := by
        rw [Nat.div_eq i S.length, if_pos ⟨hs, h⟩]
      have e2 : i % S.length = (i - S.length) % S.length := Nat.mod_eq_sub_mod h
      rw [List.length_cons, Nat.succ_mul] at hi
      obtain ⟨a, b, h1, h2, h3⟩ := flat_get f S F (i - S.length) hs (by omega)
      refine ⟨a, b, by rw [e1]; exact h1, by rw [e2]; exact h2, ?_⟩
      rw [List.getElem?_append_right (by simpa using h), List.length_map]
      exact h3
end Tm

set_option Elab.async false
set_option linter.all false
set_option maxRecDepth 100000
set_option maxHeartbeats 2000000
namespace Ta
open PySem PySem.Spec PyProof.Rows L2
theorem lc_enum {K : PySem.W.Frag} {a : Addr} {xs : List V} {g : TG} {tt : TT} {te : TE} {vs : List Nat} {σ : L2.St} {H1 : Hp} {D : Addr} {Qd : Hp → Prop} (Pv : Nat → Hp → Prop) (h0 : Pv 0 (upd H1 D (.lst []))) (hl : ∀ i H, i ≤ xs.length → Pv i H → SqL K H a xs)
    (hs : ∀ (i : Nat) x T H, xs[i]? = some x → H T = none → Pv i H → g (.ref T) (wipe σ vs) (upd H T (.tup [.int (i : Nat), x])) fun σ2 H2 => wipe σ2 vs = wipe σ vs ∧ tt σ2 H2 fun b H3 =>
      if b = true then te σ2 H3 fun y H4 => ∃ acc, H4 D = some (.lst acc) ∧ acc.length < sizeLine ∧ Pv (i + 1) (upd H4 D (.lst (acc ++ [y]))) else Pv (i + 1) H3) (hd : ∀ H, Pv xs.length H → Qd H) :
    ∃ W : Nat → Nat → Hp → Prop, (∃ m, W 0 m (upd H1 D (.lst []))) ∧ ∀ i m H, W i m H →
      ((Ite K a).stop i H ∧ Qd H) ∨ ((Ite K a).go i H ∧ ∃ Nx : Hp → Prop, (∀ H', Nx H' → ∃ m', m' < m ∧ W (i + 1) m' H') ∧ ∀ x H', (Ite K a).yld i H x H' → g x (wipe σ vs) H' fun σ2 H2 => wipe σ2 vs = wipe σ vs ∧ tt σ2 H2 fun b H3 =>
        if b = true then te σ2 H3 fun y H4 => ∃ acc, H4 D = some (.lst acc) ∧ acc.length < sizeLine ∧ Nx (upd H4 D (.lst (acc ++ [y]))) else Nx H3) := by
  refine ⟨fun i m H => m = xs.length - i ∧ i ≤ xs.length ∧ Pv i H, ⟨xs.length, by simp, Nat.zero_le _, h0⟩, ?_⟩
  rintro i m H ⟨rfl, hi, p⟩
  have q := hl i H hi p
  by_cases hlt : i < xs.length
  · refine .inr ⟨⟨xs, xs[i], q, by simp [hlt]⟩, Pv (i + 1), fun H' p' => ⟨xs.length - (i + 1), by omega, rfl, hlt, p'⟩, fun v H' y => ?_⟩
    obtain ⟨T, x, rfl, hT, rfl, hx⟩ := y
    exact hs i x T H (hx xs q) hT p
  · have e : i = xs.length := by omega
    subst e
    exact .inl ⟨⟨xs, q, Nat.le_refl _⟩, hd H p⟩
/-- over the keys of a dict that is locked -/
theorem lc_keysT {d : Addr} {o : Obj} {kvs : List (List Key × V)} {g : TG} {tt : TT} {te : TE} {vs : List Nat} {σ : L2.St} {H1 : Hp} {D : Addr} {Qd : Hp → Prop} (Pv : Nat → Hp → Prop) (h0 : Pv 0 (upd H1 D (.lst []))) (hl : ∀ i H, i ≤ kvs.length → Pv i H → H d = some (.frz o (.dT kvs)))
    (hs : ∀ (i : Nat) k v q H, kvs[i]? = some (k, v) → H q = some (.tup (k.map kV)) → Pv i H → g (.ref q) (wipe σ vs) H fun σ2 H2 => wipe σ2 vs = wipe σ vs ∧ tt σ2 H2 fun b H3 =>
      if b = true then te σ2 H3 fun y H4 => ∃ acc, H4 D = some (.lst acc) ∧ acc.length < sizeLine ∧ Pv (i + 1) (upd H4 D (.lst (acc ++ [y]))) else Pv (i + 1) H3) (hd : ∀ H, Pv kvs.length H → Qd H) :
    ∃ W : Nat → Nat → Hp → Prop, (∃ m, W 0 m (upd H1 D (.lst []))) ∧ ∀ i m H, W i m H →
      ((Itkt d o kvs).stop i H ∧ Qd H) ∨ ((Itkt d o kvs).go i H ∧ ∃ Nx : Hp → Prop, (∀ H', Nx H' → ∃ m', m' < m ∧ W (i + 1) m' H') ∧ ∀ x H', (Itkt d o kvs).yld i H x H' → g x (wipe σ vs) H' fun σ2 H2 => wipe σ2 vs = wipe σ vs ∧ tt σ2 H2 fun b H3 =>
        if b = true then te σ2 H3 fun y H4 => ∃ acc, H4 D = some (.lst acc) ∧ acc.length < sizeLine ∧ Nx (upd H4 D (.lst (acc ++ [y]))) else Nx H3) := by
  refine ⟨fun i m H => m = kvs.length - i ∧ i ≤ kvs.length ∧ Pv i H, ⟨kvs.length, by simp, Nat.zero_le _, h0⟩, ?_⟩
  rintro i m H ⟨rfl, hi, p⟩
  have q := hl i H hi p
  by_cases hlt : i < kvs.length
  · refine .inr ⟨⟨q, hlt⟩, Pv (i + 1), fun H' p' => ⟨kvs.length - (i + 1), by omega, rfl, hlt, p'⟩, fun v H' y => ?_⟩
    obtain ⟨rfl, k, u, r, hk, rfl, hr⟩ := y
    exact hs i k u r _ hk hr p
  · have e : i = kvs.length := by omega
    subst e
    exact .inl ⟨⟨q, Nat.le_refl _⟩, hd H p⟩
theorem range_filter_snoc (i : Nat) (p : Nat → Bool) : (List.range (i + 1)).filter p = (List.range i).filter p ++ if p i = true then [i] else [] := by
  rw [List.range_succ, List.filter_append, List.filter_cons]
  by_cases h : p i = true
  · rw [if_pos h, if_pos h]; rfl
  · rw [if_neg h, if_neg h]; rfl
section
variable {P : Program} {w : World} {K : PySem.W.Frag} {mg : Str → Option Value} {base : Heap} {C : Addr}
/-! ### heard, game -/
def spHeard (C : Addr) : Sp := fun vs H Q _ => ∃ (g : Addr) (A : Su172.Abs) (F : Addr → Prop), vs = [.ref g] ∧ GAt C H g A F ∧ ∀ H' : Hp, Same H H' → Q (.int (A.can : Nat)) H'
abbrev sHeard : Stmt := inClass (top 34) 23
/-- slots: 0:self 1:x -/
theorem scHeard : FnScope ["self", "x"] ["self"] (defScope sHeard) := ⟨rfl, rfl, rfl, by decide +kernel, rfl, by decide +kernel, by decide +kernel⟩
theorem ok_heard {f : Addr} {fd : FuncData} (F : Fun K "heard" "Game.heard" sHeard f fd) (B : Blt mg) (G : GCls K C) (m_narrowed : MCal P w K mg base C 3 "narrowed" ["self", "kept"] (spNarrow K C)) (m_best : MCal P w K mg base C 3 "best" ["self"] (spMBest C)) :
    FnOk P w K mg base CX0 4 f fd ["self"] (spHeard C) := by
  refine F.ok scHeard (fun vs H Q E h => ?_) (fun cdv A outer s H vs Q E hr h => ?_)
  · obtain ⟨g, A, F, rfl, _⟩ := h
    rfl
  · obtain ⟨g, A, F, rfl, gat, k⟩ := h
    obtain ⟨wd, td, gm, _⟩ := id gat
    obtain ⟨dx, hi⟩ := gm.ins
    have wf := gm.wf
    refine ⟨_, (pss_one (ps_ret (pe_callB (cr_sum (by rfl)) (by rfl) B.sum PyProof.Rows.boot_sum (pa_cons (pe_lc (te := tOp (rIxL K) (tMeth C "best" (spMBest C) [] E0 (tMeth C "narrowed" (spNarrow K C) [] E0 (tVar 0) (tCons (tLst (tCons (tVar 1) tNil)) tNil)) tNil) (tC (.int 0))) rfl scHeard.nd (pi_range1 rfl B.range (pa_cons (pe_fld (pv 0) rfl) pa_nil)) (own := [("x", 1)]) (blkOk_by rfl) (fun _ _ _ _ _ => pg_name (i := 1) scHeard.nd rfl (Or.inl rfl)) (fun _ _ _ _ _ => pts_nil)
        (fun _ _ _ _ _ => (pe_ix ix_list (pe_me0 m_best (pe_me m_narrowed (pv 0) (hr.mono (by decide)) (pa_cons (pe_lst (pa_cons (pv 1) pa_nil)) pa_nil)) (hr.mono (by decide))) pe_int (fun _ _ => rfl)))) pa_nil)))), ?_⟩
    refine ⟨_, rfl, g, C, dx, _, _, rfl, hi, G.cl, G.nx, gf_x _ _ _ _ _ _, A.x, rfl, by have := wf.x1; omega, by have := wf.x1; omega, fun D hD => ?_⟩
    refine lc_range0 (n := A.x) hD (by rw [sizeLine_eq]; have := wf.x1; omega) (fun i y H' => y = .int ((Tm.narrow A [i]).most_ : Nat)) (fun _ _ _ _ _ h => h) ?_ ?_
    · intro i H1 Q' hi1 s1 ⟨zs, hzs⟩ k'
      refine ⟨_, rfl, g, dx, _, rfl, s1 _ _ hi, gf_no (by decide +kernel), _, rfl, by show 1 ≤ sizeLine; decide, fun l nl => ?_⟩
      have s2 : Same H1 (upd H1 l (.lst (natsV [i]))) := .new nl
      refine ⟨g, l, A, F, [i], rfl, gat.same (s1.trans s2), .inl (SqL.of upd_same), by show 1 ≤ 4; decide, fun v hv => by rw [List.mem_singleton.mp hv]; exact hi1, fun H3 o F3 s3 G3 new3 => ?_⟩
      obtain ⟨ow, ot, gm3, hf3⟩ := id G3
      obtain ⟨do_, hio⟩ := gm3.ins
      refine ⟨o, do_, _, rfl, hio, gf_no (by decide +kernel), o, _, F3, rfl, G3, fun H4 q s4 nq hq => ?_⟩
      exact ⟨q, _, _, _, rfl, rfl, SqL.of hq, at_of (j := 0) rfl rfl, k' _ _ ((s2.trans s3).trans s4) rfl⟩
    · intro H1 ys s1 hD1 hlen hR
      have ey : ys = natsV ((List.range A.x).map fun x => (Tm.narrow A [x]).most_) := by
        unfold natsV
        rw [List.map_map]
        exact items_eq hlen hR
      refine ⟨D, _, rfl, SqL.of (by rw [hD1, ey, natsV_ints]), ?_⟩
      rw [sum_cast, ← Tm.can_eq wf.a0 wf.b0]
      exact k _ s1
def spMGame (C : Addr) : Sp := fun vs H Q _ => ∃ (g : Addr) (A : Su172.Abs) (F : Addr → Prop), vs = [.ref g] ∧ GAt C H g A F ∧ Ro H (Su172.does A .state).2 Q
abbrev sMGame : Stmt := inClass (top 34) 27
/-- slots: 0:self 1:sizes -/
theorem scMGame : FnScope ["self", "sizes"] ["self"] (defScope sMGame) := ⟨rfl, rfl, rfl, by decide +kernel, rfl, by decide +kernel, by decide +kernel⟩
theorem ok_mgame {f : Addr} {fd : FuncData} (F : Fun K "game" "Game.game" sMGame f fd) (G : GCls K C) (m_heard : MCal P w K mg base C 4 "heard" ["self"] (spHeard C)) (m_total_weight : MCal P w K mg base C 1 "total_weight" ["self"] (spTotal C)) :
    FnOk P w K mg base CX0 5 f fd ["self"] (spMGame C) := by
  refine F.ok scMGame (fun vs H Q E h => ?_) (fun cdv A outer s H vs Q E hr h => ?_)
  · obtain ⟨g, A, F, rfl, _⟩ := h
    rfl
  · obtain ⟨g, A, F, rfl, gat, k⟩ := h
    obtain ⟨wd, td, gm, _⟩ := id gat
    obtain ⟨dx, hi⟩ := gm.ins
    have wf := gm.wf
    refine ⟨_, (pss_cons (ps_set (i := 1) scMGame.nd rfl (Or.inl rfl) (pe_lst (pa_cons (pe_fld (pv 0) rfl) (pa_cons (pe_fld (pv 0) rfl) (pa_cons (pe_fld (pv 0) rfl) (pa_cons (pe_fld (pv 0) rfl) pa_nil))))))
      (pss_one (ps_ret (pe_op op_cat (pv 1) (pe_lst (pa_cons (pe_me0 m_total_weight (pv 0) (hr.mono (by decide))) (pa_cons (pe_me0 m_heard (pv 0) (hr.mono (by decide))) pa_nil))))))), ?_⟩
    refine ⟨_, rfl, g, C, dx, _, _, rfl, hi, G.cl, G.nx, gf_x _ _ _ _ _ _, _, rfl, g, C, dx, _, _, rfl, hi, G.cl, G.ny, gf_y _ _ _ _ _ _, _, rfl, g, C, dx, _, _, rfl, hi, G.cl, G.na, gf_a _ _ _ _ _ _, _, rfl, g, C, dx, _, _, rfl, hi, G.cl, G.nb, gf_b _ _ _ _ _ _, by show 4 ≤ sizeLine; decide, fun l nl => ?_⟩
    have s1 : Same H (upd H l (.lst (natsV [A.x, A.y, A.a, A.b]))) := .new nl
    refine ⟨_, rfl, _, rfl, g, dx, _, rfl, s1 _ _ hi, gf_no (by decide +kernel), g, A, F, rfl, gat.same s1, fun H2 s2 => ?_⟩
    refine ⟨_, rfl, g, dx, _, rfl, s2 _ _ (s1 _ _ hi), gf_no (by decide +kernel), g, A, F, rfl, gat.same (s1.trans s2), fun H3 s3 => ⟨by show 2 ≤ sizeLine; decide, fun m nm => ?_⟩⟩
    have s4 := s3.upd_new (o := .lst (natsV [A.total, A.can])) nm
    refine ⟨l, m, natsV [A.x, A.y, A.a, A.b], natsV [A.total, A.can], rfl, rfl, s4 _ _ (s2 _ _ upd_same), upd_same, by show 4 + 2 ≤ sizeLine; decide, fun q nq => ?_⟩
    have s5 := (s1.trans s2).trans s4
    refine k _ q (s5.upd_new nq) (s5.free nq) ?_
    rw [upd_same]; rfl
/-! ### twice -/
def spMTwice (C : Addr) : Sp := fun vs H Q _ => ∃ (g : Addr) (A : Su172.Abs) (F : Addr → Prop), vs = [.ref g] ∧ GAt C H g A F ∧ (∀ x y, A.count x y ≤ 1000000) ∧ Ro H (Su172.does A .twice).2 Q
abbrev sMTwice : Stmt := inClass (top 34) 25
/-- slots: 0:self -/
theorem scMTwice : FnScope ["self"] ["self"] (defScope sMTwice) := ⟨rfl, rfl, rfl, by decide +kernel, rfl, by decide +kernel, by decide +kernel⟩
theorem ok_mtwice {f : Addr} {fd : FuncData} (F : Fun K "twice" "Game.twice" sMTwice f fd) (B : Blt mg) (G : GCls K C) (T : Cst mg) (m_doubled : MCal P w K mg base C 3 "doubled" ["self"] (spDouble C)) (m_best : MCal P w K mg base C 3 "best" ["self"] (spMBest C)) :
    FnOk P w K mg base CX0 4 f fd ["self"] (spMTwice C) := by
  refine F.ok scMTwice (fun vs H Q E h => ?_) (fun cdv A outer s H vs Q E hr h => ?_)
  · obtain ⟨g, A, F, rfl, _⟩ := h
    rfl
  · obtain ⟨g, A, F, rfl, gat, hcb, k⟩ := h
    obtain ⟨wd, td, gm, _⟩ := id gat
    obtain ⟨dx, hi⟩ := gm.ins
    have wf := gm.wf
    refine ⟨_, (pss_cons (ps_if (pt_cmpR op_gt (pe_callB (cr_max4 (by rfl)) (by rfl) B.max PyProof.Rows.boot_max (pa_cons (pe_fld (pv 0) rfl) (pa_cons (pe_fld (pv 0) rfl) (pa_cons (pe_fld (pv 0) rfl) (pa_cons (pe_fld (pv 0) rfl) pa_nil))))) (pe_gi T.MOST_FOR_TWICE) (nomark _))
        (pss_one (ps_ret (pe_lst (pa_cons (pe_gi T.TOO_MANY) pa_nil)))) pss_nil)
      (pss_one (ps_ret (pe_slice sl_list (pe_me0 m_best (pe_me0 m_doubled (pv 0) (hr.mono (by decide))) (hr.mono (by decide))) po_none (po_some pe_int))))), ?_⟩
    refine ⟨_, rfl, g, C, dx, _, _, rfl, hi, G.cl, G.nx, gf_x _ _ _ _ _ _, _, rfl, g, C, dx, _, _, rfl, hi, G.cl, G.ny, gf_y _ _ _ _ _ _, _, rfl, g, C, dx, _, _, rfl, hi, G.cl, G.na, gf_a _ _ _ _ _ _, _, rfl, g, C, dx, _, _, rfl, hi, G.cl, G.nb, gf_b _ _ _ _ _ _, _, _, _, _, rfl, fun m hm h1 h2 h3 h4 => ?_⟩
    refine ⟨_, _, rfl, rfl, _, rfl, ?_⟩
    refine ite2 (fun hc => ?_) fun hc => ?_
    · refine ⟨by show 1 ≤ sizeLine; decide, fun q hq => ?_⟩
      have hc := of_decide_eq_true hc
      have e : Su172.does A .twice = (A, Su172.no (-28)) := if_pos (by omega)
      rw [e] at k
      exact k _ q (.new hq) hq upd_same
    have hc : ¬ (2 : Int) < m := fun z => hc (decide_eq_true z)
    have e : Su172.does A .twice = (A, Su172.num A.twice.most_ [A.total * A.total]) := if_neg (by omega)
    rw [e] at k
    refine ⟨_, rfl, g, dx, _, rfl, hi, gf_no (by decide +kernel), g, A, F, rfl, gat, by omega, by omega, by omega, by omega, hcb, fun H1 o F1 s1 G1 new1 => ?_⟩
    obtain ⟨ow, ot, gm1, hf1⟩ := id G1
    obtain ⟨do_, hio⟩ := gm1.ins
    refine ⟨o, do_, _, rfl, hio, gf_no (by decide +kernel), o, _, F1, rfl, G1, fun H2 q s2 nq hq => ?_⟩
    refine ⟨2, rfl, q, _, rfl, SqL.of hq, fun u hu => ?_⟩
    have s3 := (s1.trans s2)
    refine k _ u (s3.upd_new hu) (s3.free hu) ?_
    rw [upd_same, ← Tm.twice_total wf.cl wf.cr]
    show some (HO.lst (cutV (natsV (A.twice.most_ :: A.twice.total :: _)) none (some ((2 : Nat) : Int)))) = _
    rw [cut_take]
    rfl
/-! ### nth -/
def spMNth (C : Addr) : Sp := fun vs H Q _ => ∃ (g : Addr) (A : Su172.Abs) (F : Addr → Prop) (t k : Nat), vs = [.ref g, .int t, .int k] ∧ GAt C H g A F ∧ Ro H (Su172.does A (.nth t k)).2 Q
abbrev sMNth : Stmt := inClass (top 34) 19
/-- slots: 0:self 1:t 2:k 3:places 4:place 5:total 6:second_rows 7:first_row 8:second_row -/
theorem scMNth : FnScope ["self", "t", "k", "places", "place", "total", "second_rows", "first_row", "second_row"] ["self", "t", "k"] (defScope sMNth) := ⟨rfl, rfl, rfl, by decide +kernel, rfl, by decide +kernel, by decide +kernel⟩
theorem ok_mnth {f : Addr} {fd : FuncData} (F : Fun K "nth" "Game.nth" sMNth f fd) (B : Blt mg) (G : GCls K C) (T : Cst mg) (m_what_plans_win : MCal P w K mg base C 3 "what_plans_win" ["self"] (spPlansWin C)) (m_first_rows : MCal P w K mg base C 2 "first_rows" ["self"] (spFirsts C))
    (m_second_rows : MCal P w K mg base C 2 "second_rows" ["self"] (spSeconds C)) : FnOk P w K mg base CX0 4 f fd ["self", "t", "k"] (spMNth C) := by
  refine F.ok scMNth (fun vs H Q E h => ?_) (fun cdv A outer s H vs Q E hr h => ?_)
  · obtain ⟨g, A, F, t, k, rfl, _⟩ := h
    rfl
  · obtain ⟨g, A, F, t, kk, rfl, gat, k⟩ := h
    obtain ⟨wd, td, gm, _⟩ := id gat
    obtain ⟨dx, hi⟩ := gm.ins
    have wf := gm.wf
    refine ⟨_, (pss_cons (ps_setLc (i := 3) (te := (tVar 4)) (g := gTup K 2 (gCons (gName 4) (gCons (gName 5) gNil))) rfl scMNth.nd rfl rfl (sw_true rfl rfl rfl rfl) (pi_enum (by rfl) B.enumerate (pa_cons (pe_me0 m_what_plans_win (pv 0) (hr.mono (by decide))) pa_nil)) (own := [("place", 4), ("total", 5)]) (blkOk_by rfl) (fun _ _ _ _ _ => pg_tup (by rfl) (pgs_cons (pg_name (i := 4) scMNth.nd rfl (Or.inl rfl)) (pgs_cons (pg_name (i := 5) scMNth.nd rfl (Or.inl rfl)) pgs_nil))) (fun _ _ _ _ _ => pts_one (pt_cmpR op_eq (pv 5) (pv 1) (nomark _)))
        (fun _ _ _ _ _ => (pv 4)))
      (pss_cons (ps_if (pt_cmpR op_ge (pv 2) (pe_callB call_len_seq (by rfl) B.len PySem.boot_len (pa_cons (pv 3) pa_nil)) (nomark _))
        (pss_one (ps_ret (pe_lst (pa_cons (pe_gi T.THERE_IS_NONE) pa_nil)))) pss_nil)
      (pss_cons (ps_set (i := 6) scMNth.nd rfl (Or.inl rfl) (pe_me0 m_second_rows (pv 0) (hr.mono (by decide))))
      (pss_cons (ps_set (i := 7) scMNth.nd rfl (Or.inl rfl) (pe_ix ix_list (pe_me0 m_first_rows (pv 0) (hr.mono (by decide))) (pe_op op_fdiv (pe_ix ix_list (pv 3) (pv 2) (fun _ _ => rfl)) (pe_callB call_len_seq (by rfl) B.len PySem.boot_len (pa_cons (pv 6) pa_nil))) (fun _ _ => rfl)))
      (pss_cons (ps_set (i := 8) scMNth.nd rfl (Or.inl rfl) (pe_ix ix_list (pv 6) (pe_op op_mod (pe_ix ix_list (pv 3) (pv 2) (fun _ _ => rfl)) (pe_callB call_len_seq (by rfl) B.len PySem.boot_len (pa_cons (pv 6) pa_nil))) (fun _ _ => rfl)))
      (pss_one (ps_ret (pe_op op_cat (pe_op op_cat (pe_lst (pa_cons (pe_op op_add (pe_fld (pv 0) rfl) (pe_fld (pv 0) rfl)) pa_nil)) (pv 7)) (pv 8))))))))), ?_⟩
    refine ⟨_, rfl, g, dx, _, rfl, hi, gf_no (by decide +kernel), g, A, F, rfl, gat, fun H1 p s1 np hp => ?_⟩
    have hwl : (winsAll A).length ≤ 65536 := by
      have h1 := flatMap_len_le A.firsts 256 (fun f => A.seconds.map fun h => A.value f h) fun f _ => by rw [List.length_map]; exact rows_le wf.b1 wf.y1 wf.b0
      have h2 : A.firsts.length ≤ 256 := rows_le wf.a1 wf.x1 wf.a0
      unfold winsAll
      omega
    refine ⟨p, _, rfl, SqL.of hp, fun D hD => ?_⟩
    refine lc_enum (xs := natsV (winsAll A)) (fun i H' => Same H1 H' ∧ H' D = some (.lst (natsV ((List.range i).filter fun j => (winsAll A).getD j 0 == t)))) ⟨.new hD, upd_same⟩ (fun i H' _ h => SqL.of (h.1 _ _ hp)) ?_ ?_
    · rintro i x T' H2 hx hT ⟨s2, hD2⟩
      obtain ⟨n, hn, rfl⟩ := natsV_of hx
      refine ⟨T', _, rfl, .inl (.inl upd_same), rfl, _, _, rfl, _, _, rfl, rfl, rfl, _, rfl, _, rfl, rfl, _, rfl, ?_⟩
      have s3 : Same H2 (upd H2 T' (.tup [.int (i : Nat), .int (n : Nat)])) := .new hT
      have hg : (winsAll A).getD i 0 = n := by simp [List.getD, hn]
      have hlt : i < (winsAll A).length := (List.getElem?_eq_some_iff.mp hn).1
      refine ite2 (fun hc => ?_) fun hc => ?_
      · have hc : n = t := by
          have := of_decide_eq_true hc
          injection this with this
          exact Int.ofNat.inj this
        refine ⟨_, rfl, _, s3 _ _ hD2, ?_, ?_, ?_⟩
        · rw [natsV_len, sizeLine_eq]
          have := List.length_filter_le (fun j => (winsAll A).getD j 0 == t) (List.range i)
          rw [List.length_range] at this
          omega
        · exact (s2.trans s3).upd_free hD
        · rw [upd_same, range_filter_snoc, if_pos (by rw [hg, hc]; exact beq_self_eq_true _), natsV_append]
          rfl
      · have hc : ¬ n = t := fun z => hc (decide_eq_true (by show V.int (n : Nat) = V.int (t : Nat); rw [z]))
        refine ⟨s2.trans s3, ?_⟩
        rw [s3 _ _ hD2, range_filter_snoc, if_neg (by rw [hg]; exact fun z => hc (beq_iff_eq.mp z)), List.append_nil]
    rintro H2 ⟨s2, hD2⟩
    rw [natsV_len] at hD2
    have hD2 : H2 D = some (.lst (natsV (Tm.placesOf t (winsAll A)))) := hD2
    have sA := s1.trans s2
    have hfil := Tm.filter_places (fun p : List Nat × List Nat => A.value p.1 p.2) t A.plans
    rw [← winsAll_eq] at hfil
    have hlen : (A.plans.filter fun p => A.value p.1 p.2 == t).length = (Tm.placesOf t (winsAll A)).length := by
      have := congrArg List.length hfil
      rw [List.length_map, List.length_map] at this
      exact this
    refine ⟨_, rfl, _, rfl, D, _, rfl, .inl (SqL.of hD2), ?_⟩
    rw [natsV_len]
    refine ⟨_, _, rfl, rfl, _, rfl, ?_⟩
    refine ite2 (fun hc => ?_) fun hc => ?_
    · have hc : (Tm.placesOf t (winsAll A)).length ≤ kk := by have := of_decide_eq_true hc; omega
      refine ⟨by show 1 ≤ sizeLine; decide, fun q hq => ?_⟩
      have e : (Su172.does A (.nth t kk)).2 = Su172.no (-33) := by
        show (match (A.plans.filter fun (p : List Nat × List Nat) => A.value p.1 p.2 == t)[kk]? with | some p => (A, Su172.num (A.x + A.y) (p.1 ++ p.2)) | none => (A, Su172.no (-33))).2 = _
        rw [List.getElem?_eq_none (by omega)]
      rw [e] at k
      exact k _ q (sA.upd_new hq) (sA.free hq) upd_same
    have hc : kk < (Tm.placesOf t (winsAll A)).length := by
      have h1 : ¬ ((Tm.placesOf t (winsAll A)).length : Int) ≤ (kk : Int) := fun z => hc (decide_eq_true z)
      omega
    obtain ⟨i, hi0⟩ : ∃ i, (Tm.placesOf t (winsAll A))[kk]? = some i := ⟨_, List.getElem?_eq_getElem hc⟩
    have hil : i < (winsAll A).length := by
      have := List.mem_of_getElem? hi0
      unfold Tm.placesOf at this
      exact List.mem_range.mp (List.mem_filter.mp this).1
    have hs0 : 0 < A.seconds.length := by
      have : A.seconds.length = A.b ^ A.y := Tm.rows_length _ _
      rw [this]
      exact Nat.pow_pos wf.b0
    have hpl : A.plans.length = A.firsts.length * A.seconds.length := by
      unfold Su172.Abs.plans
      rw [List.length_flatMap]
      simp only [List.length_map]
      rw [List.map_const', List.sum_replicate_nat]
    have hil2 : i < A.firsts.length * A.seconds.length := by
      rw [← hpl]
      rw [winsAll_eq, List.length_map] at hil
      exact hil
    obtain ⟨fr, sr, hfr, hsr, hpi⟩ := Tm.flat_get (fun f h => (f, h)) A.seconds A.firsts i hs0 hil2
    have hget : (A.plans.filter fun p => A.value p.1 p.2 == t)[kk]? = some (fr, sr) := by
      have h1 : ((A.plans.filter fun p => A.value p.1 p.2 == t).map some)[kk]? = some (A.plans[i]?) := by
        rw [hfil, List.getElem?_map, hi0]; rfl
      rw [List.getElem?_map, show A.plans[i]? = some (fr, sr) from hpi] at h1
      cases z : (A.plans.filter fun p => A.value p.1 p.2 == t)[kk]? with
      | none => rw [z] at h1; cases h1
      | some p => rw [z] at h1; exact Option.some.inj h1
    have e : (Su172.does A (.nth t kk)).2 = Su172.num (A.x + A.y) (fr ++ sr) := by
      show (match (A.plans.filter fun (p : List Nat × List Nat) => A.value p.1 p.2 == t)[kk]? with | some p => (A, Su172.num (A.x + A.y) (p.1 ++ p.2)) | none => (A, Su172.no (-33))).2 = _
      rw [hget]
    rw [e] at k
    refine ⟨_, rfl, g, dx, _, rfl, sA _ _ hi, gf_no (by decide +kernel), g, A, F, rfl, gat.same sA, fun H3 sp s3 nsp ⟨srs, Ls⟩ => ?_⟩
    have sB := sA.trans s3
    refine ⟨_, rfl, g, dx, _, rfl, sB _ _ hi, gf_no (by decide +kernel), g, A, F, rfl, gat.same sB, fun H4 fp s4 nfp ⟨frs, Lf⟩ => ?_⟩
    have sC := sB.trans s4
    have hlen2 : srs.length = A.seconds.length := Ls.len
    have hsl : A.seconds.length ≤ 256 := rows_le wf.b1 wf.y1 wf.b0
    obtain ⟨ra, hra⟩ : ∃ ra, frs[i / A.seconds.length]? = some ra := ⟨_, List.getElem?_eq_getElem (by rw [Lf.len]; exact (List.getElem?_eq_some_iff.mp hfr).1)⟩
    obtain ⟨rb, hrb⟩ : ∃ rb, srs[i % A.seconds.length]? = some rb := ⟨_, List.getElem?_eq_getElem (by rw [Ls.len]; exact (List.getElem?_eq_some_iff.mp hsr).1)⟩
    have hrowa := Lf.row _ _ _ hra hfr
    have hrowb := Ls.row _ _ _ hrb hsr
    refine ⟨_, rfl, _, rfl, D, _, _, _, rfl, rfl, SqL.of (s4 _ _ (s3 _ _ hD2)), atI_nat (natsV_get hi0), _, rfl, sp, _, rfl, .inl (SqL.of (s4 _ _ Ls.lst)), ?_⟩
    rw [List.length_map, hlen2]
    refine ⟨_, _, rfl, rfl, ⟨by omega, by omega⟩, fp, _, _, _, rfl, rfl, SqL.of Lf.lst, at_of (j := i / A.seconds.length) rfl (by rw [List.getElem?_map, hra]; rfl), ?_⟩
    refine ⟨_, rfl, _, rfl, _, rfl, D, _, _, _, rfl, rfl, SqL.of (s4 _ _ (s3 _ _ hD2)), atI_nat (natsV_get hi0), _, rfl, sp, _, rfl, .inl (SqL.of (s4 _ _ Ls.lst)), ?_⟩
    rw [List.length_map, hlen2]
    refine ⟨_, _, rfl, rfl, (by show (0 : Int) < (A.seconds.length : Int); omega), sp, _, _, _, rfl, rfl, SqL.of (s4 _ _ Ls.lst), at_of (j := i % A.seconds.length) rfl (by rw [List.getElem?_map, hrb]; rfl), ?_⟩
    refine ⟨_, rfl, g, C, dx, _, _, rfl, sC _ _ hi, G.cl, G.nx, gf_x _ _ _ _ _ _, _, rfl, g, C, dx, _, _, rfl, sC _ _ hi, G.cl, G.ny, gf_y _ _ _ _ _ _, _, _, rfl, rfl, by show 1 ≤ sizeLine; decide, fun l1 nl1 => ?_⟩
    have s5 : Same H4 (upd H4 l1 (.lst (natsV [A.x + A.y]))) := .new nl1
    have hfl : fr.length = A.x := (Tm.mem_rows.mp (List.mem_of_getElem? hfr)).1
    have hsl2 : sr.length = A.y := (Tm.mem_rows.mp (List.mem_of_getElem? hsr)).1
    have hx1 := wf.x1
    have hy1 := wf.y1
    refine ⟨_, rfl, l1, ra, natsV [A.x + A.y], natsV fr, rfl, rfl, upd_same, s5 _ _ hrowa, by rw [natsV_len, natsV_len, hfl, sizeLine_eq]; show 1 + _ ≤ _; omega, fun l2 nl2 => ?_⟩
    have s6 := s5.upd_new (o := .lst (natsV [A.x + A.y] ++ natsV fr)) nl2
    refine ⟨_, rfl, l2, rb, _, natsV sr, rfl, rfl, upd_same, s6 _ _ (s4 _ _ hrowb), by rw [List.length_append, natsV_len, natsV_len, natsV_len, hfl, hsl2, sizeLine_eq]; show 1 + _ + _ ≤ _; omega, fun q nq => ?_⟩
    have s7 := sC.trans s6
    refine k _ q (s7.upd_new nq) (s7.free nq) ?_
    rw [upd_same, ansV_num, natsV_append]
    rfl
end
end Ta

set_option Elab.async false
set_option linter.all false
set_option maxRecDepth 100000
set_option maxHeartbeats 2000000
namespace Ta
open PySem PySem.Spec PyProof.Rows L2
theorem flat_only {α : Type} {n x : Nat} (hx : x < n) (f : Nat → List α) (h : ∀ i, i ≠ x → f i = []) : (List.range n).flatMap f = f x := by
  induction n with
  | zero => omega
  | succ n ih =>
    rw [flat_range]
    by_cases e : x = n
    · subst e
      have : (List.range x).flatMap f = [] := by
        rw [List.flatMap_eq_nil_iff]
        intro i hi
        exact h i (by have := List.mem_range.mp hi; omega)
      rw [this, List.nil_append]
    · rw [ih (by omega), h n (fun z => e z.symm), List.append_nil]
theorem filter_none {α : Type} {p : α → Bool} {l : List α} (h : ∀ a ∈ l, p a = false) : l.filter p = [] := by
  rw [List.filter_eq_nil_iff]
  intro a ha
  rw [h a ha]; decide
theorem filter_all {α : Type} {p : α → Bool} {l : List α} (h : ∀ a ∈ l, p a = true) : l.filter p = l := by
  rw [List.filter_eq_self]
  exact h
def atXY (x y : Nat) (k : List Nat) : Bool := (k.getD 0 0 == x) && (k.getD 1 0 == y)
theorem qk_filter {X Y A B x y : Nat} (hx : x < X) (hy : y < Y) : (qk X Y A B).filter (atXY x y) = (List.range A).flatMap fun a => (List.range B).map fun b => [x, y, a, b] := by
  unfold qk qrow
  rw [List.filter_flatMap, flat_only hx]
  · rw [List.filter_flatMap, flat_only hy]
    · apply filter_all
      intro k hk
      simp only [List.mem_flatMap, List.mem_map] at hk
      obtain ⟨a, _, b, _, rfl⟩ := hk
      simp [atXY]
    · intro j hj
      apply filter_none
      intro k hk
      simp only [List.mem_flatMap, List.mem_map] at hk
      obtain ⟨a, _, b, _, rfl⟩ := hk
      simp [atXY, hj]
  · intro i hi
    apply filter_none
    intro k hk
    simp only [List.mem_flatMap, List.mem_map] at hk
    obtain ⟨j, _, a, _, b, _, rfl⟩ := hk
    simp [atXY, hi]
theorem lc_rangeP {n : Nat} {g : TG} {tt : TT} {te : TE} {vs : List Nat} {σ : L2.St} {H1 : Hp} {D : Addr} {Qd : Hp → Prop} (Pv : Nat → Hp → Prop) (h0 : Pv 0 (upd H1 D (.lst [])))
    (hs : ∀ (i : Nat) H, i < n → Pv i H → g (.int (i : Nat)) (wipe σ vs) H fun σ2 H2 => wipe σ2 vs = wipe σ vs ∧ tt σ2 H2 fun b H3 =>
      if b = true then te σ2 H3 fun y H4 => ∃ acc, H4 D = some (.lst acc) ∧ acc.length < sizeLine ∧ Pv (i + 1) (upd H4 D (.lst (acc ++ [y]))) else Pv (i + 1) H3) (hd : ∀ H, Pv n H → Qd H) :
    ∃ W : Nat → Nat → Hp → Prop, (∃ m, W 0 m (upd H1 D (.lst []))) ∧ ∀ i m H, W i m H →
      ((Itr 0 n).stop i H ∧ Qd H) ∨ ((Itr 0 n).go i H ∧ ∃ Nx : Hp → Prop, (∀ H', Nx H' → ∃ m', m' < m ∧ W (i + 1) m' H') ∧ ∀ x H', (Itr 0 n).yld i H x H' → g x (wipe σ vs) H' fun σ2 H2 => wipe σ2 vs = wipe σ vs ∧ tt σ2 H2 fun b H3 =>
        if b = true then te σ2 H3 fun y H4 => ∃ acc, H4 D = some (.lst acc) ∧ acc.length < sizeLine ∧ Nx (upd H4 D (.lst (acc ++ [y]))) else Nx H3) :=
  lc_range Pv h0 (fun i H hi p => by rw [Int.zero_add]; exact hs i H hi p) hd
section
variable {P : Program} {w : World} {K : PySem.W.Frag} {mg : Str → Option Value} {base : Heap} {C : Addr}
/-! ### pair -/
def spMPair (C : Addr) : Sp := fun vs H Q _ => ∃ (g : Addr) (A : Su172.Abs) (F : Addr → Prop) (x y : Nat), vs = [.ref g, .int x, .int y] ∧ GAt C H g A F ∧ Ro H (Su172.does A (.pair x y)).2 Q
abbrev sMPair : Stmt := inClass (top 34) 26
/-- slots: 0:self 1:x 2:y 3:spot -/
theorem scMPair : FnScope ["self", "x", "y", "spot"] ["self", "x", "y"] (defScope sMPair) := ⟨rfl, rfl, rfl, by decide +kernel, rfl, by decide +kernel, by decide +kernel⟩
theorem ok_mpair {f : Addr} {fd : FuncData} (F : Fun K "pair" "Game.pair" sMPair f fd) (G : GCls K C) (T : Cst mg) : FnOk P w K mg base CX0 1 f fd ["self", "x", "y"] (spMPair C) := by
  refine F.ok scMPair (fun vs H Q E h => ?_) (fun cdv A outer s H vs Q E hr h => ?_)
  · obtain ⟨g, A, F, x, y, rfl, _⟩ := h
    rfl
  · obtain ⟨g, A, F, x, y, rfl, gat, k⟩ := h
    obtain ⟨wd, td, gm, hf⟩ := id gat
    obtain ⟨dx, hi⟩ := gm.ins
    have wf := gm.wf
    have hu := hu_of hr
    refine ⟨_, (pss_cons (ps_if (pt_cmp (pc_dnotin hu (pe_tup (pa_cons (pv 1) (pa_cons (pv 2) pa_nil))) (pe_fld (pv 0) rfl)))
        (pss_one (ps_ret (pe_lst (pa_cons (pe_gi T.NO_SUCH) pa_nil)))) pss_nil)
      (pss_one (ps_ret (pe_op op_cat (pe_lst (pa_cons (pe_dget hu (pe_fld (pv 0) rfl) (pe_tup (pa_cons (pv 1) (pa_cons (pv 2) pa_nil))) (fun _ _ => rfl)) pa_nil)) (pe_lock (pe_lc (te := tDGet (tFld K (tVar 0) "winning") (tVar 3)) (tt := tTest (tOp (rEqD K) (tSl (rSlT K) (tVar 3) tNoPart (tPart (tC (.int 2)))) (tTup (tCons (tVar 1) (tCons (tVar 2) tNil))))) rfl scMPair.nd (pi_keys (pe_fld (pv 0) rfl)) (own := [("spot", 3)]) (blkOk_by rfl) (fun _ _ _ _ _ => pg_name (i := 3) scMPair.nd rfl (Or.inl rfl)) (fun _ _ _ _ _ => pts_one (pt_cmpR (op_eqD hr.units) (pe_slice sl_tup (pv 3) po_none (po_some pe_int)) (pe_tup (pa_cons (pv 1) (pa_cons (pv 2) pa_nil))) (nomark _)))
        (fun _ _ _ _ _ => (pe_dget hu (pe_fld (pv 0) rfl) (pv 3) (fun _ _ => rfl))))))))), ?_⟩
    refine ⟨_, rfl, _, rfl, by show 2 ≤ sizeLine; decide, fun k1 hk1 => ?_⟩
    have s1 : Same H (upd H k1 (.tup (natsV [x, y]))) := .new hk1
    refine ⟨_, rfl, g, C, dx, _, _, rfl, s1 _ _ hi, G.cl, G.nw, gf_w _ _ _ _ _ _, wd, _, rfl, dget_any (k := [x, y]) (s1 _ _ gm.w) upd_same, _, rfl, ?_⟩
    rw [dOf_isSome]
    refine ite2 (fun hc => ?_) fun hc => ?_
    · refine ⟨by show 1 ≤ sizeLine; decide, fun q hq => ?_⟩
      have e : Su172.does A (.pair x y) = (A, Su172.no (-2)) := if_pos (by
        rw [Bool.not_eq_true'] at hc
        have h1 : ¬ (x < A.x ∧ y < A.y) := fun z => of_decide_eq_false hc (pk_mem.mpr z)
        omega)
      rw [e] at k
      exact k _ q (s1.upd_new hq) (s1.free hq) upd_same
    rw [Bool.not_eq_true', Bool.not_eq_false] at hc
    have hkm := of_decide_eq_true hc
    obtain ⟨hx, hy⟩ := pk_mem.mp hkm
    have e : Su172.does A (.pair x y) = (A, Su172.num (A.count x y) ((List.range A.a).flatMap fun a => (List.range A.b).map fun b => Su172.bit (A.won x y a b))) := if_neg (by omega)
    rw [e] at k
    refine ⟨_, rfl, g, C, dx, _, _, rfl, s1 _ _ hi, G.cl, G.nw, gf_w _ _ _ _ _ _, _, rfl, _, rfl, by show 2 ≤ sizeLine; decide, fun k2 hk2 => ?_⟩
    have s2 := s1.upd_new (o := .tup (natsV [x, y])) hk2
    refine ⟨wd, _, rfl, dget_of (k := [x, y]) (s2 _ _ gm.w) upd_same hkm, by show 1 ≤ sizeLine; decide, fun l nl => ?_⟩
    have s3 := s2.upd_new (o := .lst (natsV [A.count x y])) nl
    have hl3 : (upd (upd (upd H k1 (.tup (natsV [x, y]))) k2 (.tup (natsV [x, y]))) l (.lst (natsV [A.count x y]))) l = some (.lst (natsV [A.count x y])) := upd_same
    show tLockE _ _ (upd (upd (upd H k1 (.tup (natsV [x, y]))) k2 (.tup (natsV [x, y]))) l (.lst (natsV [A.count x y]))) _
    generalize upd (upd (upd H k1 (.tup (natsV [x, y]))) k2 (.tup (natsV [x, y]))) l (.lst (natsV [A.count x y])) = H3 at s3 hl3 ⊢
    have t3 := s3 _ _ gm.t
    refine ⟨td, .dT (dOf (qk A.x A.y A.a A.b) (wonV A)), t3, trivial, fun od => ?_⟩
    have nig : g ≠ td := ne_of hi gm.t (by intro z; cases z)
    refine ⟨_, rfl, g, C, dx, _, _, rfl, by rw [upd_ne nig]; exact s3 _ _ hi, G.cl, G.nt, gf_t _ _ _ _ _ _, td, od, rfl, .inr ⟨_, upd_same, fun D hD => ?_⟩⟩
    have hDtd : D ≠ td := fun z => by rw [z, upd_same] at hD; cases hD
    have hD3 : H3 D = none := by rw [upd_ne hDtd] at hD; exact hD
    have hql := qk_lt wf.x1 wf.y1 wf.a1 wf.b1
    refine lc_keysT (kvs := dOf (qk A.x A.y A.a A.b) (wonV A)) (fun i H' => (∀ c o, H3 c = some o → c ≠ td → H' c = some o) ∧ H' td = some (.frz od (.dT (dOf (qk A.x A.y A.a A.b) (wonV A)))) ∧
      H' D = some (.lst (natsV ((((qk A.x A.y A.a A.b).take i).filter (atXY x y)).map fun k => Su172.bit (A.won (k.getD 0 0) (k.getD 1 0) (k.getD 2 0) (k.getD 3 0)))))) ⟨fun c o h n => ?_, ?_, upd_same⟩ (fun i H' _ h => h.2.1) ?_ ?_
    · rw [upd_ne (ne_of_none h hD3), upd_ne n]; exact h
    · rw [upd_ne hDtd.symm, upd_same]
    · rintro i kq v q H4 hkv hq ⟨b4, t4, d4⟩
      obtain ⟨kk, hkk, rfl, rfl⟩ := dOf_at hkv
      obtain ⟨x', y', a', b', rfl, h1, h2, h3, h4⟩ := mem_qk.mp (List.mem_of_getElem? hkk)
      rw [nk_kV] at hq
      have ite4 : i < (qk A.x A.y A.a A.b).length := (List.getElem?_eq_some_iff.mp hkk).1
      refine ⟨rfl, _, rfl, 2, rfl, q, _, rfl, .inl (.inl hq), fun z => by have := z.2; exact absurd (show (2 : Nat) = 4 from this) (by decide), fun u1 hu1 => ?_⟩
      have c1 : cutV (natsV [x', y', a', b']) none (some 2) = natsV [x', y'] := rfl
      rw [c1]
      have s5 : Same H4 (upd H4 u1 (.tup (natsV [x', y']))) := .new hu1
      refine ⟨_, rfl, _, rfl, by show 2 ≤ sizeLine; decide, fun u2 hu2 => ?_⟩
      have s6 := s5.upd_new (o := .tup (natsV [x, y])) hu2
      have e1 : (upd (upd H4 u1 (.tup (natsV [x', y']))) u2 (.tup (natsV [x, y]))) u1 = some (.tup (natsV [x', y'])) := by
        rw [upd_ne (ne_of_none upd_same hu2), upd_same]
      refine ⟨.tuple [.int (x' : Nat), .int (y' : Nat)], .tuple [.int (x : Nat), .int (y : Nat)], .tup (.inl (.inl e1)) (.cons (.int _) (.cons (.int _) .nil)), .tup (.inl (.inl upd_same)) (.cons (.int _) (.cons (.int _) .nil)), rfl, rfl, _, rfl, ?_⟩
      have eb : PyData.eqv (.tuple [.int (x' : Nat), .int (y' : Nat)]) (.tuple [.int (x : Nat), .int (y : Nat)]) = atXY x y [x', y', a', b'] := by
        show (((x' : Int) == (x : Int)) && (((y' : Int) == (y : Int)) && true)) = ((x' == x) && (y' == y))
        rw [Bool.and_true]
        congr 1
        · apply Bool.eq_iff_iff.mpr; rw [beq_iff_eq, beq_iff_eq]; omega
        · apply Bool.eq_iff_iff.mpr; rw [beq_iff_eq, beq_iff_eq]; omega
      rw [eb]
      refine ite2 (fun hc => ?_) fun hc => ?_
      · refine ⟨_, rfl, g, C, dx, _, _, rfl, s6 _ _ (b4 _ _ (s3 _ _ hi) nig), G.cl, G.nt, gf_t _ _ _ _ _ _, _, rfl, td, wonV A [x', y', a', b'], rfl, .inr ⟨_, nk [x', y', a', b'], q, .inr ⟨od, s6 _ _ t4⟩, rfl, by rw [nk_kV]; exact s6 _ _ hq, (dOf_get (qk_mem.mpr ⟨h1, h2, h3, h4⟩)).symm⟩, ?_⟩
        refine ⟨_, s6 _ _ d4, ?_, fun c o h n => ?_, ?_, ?_⟩
        · rw [natsV_len, List.length_map]
          refine Nat.lt_of_le_of_lt (List.length_filter_le _ _) ?_
          rw [List.length_take]
          omega
        · rw [upd_ne (ne_of_none h hD3)]; exact s6 _ _ (b4 _ _ h n)
        · rw [upd_ne hDtd.symm]; exact s6 _ _ t4
        · rw [upd_same, take_snoc hkk, List.filter_append, List.map_append, natsV_append, List.filter_cons, if_pos hc]
          rfl
      · refine ⟨fun c o h n => s6 _ _ (b4 _ _ h n), s6 _ _ t4, ?_⟩
        rw [take_snoc hkk, List.filter_append, List.filter_cons, if_neg hc, List.filter_nil, List.append_nil]
        exact s6 _ _ d4
    · rintro H4 ⟨b4, t4, d4⟩
      rw [dOf_len, List.take_length, qk_filter hx hy] at d4
      refine ⟨t4, ?_⟩
      have s4 : Same H3 (upd H4 td (.dT (dOf (qk A.x A.y A.a A.b) (wonV A)))) := fun c o h => by
        by_cases z : c = td
        · rw [z, upd_same]; rw [z, t3] at h; exact h
        · rw [upd_ne z]; exact b4 _ _ h z
      have d5 : (upd H4 td (.dT (dOf (qk A.x A.y A.a A.b) (wonV A)))) D = some (.lst (natsV ((List.range A.a).flatMap fun a => (List.range A.b).map fun b => Su172.bit (A.won x y a b)))) := by
        rw [upd_ne hDtd, d4, List.map_flatMap]
        congr 3
        congr 1
        funext a
        rw [List.map_map]
        rfl
      generalize upd H4 td (.dT (dOf (qk A.x A.y A.a A.b) (wonV A))) = H5 at s4 d5
      have hab : ((List.range A.a).flatMap fun a => (List.range A.b).map fun b => Su172.bit (A.won x y a b)).length ≤ 16 := by
        have h1 := flatMap_len_le (List.range A.a) 4 (fun a => (List.range A.b).map fun b => Su172.bit (A.won x y a b)) fun a _ => by rw [List.length_map, List.length_range]; exact wf.b1
        rw [List.length_range] at h1
        have := wf.a1
        omega
      refine ⟨l, D, natsV [A.count x y], _, rfl, rfl, s4 _ _ hl3, d5, by rw [natsV_len, natsV_len, sizeLine_eq]; show 1 + _ ≤ _; omega, fun q nq => ?_⟩
      have s6 := s3.trans s4
      refine k _ q (s6.upd_new nq) (s6.free nq) ?_
      rw [upd_same]
      rfl
end
end Ta

set_option Elab.async false
set_option linter.all false
set_option maxRecDepth 100000
set_option maxHeartbeats 2000000
namespace Ta
open PySem PySem.Spec PyProof.Rows L2
/-- what is kept of groups is what they win -/
def GoodW (A : Su172.Abs) (kvs : List (List Key × V)) : Prop := ∀ L v, valV kvs (nk L) = some v → v = .int ((Tm.narrow A L).most_ : Nat)
theorem GoodW.put {A : Su172.Abs} {kvs : List (List Key × V)} (h : GoodW A kvs) (L : List Nat) : GoodW A (putK kvs (nk L) (.int ((Tm.narrow A L).most_ : Nat))) := fun M v e => by
  rw [valV_put] at e
  by_cases z : nk M = nk L
  · rw [if_pos z] at e
    rw [nk_inj z]
    exact (Option.some.inj e).symm
  · rw [if_neg z] at e
    exact h M v e
theorem foldmax_snoc (l : List Nat) (a : Nat) : (l ++ [a]).foldl max 0 = max (l.foldl max 0) a := by
  rw [List.foldl_append]; rfl
section
variable {P : Program} {w : World} {K : PySem.W.Frag} {mg : Str → Option Value} {base : Heap} {C : Addr}
def spMTold (C : Addr) : Sp := fun vs H Q _ => ∃ (g : Addr) (A : Su172.Abs) (F : Addr → Prop) (c : Nat), vs = [.ref g, .int c] ∧ GAt C H g A F ∧ Ro H (Su172.does A (.told c)).2 Q
abbrev sMTold : Stmt := inClass (top 34) 24
/-- slots: 0:self 1:c 2:won_by_group 3:most 4:words 5:won 6:word 7:group 8:x -/
theorem scMTold : FnScope ["self", "c", "won_by_group", "most", "words", "won", "word", "group", "x"] ["self", "c"] (defScope sMTold) := ⟨rfl, rfl, rfl, by decide +kernel, rfl, by decide +kernel, by decide +kernel⟩
theorem ok_mtold {f : Addr} {fd : FuncData} (F : Fun K "told" "Game.told" sMTold f fd) (B : Blt mg) (G : GCls K C) (T : Cst mg) (c_rows_in_order : Cal P w K mg base 1 "rows_in_order" ["questions", "choices"] spRows) (m_narrowed : MCal P w K mg base C 3 "narrowed" ["self", "kept"] (spNarrow K C))
    (m_best : MCal P w K mg base C 3 "best" ["self"] (spMBest C)) (m_heard : MCal P w K mg base C 4 "heard" ["self"] (spHeard C)) : FnOk P w K mg base CX0 5 f fd ["self", "c"] (spMTold C) := by
  refine F.ok scMTold (fun vs H Q E h => ?_) (fun cdv A outer s H vs Q E hr h => ?_)
  · obtain ⟨g, A, F, c, rfl, _⟩ := h
    rfl
  · obtain ⟨g, A, F, c, rfl, gat, k⟩ := h
    obtain ⟨wd, td, gm, hf⟩ := id gat
    obtain ⟨dx, hi⟩ := gm.ins
    have wf := gm.wf
    have hu := hu_of hr
    refine ⟨_, (pss_cons (ps_if (pw_or (pt_cmpR op_lt (pv 1) pe_int (nomark _)) (pw_or1 (pt_cmpR op_gt (pv 1) (pe_gi T.MOST_WORDS) (nomark _)))).pt
        (pss_one (ps_ret (pe_lst (pa_cons (pe_gi T.NOT_AS_TOLD) pa_nil)))) pss_nil)
      (pss_cons (ps_set (i := 2) scMTold.nd rfl (Or.inl rfl) pe_dnewT)
      (pss_cons (ps_set (i := 3) scMTold.nd rfl (Or.inl rfl) pe_int)
      (pss_cons (ps_for PassesOwn.never rfl (pi_list (pe_fn c_rows_in_order (hr.mono (by decide)) (pa_cons (pe_fld (pv 0) rfl) (pa_cons (pv 1) pa_nil)))) (pg_name (i := 4) scMTold.nd rfl (Or.inr rfl))
        (pss_cons (ps_set (i := 5) scMTold.nd rfl (Or.inl rfl) pe_int)
        (pss_cons (ps_for PassesOwn.never rfl (pi_range1 rfl B.range (pa_cons (pv 1) pa_nil)) (pg_name (i := 6) scMTold.nd rfl (Or.inr rfl))
          (pss_cons (ps_set (i := 7) scMTold.nd rfl (Or.inl rfl) (pe_callTy call_tuple_of (by rfl) B.tuple PyProof.Rows.boot_tuple (pa_cons (pe_lc (te := (tVar 8)) (tt := tTest (tOp rEq (tOp (rIxL K) (tVar 4) (tVar 8)) (tVar 6))) rfl scMTold.nd (pi_range1 rfl B.range (pa_cons (pe_fld (pv 0) rfl) pa_nil)) (own := [("x", 8)]) (blkOk_by rfl) (fun _ _ _ _ _ => pg_name (i := 8) scMTold.nd rfl (Or.inl rfl)) (fun _ _ _ _ _ => pts_one (pt_cmpR op_eq (pe_ix ix_list (pv 4) (pv 8) (fun _ _ => rfl)) (pv 6) (nomark _)))
        (fun _ _ _ _ _ => (pv 8))) pa_nil)))
          (pss_cons (ps_if (pt_cmp (pc_dnotin hu (pv 7) (pv 2)))
            (pss_one (ps_dput hu (pv 2) (pv 7) (pe_ix ix_list (pe_me0 m_best (pe_me m_narrowed (pv 0) (hr.mono (by decide)) (pa_cons (pv 7) pa_nil)) (hr.mono (by decide))) pe_int (fun _ _ => rfl)) rfl)) pss_nil)
          (pss_one (ps_aug (i := 5) scMTold.nd rfl (Or.inl rfl) (pe_dget hu (pv 2) (pv 7) (fun _ _ => rfl)) ip_add)))))
        (pss_one (ps_set (i := 3) scMTold.nd rfl (Or.inl rfl) (pe_callB (call_max2 (by rfl)) (by rfl) B.max PyProof.Rows.boot_max (pa_cons (pv 3) (pa_cons (pv 5) pa_nil))))))))
      (pss_one (ps_ret (pe_lst (pa_cons (pv 3) (pa_cons (pe_me0 m_heard (pv 0) (hr.mono (by decide))) pa_nil))))))))), ?_⟩
    have no22 : (c = 0 ∨ 3 < c) → ∀ σ, tLst (tCons (tC (.int (-22))) tNil) σ H Q := fun h σ => by
      refine ⟨by show 1 ≤ sizeLine; decide, fun q hq => ?_⟩
      have e : Su172.does A (.told c) = (A, Su172.no (-22)) := if_pos h
      rw [e] at k
      exact k _ q (.new hq) hq upd_same
    refine ⟨_, rfl, _, _, rfl, rfl, _, rfl, ?_⟩
    refine ite2 (fun hc => ?_) fun hc => ?_
    · have hc := of_decide_eq_true hc
      exact iteT (no22 (by omega) _)
    have hc1 : ¬ (c : Int) < 1 := fun z => hc (decide_eq_true z)
    refine ⟨_, rfl, _, _, rfl, rfl, _, rfl, ?_⟩
    refine ite2 (fun hc => ?_) fun hc => ?_
    · have hc := of_decide_eq_true hc
      exact no22 (by omega) _
    have hc3 : ¬ (3 : Int) < (c : Int) := fun z => hc (decide_eq_true z)
    have hcl : 1 ≤ c ∧ c ≤ 3 := by omega
    have e : Su172.does A (.told c) = (A, Su172.num (A.told c) [A.can]) := if_neg (by omega)
    rw [e, Tm.told_eq wf.a0 wf.b0] at k
    intro wb nwb
    have s1 : Same H (upd H wb (.dT [])) := .new nwb
    refine ⟨_, rfl, g, C, dx, _, _, rfl, s1 _ _ hi, G.cl, G.nx, gf_x _ _ _ _ _ _, _, rfl, A.x, c, rfl, wf.x1, by omega, fun H2 p s2 np ⟨rs, Lw⟩ => ?_⟩
    have sA : Same H H2 := s1.trans s2
    have hw2 : H2 wb = some (.dT []) := s2 _ _ upd_same
    have hrl : (Su172.rows c A.x).length ≤ 256 := rows_le (by omega) wf.x1 hcl.1
    refine ⟨p, rfl, ⟨_, SqL.of Lw.lst⟩, for_list (K := K) (a := p) (xs := rs.map V.ref) (fun i σ H' => ∃ kvs v4 v5 v6 v7 v8, σ = [some (.ref g), some (.int (c : Nat)), some (.ref wb), some (.int ((((Su172.rows c A.x).take i).map (Tm.wordsWin A c)).foldl max 0 : Nat)), v4, v5, v6, v7, v8] ∧ But wb H2 H' ∧ H' wb = some (.dT kvs) ∧ GoodW A kvs ∧ kvs.length ≤ i * c)
      ⟨[], none, none, none, none, none, rfl, fun _ _ _ h => h, hw2, fun L v h => (by cases h), by simp⟩ (fun i σ H' _ ⟨_, _, _, _, _, _, _, b, _⟩ => SqL.of (b _ _ (ne_of Lw.lst hw2 (by intro z; cases z)) Lw.lst)) ?_ ?_⟩
    · rintro i y σ H3 hy ⟨kvs, v4, v5, v6, v7, v8, rfl, b3, hw3, gw3, hl3⟩
      obtain ⟨r, m, hr', rfl, hm, hrm⟩ := Lw.at hy
      have him : i < (Su172.rows c A.x).length := (List.getElem?_eq_some_iff.mp hm).1
      obtain ⟨hml, hmc⟩ := Tm.mem_rows.mp (List.mem_of_getElem? hm)
      have rnw : r ≠ wb := ne_of hrm hw2 (by intro z; cases z)
      refine ⟨_, rfl, c, rfl, by omega, by omega, for_range0 (n := c) (fun j σ H' => ∃ kvs v6 v7 v8, σ = [some (.ref g), some (.int (c : Nat)), some (.ref wb), some (.int ((((Su172.rows c A.x).take i).map (Tm.wordsWin A c)).foldl max 0 : Nat)), some (.ref r), some (.int (Tm.part (fun w => (Tm.narrow A (Tm.group A m w)).most_) j : Nat)), v6, v7, v8] ∧ But wb H2 H' ∧ H' wb = some (.dT kvs) ∧ GoodW A kvs ∧ kvs.length ≤ i * c + j) ?_ ?_ ?_⟩
      · exact ⟨kvs, v6, v7, v8, rfl, b3, hw3, gw3, hl3⟩
      · rintro j σ H4 hj ⟨kvs, v6, v7, v8, rfl, b4, hw4, gw4, hl4⟩
        have s4 : Same H H4 := b4.same' sA nwb
        have hrm4 := b4 _ _ rnw hrm
        -- group
        refine ⟨_, rfl, g, C, dx, _, _, rfl, s4 _ _ hi, G.cl, G.nx, gf_x _ _ _ _ _ _, A.x, rfl, by have := wf.x1; omega, by have := wf.x1; omega, fun D hD => ?_⟩
        refine lc_rangeP (n := A.x) (fun z H' => Same H4 H' ∧ H' D = some (.lst (natsV ((List.range z).filter fun x => m.getD x 0 == j)))) ⟨.new hD, upd_same⟩ ?_ ?_
        · rintro z H5 hz ⟨s5, hD5⟩
          have hg : m[z]? = some (m.getD z 0) := getD_some (by omega)
          refine ⟨rfl, _, rfl, _, rfl, r, _, _, _, rfl, rfl, SqL.of (s5 _ _ hrm4), atI_nat (natsV_get hg), _, rfl, rfl, _, rfl, ?_⟩
          refine ite2 (fun hc => ?_) fun hc => ?_
          · have hc : m.getD z 0 = j := by
              have := of_decide_eq_true hc
              injection this with this
              exact Int.ofNat.inj this
            refine ⟨_, rfl, _, hD5, ?_, s5.upd_free hD, ?_⟩
            · rw [natsV_len, sizeLine_eq]
              have := List.length_filter_le (fun x => m.getD x 0 == j) (List.range z)
              rw [List.length_range] at this
              have := wf.x1
              omega
            · rw [upd_same, range_filter_snoc, if_pos (beq_iff_eq.mpr hc), natsV_append]
              rfl
          · have hc : ¬ m.getD z 0 = j := fun q => hc (decide_eq_true (by show V.int (m.getD z 0 : Nat) = V.int (j : Nat); rw [q]))
            refine ⟨s5, ?_⟩
            rw [hD5, range_filter_snoc, if_neg (fun q => hc (beq_iff_eq.mp q)), List.append_nil]
        rintro H5 ⟨s5, hD5⟩
        have hD5 : H5 D = some (.lst (natsV (Tm.group A m j))) := hD5
        refine ⟨D, _, rfl, .inl ⟨SqL.of hD5, fun gt ngt => ?_⟩⟩
        have s6 : Same H5 (upd H5 gt (.tup (natsV (Tm.group A m j)))) := .new ngt
        have hgt : (upd H5 gt (.tup (natsV (Tm.group A m j)))) gt = some (.tup (natsV (Tm.group A m j))) := upd_same
        generalize upd H5 gt (.tup (natsV (Tm.group A m j))) = H6 at s6 hgt
        have s46 : Same H4 H6 := s5.trans s6
        have s06 : Same H H6 := s4.trans s46
        have b6 : But wb H2 H6 := b4.trans s46.but
        have hw6 := s46 _ _ hw4
        have hgl : (Tm.group A m j).length ≤ 4 := Nat.le_trans (Tm.group_len A m j) wf.x1
        -- the end of a turn
        have fin : ∀ (kvs' : List (List Key × V)) (H7 : Hp), But wb H2 H7 → H7 wb = some (.dT kvs') → H7 gt = some (.tup (natsV (Tm.group A m j))) → GoodW A kvs' → kvs'.length ≤ i * c + (j + 1) → valV kvs' (nk (Tm.group A m j)) = some (.int ((Tm.narrow A (Tm.group A m j)).most_ : Nat)) →
            ∃ (a : Addr) (v : V), V.ref wb = .ref a ∧ DGet H7 a (.ref gt) (some v) ∧ ∃ x y : Int, V.int (Tm.part (fun w => (Tm.narrow A (Tm.group A m w)).most_) j : Nat) = .int x ∧ v = .int y ∧
              (∃ kvs u6 u7 u8, ([some (.ref g), some (.int (c : Nat)), some (.ref wb), some (.int ((((Su172.rows c A.x).take i).map (Tm.wordsWin A c)).foldl max 0 : Nat)), some (.ref r), some (.int (x + y)), some (.int (j : Nat)), some (.ref gt), v8] : L2.St) = [some (.ref g), some (.int (c : Nat)), some (.ref wb), some (.int ((((Su172.rows c A.x).take i).map (Tm.wordsWin A c)).foldl max 0 : Nat)), some (.ref r), some (.int (Tm.part (fun w => (Tm.narrow A (Tm.group A m w)).most_) (j + 1) : Nat)), u6, u7, u8] ∧ But wb H2 H7 ∧ H7 wb = some (.dT kvs) ∧ GoodW A kvs ∧ kvs.length ≤ i * c + (j + 1)) := fun kvs' H7 b7 w7 g7 gw7 l7 e7 => by
          refine ⟨wb, .int ((Tm.narrow A (Tm.group A m j)).most_ : Nat), rfl, ?_, _, _, rfl, rfl, kvs', some (.int (j : Nat)), some (.ref gt), v8, ?_, b7, w7, gw7, l7⟩
          · rw [← e7]; exact DGet.t w7 (by rw [nk_kV]; exact g7)
          · rw [Tm.part_succ]; rfl
        refine ⟨_, rfl, _, rfl, wb, _, rfl, DGet.t (k := nk (Tm.group A m j)) hw6 (by rw [nk_kV]; exact hgt), _, rfl, ?_⟩
        refine ite2 (fun hc => ?_) fun hc => ?_
        · -- it is new
          refine ⟨_, rfl, g, dx, _, rfl, s06 _ _ hi, gf_no (by decide +kernel), _, rfl, g, gt, A, F, Tm.group A m j, rfl, gat.same s06, .inr (.inl (.inl hgt)), hgl, fun v hv => (Tm.mem_group.mp hv).1, fun H7 o F7 s7 G7 new7 => ?_⟩
          obtain ⟨ow, ot, gm7, hf7⟩ := id G7
          obtain ⟨do_, hio⟩ := gm7.ins
          refine ⟨o, do_, _, rfl, hio, gf_no (by decide +kernel), o, _, F7, rfl, G7, fun H8 q s8 nq hq => ?_⟩
          refine ⟨q, _, _, _, rfl, rfl, SqL.of hq, at_of (j := 0) rfl rfl, ?_⟩
          have s68 := s7.trans s8
          have hlt : kvs.length < sizeLine := by
            rw [sizeLine_eq]
            have h1 : i * c ≤ 256 * 3 := Nat.mul_le_mul (by omega) hcl.2
            omega
          refine ⟨_, rfl, _, rfl, wb, _, rfl, DPut.t (k := nk (Tm.group A m j)) (s68 _ _ hw6) (by rw [nk_kV]; exact s68 _ _ hgt) hlt, ?_⟩
          have gtw : gt ≠ wb := ne_of hgt hw6 (by intro z; cases z)
          refine ⟨_, rfl, _, rfl, _, rfl, fin (putK kvs (nk (Tm.group A m j)) (.int ((Tm.narrow A (Tm.group A m j)).most_ : Nat))) _ (b6.trans (s68.but.trans .upd)) upd_same (by rw [upd_ne gtw]; exact s68 _ _ hgt) (gw4.put _) (Nat.le_trans (length_putK _ _ _) (by omega)) (by rw [valV_put, if_pos rfl])⟩
        · have hsome : ∃ v, valV kvs (nk (Tm.group A m j)) = some v := by
            cases z : valV kvs (nk (Tm.group A m j)) with
            | none => rw [z] at hc; exact absurd rfl hc
            | some v => exact ⟨v, rfl⟩
          obtain ⟨v, hv⟩ := hsome
          have ev := gw4 _ _ hv
          rw [ev] at hv
          exact ⟨_, rfl, _, rfl, _, rfl, fin kvs H6 b6 hw6 hgt gw4 (by omega) hv⟩
      · rintro σ H4 ⟨kvs, v6, v7, v8, rfl, b4, hw4, gw4, hl4⟩
        refine ⟨_, rfl, _, rfl, _, _, rfl, ?_⟩
        have em : ∀ a b : Nat, (if (b : Int) > (a : Int) then (b : Int) else (a : Int)) = ((max a b : Nat) : Int) := fun a b => by
          by_cases z : (b : Int) > (a : Int)
          · rw [if_pos z, Nat.max_eq_right (by omega)]
          · rw [if_neg z, Nat.max_eq_left (by omega)]
        rw [em]
        refine ⟨kvs, some (.ref r), some (.int (Tm.part (fun w => (Tm.narrow A (Tm.group A m w)).most_) c : Nat)), v6, v7, v8, ?_, b4, hw4, gw4, by rw [Nat.succ_mul]; exact hl4⟩
        rw [take_snoc hm, List.map_append, List.map_cons, List.map_nil, foldmax_snoc]
        rfl
    · rintro σ H3 ⟨kvs, v4, v5, v6, v7, v8, rfl, b3, hw3, gw3, hl3⟩
      have s3 : Same H H3 := b3.same' sA nwb
      rw [List.length_map, Lw.len, List.take_length]
      refine ⟨_, rfl, _, rfl, g, dx, _, rfl, s3 _ _ hi, gf_no (by decide +kernel), g, A, F, rfl, gat.same s3, fun H4 s4 => ⟨by show 2 ≤ sizeLine; decide, fun q hq => ?_⟩⟩
      have s5 := s3.trans s4
      exact k _ q (s5.upd_new hq) (s5.free hq) (by rw [upd_same]; rfl)
end
end Ta

set_option Elab.async false
set_option linter.all false
set_option maxRecDepth 100000
/-! Sets of pairs as numbers: marks, sums of marks, the order of the sets. -/
namespace Tm
open Su172
abbrev Ky := List Nat
/-- how many of these count -/
def cnt (c : Ky → Bool) (ks : List Ky) : Nat := ks.countP c
theorem cnt_pos {c : Ky → Bool} {k : Ky} {ks : List Ky} (h : c k = true) : cnt c (k :: ks) = cnt c ks + 1 := by unfold cnt; rw [List.countP_cons_of_pos h]
theorem cnt_neg {c : Ky → Bool} {k : Ky} {ks : List Ky} (h : ¬ c k = true) : cnt c (k :: ks) = cnt c ks := by unfold cnt; rw [List.countP_cons_of_neg h]
def markF (c : Ky → Bool) : List Ky → Ky → Nat
  | [], _ => 0
  | k0 :: ks, k => if k = k0 then (if c k0 = true then 2 ^ cnt c ks else 0) else markF c ks k
/-- the keys that a number tells -/
def selK (c : Ky → Bool) : List Ky → Nat → List Ky
  | [], _ => []
  | k :: ks, s => if c k = true then (if 2 ^ cnt c ks ≤ s then k :: selK c ks (s - 2 ^ cnt c ks) else selK c ks s) else selK c ks s
theorem selK_sub (c : Ky → Bool) : ∀ (ks : List Ky) (s : Nat), (selK c ks s).Sublist ks
  | [], _ => List.Sublist.refl _
  | k :: ks, s => by
    unfold selK
    split
    · split
      · exact (selK_sub c ks _).cons_cons k
      · exact (selK_sub c ks _).cons k
    · exact (selK_sub c ks _).cons k
theorem selK_mem {c : Ky → Bool} {k : Ky} : ∀ {ks : List Ky} {s : Nat}, k ∈ selK c ks s → k ∈ ks ∧ c k = true
  | [], _, h => by cases h
  | k0 :: ks, s, h => by
    unfold selK at h
    by_cases hc : c k0 = true
    · rw [if_pos hc] at h
      by_cases hs : 2 ^ cnt c ks ≤ s
      · rw [if_pos hs] at h
        rcases List.mem_cons.mp h with rfl | h
        · exact ⟨List.mem_cons_self .., hc⟩
        · exact ⟨List.mem_cons_of_mem _ (selK_mem h).1, (selK_mem h).2⟩
      · rw [if_neg hs] at h
        exact ⟨List.mem_cons_of_mem _ (selK_mem h).1, (selK_mem h).2⟩
    · rw [if_neg hc] at h
      exact ⟨List.mem_cons_of_mem _ (selK_mem h).1, (selK_mem h).2⟩
theorem markF_self (c : Ky → Bool) (k : Ky) (ks : List Ky) : markF c (k :: ks) k = if c k = true then 2 ^ cnt c ks else 0 := by unfold markF; rw [if_pos rfl]
theorem markF_ne {c : Ky → Bool} {k k0 : Ky} {ks : List Ky} (h : k ≠ k0) : markF c (k0 :: ks) k = markF c ks k := by
  show (if k = k0 then _ else markF c ks k) = _
  rw [if_neg h]
/-- a mark is 0, or a power of two below those that come before -/
theorem markF_form (c : Ky → Bool) : ∀ (ks : List Ky) (k : Ky), markF c ks k = 0 ∨ ∃ j, j < cnt c ks ∧ markF c ks k = 2 ^ j
  | [], k => .inl rfl
  | k0 :: ks, k => by
    have ih := markF_form c ks k
    by_cases e : k = k0
    · subst e
      rw [markF_self]
      by_cases hc : c k = true
      · rw [if_pos hc]; exact .inr ⟨cnt c ks, by rw [cnt_pos hc]; omega, rfl⟩
      · rw [if_neg hc]; exact .inl rfl
    · rw [markF_ne e]
      rcases ih with h | ⟨j, hj, h⟩
      · exact .inl h
      · refine .inr ⟨j, ?_, h⟩
        by_cases hc : c k0 = true
        · rw [cnt_pos hc]; omega
        · rw [cnt_neg hc]; exact hj
theorem and_pow (s j : Nat) : 0 < s &&& 2 ^ j ↔ s.testBit j = true := by
  constructor
  · intro h
    cases e : s.testBit j with
    | true => rfl
    | false =>
      exfalso
      have : s &&& 2 ^ j = 0 := by
        apply Nat.eq_of_testBit_eq
        intro i
        rw [Nat.testBit_and, Nat.testBit_two_pow, Nat.zero_testBit]
        by_cases z : j = i
        · subst z; rw [e]; rfl
        · simp [z]
      omega
  · intro h
    rcases Nat.eq_zero_or_pos (s &&& 2 ^ j) with z | z
    · exfalso
      have h2 : (s &&& 2 ^ j).testBit j = true := by
        rw [Nat.testBit_and, Nat.testBit_two_pow, h]; simp
      rw [z, Nat.zero_testBit] at h2
      cases h2
    · exact z
theorem testBit_top {s M : Nat} (h : s < 2 ^ (M + 1)) : s.testBit M = true ↔ 2 ^ M ≤ s := by
  rw [Nat.testBit_eq_decide_div_mod_eq, decide_eq_true_iff]
  have h1 : s / 2 ^ M < 2 := by
    rw [Nat.div_lt_iff_lt_mul (Nat.pow_pos (by decide))]
    rw [Nat.pow_succ] at h
    omega
  constructor
  · intro e
    rcases Nat.lt_or_ge s (2 ^ M) with q | q
    · rw [Nat.div_eq_of_lt q] at e; cases e
    · exact q
  · intro e
    have h2 : 1 ≤ s / 2 ^ M := by
      rw [Nat.le_div_iff_mul_le (Nat.pow_pos (by decide))]; omega
    omega
theorem testBit_sub {s M j : Nat} (h : 2 ^ M ≤ s) (hj : j < M) : (s - 2 ^ M).testBit j = s.testBit j := by
  have := Nat.testBit_two_pow_add_gt hj (s - 2 ^ M)
  rw [Nat.add_sub_of_le h] at this
  exact this.symm
theorem selK_lt {c : Ky → Bool} {k : Ky} {ks : List Ky} {s : Nat} (hc : c k = true) (hs : s < 2 ^ cnt c (k :: ks)) (h : 2 ^ cnt c ks ≤ s) : s - 2 ^ cnt c ks < 2 ^ cnt c ks := by
  rw [cnt_pos hc, Nat.pow_succ] at hs; omega
/-- which marks a number has -/
theorem and_mark {c : Ky → Bool} : ∀ {ks : List Ky} {s : Nat} {k : Ky}, ks.Nodup → s < 2 ^ cnt c ks → k ∈ ks → (0 < s &&& markF c ks k ↔ k ∈ selK c ks s)
  | [], _, _, _, _, h => by cases h
  | k0 :: ks, s, k, hn, hs, hk => by
    obtain ⟨hn0, hn1⟩ := List.nodup_cons.mp hn
    by_cases e : k = k0
    · subst e
      rw [markF_self]
      unfold selK
      by_cases hc : c k = true
      · rw [if_pos hc, if_pos hc, and_pow, testBit_top (by rw [← cnt_pos hc]; exact hs)]
        by_cases h : 2 ^ cnt c ks ≤ s
        · rw [if_pos h]; exact ⟨fun _ => List.mem_cons_self .., fun _ => h⟩
        · rw [if_neg h]; exact ⟨fun z => absurd z h, fun z => absurd (selK_mem z).1 hn0⟩
      · rw [if_neg hc, if_neg hc, Nat.and_zero]
        exact ⟨fun z => absurd z (Nat.lt_irrefl _), fun z => absurd (selK_mem z).1 hn0⟩
    · have hk' : k ∈ ks := by
        rcases List.mem_cons.mp hk with z | z
        · exact absurd z e
        · exact z
      rw [markF_ne e]
      unfold selK
      by_cases hc : c k0 = true
      · rw [if_pos hc]
        by_cases h : 2 ^ cnt c ks ≤ s
        · rw [if_pos h, List.mem_cons]
          have ih := and_mark (c := c) (k := k) hn1 (selK_lt hc hs h) hk'
          have e2 : (0 < s &&& markF c ks k) ↔ (0 < (s - 2 ^ cnt c ks) &&& markF c ks k) := by
            rcases markF_form c ks k with z | ⟨j, hj, z⟩
            · rw [z, Nat.and_zero, Nat.and_zero]
            · rw [z, and_pow, and_pow, testBit_sub h hj]
          rw [e2, ih]
          exact ⟨fun z => .inr z, fun z => z.resolve_left e⟩
        · rw [if_neg h]
          exact and_mark hn1 (by omega) hk'
      · rw [if_neg hc]
        rw [cnt_neg hc] at hs
        exact and_mark hn1 hs hk'
theorem selK_filter {c : Ky → Bool} {ks : List Ky} {s : Nat} (hn : ks.Nodup) (hs : s < 2 ^ cnt c ks) : ks.filter (fun k => decide (0 < s &&& markF c ks k)) = selK c ks s := by
  have h1 : ks.filter (fun k => decide (0 < s &&& markF c ks k)) = ks.filter fun k => decide (k ∈ selK c ks s) := by
    apply List.filter_congr
    intro k hk
    exact decide_eq_decide.mpr (and_mark hn hs hk)
  rw [h1]
  have key : ∀ (l m : List Ky), m.Sublist l → l.Nodup → l.filter (fun k => decide (k ∈ m)) = m := by
    intro l m h
    induction h with
    | slnil => intro _; rfl
    | @cons l₁ l₂ a h ih =>
      intro hn
      obtain ⟨n1, n2⟩ := List.nodup_cons.mp hn
      rw [List.filter_cons, if_neg (by rw [decide_eq_true_iff]; exact fun z => n1 (h.subset z))]
      exact ih n2
    | @cons_cons l₁ l₂ a h ih =>
      intro hn
      obtain ⟨n1, n2⟩ := List.nodup_cons.mp hn
      rw [List.filter_cons, if_pos (by simp)]
      congr 1
      rw [← ih n2]
      apply List.filter_congr
      intro x hx
      apply decide_eq_decide.mpr
      rw [ih n2, List.mem_cons]
      exact ⟨fun z => z.resolve_left fun q => n1 (q ▸ hx), fun z => .inr z⟩
  exact key _ _ (selK_sub c ks s) hn
/-- the sum of the marks of what is told is the number -/
def sumK (c : Ky → Bool) (ks : List Ky) (p : Ky → Bool) : Nat := (ks.map fun k => if p k = true then markF c ks k else 0).sum
theorem sumK_cons {c : Ky → Bool} {k0 : Ky} {ks : List Ky} (hn : k0 ∉ ks) (p : Ky → Bool) : sumK c (k0 :: ks) p = (if p k0 = true then (if c k0 = true then 2 ^ cnt c ks else 0) else 0) + sumK c ks p := by
  unfold sumK
  rw [List.map_cons, List.sum_cons, markF_self]
  congr 2
  apply List.map_congr_left
  intro k hk
  have e : k ≠ k0 := fun z => hn (by rw [← z]; exact hk)
  rw [markF_ne e]
theorem sumK_lt {c : Ky → Bool} (p : Ky → Bool) : ∀ {ks : List Ky}, ks.Nodup → sumK c ks p < 2 ^ cnt c ks
  | [], _ => Nat.zero_lt_one
  | k0 :: ks, hn => by
    obtain ⟨n1, n2⟩ := List.nodup_cons.mp hn
    have ih := sumK_lt p (c := c) n2
    rw [sumK_cons n1]
    by_cases hc : c k0 = true
    · rw [cnt_pos hc, Nat.pow_succ, if_pos hc]
      split <;> omega
    · rw [cnt_neg hc, if_neg hc]
      split <;> omega
theorem selK_sum {c : Ky → Bool} (p : Ky → Bool) : ∀ {ks : List Ky}, ks.Nodup → selK c ks (sumK c ks p) = (ks.filter c).filter p
  | [], _ => rfl
  | k0 :: ks, hn => by
    obtain ⟨n1, n2⟩ := List.nodup_cons.mp hn
    have ih := selK_sum p (c := c) n2
    have hl := sumK_lt p (c := c) n2
    rw [sumK_cons n1]
    unfold selK
    by_cases hc : c k0 = true
    · rw [if_pos hc, if_pos hc, List.filter_cons, if_pos hc, List.filter_cons]
      by_cases hp : p k0 = true
      · rw [if_pos hp, if_pos hp, if_pos (by omega), Nat.add_sub_cancel_left, ih]
      · rw [if_neg hp, if_neg hp, Nat.zero_add, if_neg (by omega), ih]
    · rw [if_neg hc, if_neg hc, List.filter_cons, if_neg hc]
      have : (if p k0 = true then 0 else 0) + sumK c ks p = sumK c ks p := by split <;> omega
      rw [this, ih]
theorem sumK_sel {c : Ky → Bool} : ∀ {ks : List Ky} {s : Nat}, ks.Nodup → s < 2 ^ cnt c ks → sumK c ks (fun k => decide (k ∈ selK c ks s)) = s
  | [], s, _, hs => by
    have : s = 0 := by unfold cnt at hs; simp at hs; exact hs
    rw [this]; rfl
  | k0 :: ks, s, hn, hs => by
    obtain ⟨n1, n2⟩ := List.nodup_cons.mp hn
    rw [sumK_cons n1]
    have cong : ∀ {p q : Ky → Bool}, (∀ k ∈ ks, p k = q k) → sumK c ks p = sumK c ks q := fun {p q} h => by
      unfold sumK
      congr 1
      apply List.map_congr_left
      intro k hk
      rw [h k hk]
    unfold selK
    by_cases hc : c k0 = true
    · rw [if_pos hc]
      by_cases h : 2 ^ cnt c ks ≤ s
      · rw [if_pos h, if_pos (by simp), if_pos hc]
        have e1 : sumK c ks (fun k => decide (k ∈ k0 :: selK c ks (s - 2 ^ cnt c ks))) = sumK c ks (fun k => decide (k ∈ selK c ks (s - 2 ^ cnt c ks))) := cong fun k hk => by
          apply decide_eq_decide.mpr
          rw [List.mem_cons]
          exact ⟨fun z => z.resolve_left fun q => n1 (q ▸ hk), fun z => .inr z⟩
        rw [e1, sumK_sel n2 (selK_lt hc hs h)]
        omega
      · rw [if_neg h, if_neg (by rw [decide_eq_true_iff]; exact fun z => n1 (selK_mem z).1), Nat.zero_add]
        exact sumK_sel n2 (by omega)
    · rw [if_neg hc, if_neg (by rw [decide_eq_true_iff]; exact fun z => n1 (selK_mem z).1), Nat.zero_add]
      rw [cnt_neg hc] at hs
      exact sumK_sel n2 hs
theorem markF_pos {c : Ky → Bool} : ∀ {ks : List Ky} {k : Ky}, 0 < markF c ks k → k ∈ ks ∧ c k = true
  | [], _, h => absurd h (Nat.lt_irrefl _)
  | k0 :: ks, k, h => by
    by_cases e : k = k0
    · subst e
      rw [markF_self] at h
      by_cases hc : c k = true
      · exact ⟨List.mem_cons_self .., hc⟩
      · rw [if_neg hc] at h; omega
    · rw [markF_ne e] at h
      exact ⟨List.mem_cons_of_mem _ (markF_pos h).1, (markF_pos h).2⟩
theorem markF_count {c : Ky → Bool} : ∀ {ks : List Ky} {k : Ky}, k ∈ ks → c k = true → 0 < markF c ks k
  | k0 :: ks, k, hk, hc => by
    by_cases e : k = k0
    · subst e
      rw [markF_self, if_pos hc]; exact Nat.pow_pos (by decide)
    · rw [markF_ne e]
      refine markF_count ?_ hc
      rcases List.mem_cons.mp hk with z | z
      · exact absurd z e
      · exact z
/-- one mark more -/
theorem selK_add {c : Ky → Bool} {ks : List Ky} {s : Nat} {k : Ky} (hn : ks.Nodup) (hs : s < 2 ^ cnt c ks) (hk : k ∈ ks) (hc : c k = true) (h : k ∉ selK c ks s) : s + markF c ks k < 2 ^ cnt c ks ∧ ∀ k', k' ∈ selK c ks (s + markF c ks k) ↔ k' ∈ selK c ks s ∨ k' = k := by
  have e1 := sumK_sel hn hs
  have e2 : sumK c ks (fun k' => decide (k' ∈ selK c ks s) || decide (k' = k)) = s + markF c ks k := by
    conv => rhs; rw [← e1]
    clear e1
    have gen : ∀ (l : List Ky), l.Nodup → (l.map fun k' => if (decide (k' ∈ selK c ks s) || decide (k' = k)) = true then markF c ks k' else 0).sum = (l.map fun k' => if decide (k' ∈ selK c ks s) = true then markF c ks k' else 0).sum + if k ∈ l then markF c ks k else 0 := by
      intro l
      induction l with
      | nil => intro _; rfl
      | cons a l ih =>
        intro hn
        obtain ⟨n1, n2⟩ := List.nodup_cons.mp hn
        rw [List.map_cons, List.sum_cons, List.map_cons, List.sum_cons, ih n2]
        by_cases z : a = k
        · subst z
          have q1 : (if (decide (a ∈ selK c ks s) || decide (a = a)) = true then markF c ks a else 0) = markF c ks a := if_pos (by simp)
          have q2 : (if decide (a ∈ selK c ks s) = true then markF c ks a else 0) = 0 := if_neg (by rw [decide_eq_true_iff]; exact h)
          rw [q1, q2, if_neg n1, if_pos (List.mem_cons_self ..)]
          omega
        · have e3 : (if (decide (a ∈ selK c ks s) || decide (a = k)) = true then markF c ks a else 0) = if decide (a ∈ selK c ks s) = true then markF c ks a else 0 := by
            simp [z]
          have e4 : (if k ∈ a :: l then markF c ks k else 0) = if k ∈ l then markF c ks k else 0 := by
            have : k ∈ a :: l ↔ k ∈ l := by
              rw [List.mem_cons]
              exact ⟨fun q => q.resolve_left fun y => z y.symm, fun q => .inr q⟩
            simp [this]
          rw [e3, e4]; omega
    have := gen ks hn
    rw [if_pos hk] at this
    exact this
  refine ⟨by rw [← e2]; exact sumK_lt _ hn, fun k' => ?_⟩
  rw [← e2, selK_sum _ hn, List.mem_filter, List.mem_filter, Bool.or_eq_true, decide_eq_true_iff, decide_eq_true_iff]
  constructor
  · exact fun z => z.2
  · intro z
    refine ⟨?_, z⟩
    rcases z with z | rfl
    · exact selK_mem z
    · exact ⟨hk, hc⟩
theorem selK_inj {c : Ky → Bool} {ks : List Ky} {s t : Nat} (hn : ks.Nodup) (hs : s < 2 ^ cnt c ks) (ht : t < 2 ^ cnt c ks) (h : ∀ k, k ∈ selK c ks s ↔ k ∈ selK c ks t) : s = t := by
  rw [← sumK_sel hn hs, ← sumK_sel hn ht]
  unfold sumK
  congr 1
  apply List.map_congr_left
  intro k _
  simp only [h k]
/-- all marks together -/
theorem marks_sum {c : Ky → Bool} : ∀ {ks : List Ky}, ks.Nodup → (ks.map (markF c ks)).sum + 1 = 2 ^ cnt c ks
  | [], _ => rfl
  | k0 :: ks, hn => by
    obtain ⟨n1, n2⟩ := List.nodup_cons.mp hn
    have ih := marks_sum (c := c) n2
    rw [List.map_cons, List.sum_cons, markF_self]
    have e : (ks.map (markF c (k0 :: ks))) = ks.map (markF c ks) := by
      apply List.map_congr_left
      intro k hk
      exact markF_ne fun z => n1 (z ▸ hk)
    rw [e]
    by_cases hc : c k0 = true
    · rw [cnt_pos hc, if_pos hc, Nat.pow_succ]; omega
    · rw [cnt_neg hc, if_neg hc]; omega
/-! ### the sets in order -/
def allsubs {α : Type} : List α → List (List α)
  | [] => [[]]
  | p :: l => (allsubs l).map (fun s => p :: s) ++ allsubs l
theorem range_down (n : Nat) : (List.range (n + n)).reverse = (List.range n).reverse.map (fun i => n + i) ++ (List.range n).reverse := by
  rw [List.range_add, List.reverse_append, List.map_reverse]
theorem selK_all {c : Ky → Bool} : ∀ ks : List Ky, (List.range (2 ^ cnt c ks)).reverse.map (selK c ks) = allsubs (ks.filter c)
  | [] => rfl
  | k0 :: ks => by
    have ih := selK_all (c := c) ks
    by_cases hc : c k0 = true
    · rw [List.filter_cons, if_pos hc, cnt_pos hc, Nat.pow_succ, Nat.mul_two, range_down, List.map_append]
      unfold allsubs
      rw [← ih, List.map_map, List.map_map]
      congr 1
      · apply List.map_congr_left
        intro i hi
        simp only [Function.comp]
        show (if c k0 = true then (if 2 ^ cnt c ks ≤ 2 ^ cnt c ks + i then k0 :: selK c ks (2 ^ cnt c ks + i - 2 ^ cnt c ks) else _) else _) = _
        rw [if_pos hc, if_pos (by omega), Nat.add_sub_cancel_left]
      · apply List.map_congr_left
        intro i hi
        have hi : i < 2 ^ cnt c ks := by simpa using hi
        show (if c k0 = true then (if 2 ^ cnt c ks ≤ i then _ else selK c ks i) else _) = _
        rw [if_pos hc, if_neg (by omega)]
    · rw [List.filter_cons, if_neg hc, cnt_neg hc, ← ih]
      apply List.map_congr_left
      intro i _
      show (if c k0 = true then _ else selK c ks i) = _
      rw [if_neg hc]
theorem allsubs_map {α β : Type} (f : α → β) : ∀ l : List α, allsubs (l.map f) = (allsubs l).map (List.map f)
  | [] => rfl
  | p :: l => by
    show (allsubs (l.map f)).map (fun s => f p :: s) ++ allsubs (l.map f) = ((allsubs l).map (fun s => p :: s) ++ allsubs l).map (List.map f)
    rw [List.map_append, List.map_map, allsubs_map f l, List.map_map]
    rfl
theorem allsubs_len {α : Type} : ∀ {l : List α} {s : List α}, s ∈ allsubs l → s.length ≤ l.length
  | [], s, h => by
    unfold allsubs at h
    rw [List.mem_singleton.mp h]; exact Nat.le_refl _
  | p :: l, s, h => by
    unfold allsubs at h
    rcases List.mem_append.mp h with h | h
    · obtain ⟨t, ht, rfl⟩ := List.mem_map.mp h
      have := allsubs_len ht
      simp; omega
    · have := allsubs_len h
      simp; omega
theorem subsets_eq : ∀ (l : List (Nat × Nat)) (n : Nat), subsets n l = (allsubs l).filter fun s => s.length == n
  | [], 0 => rfl
  | [], n + 1 => rfl
  | p :: l, 0 => by
    unfold subsets allsubs
    rw [List.filter_append]
    have h1 : ((allsubs l).map fun s => p :: s).filter (fun s => s.length == 0) = [] := by
      rw [List.filter_eq_nil_iff]
      intro s hs
      obtain ⟨t, _, rfl⟩ := List.mem_map.mp hs
      simp
    rw [h1, List.nil_append, ← subsets_eq l 0]
    unfold subsets; cases l <;> rfl
  | p :: l, n + 1 => by
    unfold subsets allsubs
    rw [List.filter_append, subsets_eq l n, subsets_eq l (n + 1)]
    congr 1
    rw [List.filter_map]
    congr 1
    apply List.filter_congr
    intro s _
    simp [Function.comp]
/-- the first of the shortest -/
theorem first_short {α : Type} (L : List (List α)) (N : Nat) {i : Nat} {r : List α} (hr : L[i]? = some r) (hN : r.length ≤ N) (h : ∀ j s, L[j]? = some s → r.length ≤ s.length ∧ (j < i → r.length < s.length)) :
    (List.range (N + 1)).findSome? (fun n => (L.filter fun s => s.length == n).head?) = some r := by
  have h0 : ∀ n, n < r.length → (L.filter fun s => s.length == n).head? = none := fun n hn => by
    rw [List.head?_eq_none_iff, List.filter_eq_nil_iff]
    intro s hs
    obtain ⟨j, hj⟩ := List.getElem?_of_mem hs
    have := (h j s hj).1
    intro z
    have := beq_iff_eq.mp z
    omega
  have h1 : (L.filter fun s => s.length == r.length).head? = some r := by
    have hi := (List.getElem?_eq_some_iff.mp hr).1
    have e : L = L.take i ++ r :: L.drop (i + 1) := by
      have := List.take_append_drop i L
      rw [List.drop_eq_getElem_cons hi] at this
      rw [List.getElem?_eq_getElem hi] at hr
      rw [← Option.some.inj hr]
      exact this.symm
    rw [e, List.filter_append]
    have e2 : (L.take i).filter (fun s => s.length == r.length) = [] := by
      rw [List.filter_eq_nil_iff]
      intro s hs
      obtain ⟨j, hj⟩ := List.getElem?_of_mem hs
      have hj2 : j < i := by
        have := (List.getElem?_eq_some_iff.mp hj).1
        rw [List.length_take] at this
        omega
      rw [List.getElem?_take_of_lt hj2] at hj
      have := (h j s hj).2 hj2
      intro z
      have := beq_iff_eq.mp z
      omega
    rw [e2, List.nil_append, List.filter_cons, if_pos (beq_self_eq_true _)]
    rfl
  have go : ∀ m, m ≤ r.length → (List.range m).findSome? (fun n => (L.filter fun s => s.length == n).head?) = none := fun m hm => by
    rw [List.findSome?_eq_none_iff]
    intro n hn
    exact h0 n (by have := List.mem_range.mp hn; omega)
  have e : List.range (N + 1) = List.range r.length ++ (r.length :: (List.range (N - r.length)).map fun i => r.length + 1 + i) := by
    have e1 : N + 1 = r.length + (1 + (N - r.length)) := by omega
    rw [e1, List.range_add, List.range_add, List.map_append, List.map_map]
    congr 1
    show (r.length + 0) :: _ = _
    rw [Nat.add_zero]
    congr 1
    apply List.map_congr_left
    intro i _
    simp only [Function.comp]; omega
  rw [e, List.findSome?_append, go _ (Nat.le_refl _), Option.none_or, List.findSome?_cons, h1]
theorem core_first {A : Abs} {i : Nat} {r : List (Nat × Nat)} (hr : ((allsubs A.pairs).filter fun s => !A.wonAll s)[i]? = some r) (h : ∀ j s, ((allsubs A.pairs).filter fun s => !A.wonAll s)[j]? = some s → r.length ≤ s.length ∧ (j < i → r.length < s.length)) : A.core = some r := by
  have hm := (List.mem_filter.mp (List.mem_of_getElem? hr)).1
  rw [← first_short _ A.pairs.length hr (allsubs_len hm) h]
  unfold Abs.core
  congr 1
  funext n
  rw [subsets_eq]
  generalize allsubs A.pairs = L
  induction L with
  | nil => rfl
  | cons a L ih =>
    rw [List.filter_cons, List.filter_cons]
    by_cases h1 : (a.length == n) = true
    · rw [if_pos h1, List.find?_cons]
      by_cases h2 : (!A.wonAll a) = true
      · rw [if_pos h2, List.filter_cons, if_pos h1]
        simp only [h2]
        rfl
      · rw [if_neg h2]
        have : (!A.wonAll a) = false := by simpa using h2
        simp only [this]
        exact ih
    · rw [if_neg h1]
      by_cases h2 : (!A.wonAll a) = true
      · rw [if_pos h2, List.filter_cons, if_neg h1]; exact ih
      · rw [if_neg h2]; exact ih
end Tm

set_option Elab.async false
set_option linter.all false
set_option maxRecDepth 100000
set_option maxHeartbeats 2000000
namespace Ta
open PySem PySem.Spec PyProof.Rows L2
/-! ### pairs that count, as numbers -/
def cB (A : Su172.Abs) (k : List Nat) : Bool := decide (0 < A.count (k.getD 0 0) (k.getD 1 0))
def toP (k : List Nat) : Nat × Nat := (k.getD 0 0, k.getD 1 0)
theorem pk_nd (X Y : Nat) : (pk X Y).Nodup := by
  induction X with
  | zero => exact List.nodup_nil
  | succ X ih =>
    have e : pk (X + 1) Y = pk X Y ++ (List.range Y).map fun y => [X, y] := by unfold pk; rw [flat_range]
    rw [e, List.nodup_append]
    refine ⟨ih, ?_, fun a ha b hb => ?_⟩
    · rw [List.Nodup, List.pairwise_map]
      exact List.nodup_range.imp fun h e => h (by injection e with _ e; injection e)
    · obtain ⟨x, y, rfl, hx, _⟩ := mem_pk.mp ha
      obtain ⟨z, _, rfl⟩ := List.mem_map.mp hb
      intro q
      injection q with q _
      omega
theorem pairs_eq (A : Su172.Abs) : A.pairs = ((pk A.x A.y).filter (cB A)).map toP := by
  unfold Su172.Abs.pairs pk
  rw [List.filter_flatMap, List.map_flatMap]
  congr 1
  funext x
  generalize List.range A.y = l
  induction l with
  | nil => rfl
  | cons y l ih =>
    rw [List.filterMap_cons, List.map_cons, List.filter_cons]
    by_cases h : A.count x y = 0
    · have hc : ¬ cB A [x, y] = true := by
        show ¬ decide (0 < A.count x y) = true
        rw [h]; decide
      rw [if_neg hc, ← ih]
      simp [h]
    · have hc : cB A [x, y] = true := decide_eq_true (Nat.pos_of_ne_zero h)
      rw [if_pos hc, List.map_cons, ← ih]
      simp [h, toP]
/-- the marks as weights -/
def markW (A : Su172.Abs) (x y : Nat) : Nat := Tm.markF (cB A) (pk A.x A.y) [x, y]
def wonK (A : Su172.Abs) (f h : List Nat) (k : List Nat) : Bool := A.won (k.getD 0 0) (k.getD 1 0) (f.getD (k.getD 0 0) 0) (h.getD (k.getD 1 0) 0)
theorem mark_value {A : Su172.Abs} {f h : List Nat} (hf : f ∈ A.firsts) (hh : h ∈ A.seconds) : (Tm.weigh A (markW A)).value f h = Tm.sumK (cB A) (pk A.x A.y) (wonK A f h) := by
  rw [Tm.value_sum]
  unfold Tm.sumK pk
  rw [List.map_flatMap, Tm.sum_flat]
  show ((List.range A.x).map _).sum = _
  congr 1
  apply List.map_congr_left
  intro x hx
  have hx := List.mem_range.mp hx
  rw [List.map_map]
  show ((List.range A.y).map _).sum = _
  congr 1
  apply List.map_congr_left
  intro y hy
  have hy := List.mem_range.mp hy
  show (if (Tm.weigh A (markW A)).won x y (f.getD x 0) (h.getD y 0) = true then (Tm.weigh A (markW A)).count x y else 0) = if A.won x y (f.getD x 0) (h.getD y 0) = true then Tm.markF (cB A) (pk A.x A.y) [x, y] else 0
  rw [show (Tm.weigh A (markW A)).won x y (f.getD x 0) (h.getD y 0) = A.won x y (f.getD x 0) (h.getD y 0) from Tm.ofFun_won hx hy (Tm.firsts_lt hf hx) (Tm.seconds_lt hh hy), show (Tm.weigh A (markW A)).count x y = markW A x y from Tm.ofFun_count hx hy]
  rfl
/-- the set of a number -/
def setOf (A : Su172.Abs) (s : Nat) : List (List Nat) := Tm.selK (cB A) (pk A.x A.y) s
def wi (A : Su172.Abs) (s : Nat) : Bool := A.wonAll ((setOf A s).map toP)
def nK (A : Su172.Abs) : Nat := 2 ^ Tm.cnt (cB A) (pk A.x A.y)
theorem wi_plan {A : Su172.Abs} {s : Nat} : wi A s = true ↔ ∃ f ∈ A.firsts, ∃ h ∈ A.seconds, ∀ k ∈ setOf A s, wonK A f h k = true := by
  unfold wi
  rw [Tm.wonAll_plan]
  · constructor
    · rintro ⟨f, hf, h, hh, e⟩
      exact ⟨f, hf, h, hh, fun k hk => e (toP k) (List.mem_map.mpr ⟨k, hk, rfl⟩)⟩
    · rintro ⟨f, hf, h, hh, e⟩
      refine ⟨f, hf, h, hh, fun p hp => ?_⟩
      obtain ⟨k, hk, rfl⟩ := List.mem_map.mp hp
      exact e k hk
  · intro p hp
    obtain ⟨k, hk, rfl⟩ := List.mem_map.mp hp
    obtain ⟨x, y, rfl, hx, hy⟩ := mem_pk.mp (Tm.selK_mem hk).1
    exact hy
theorem mem_winsAll {A : Su172.Abs} {t : Nat} : t ∈ winsAll A ↔ ∃ f ∈ A.firsts, ∃ h ∈ A.seconds, A.value f h = t := by
  unfold winsAll
  rw [List.mem_flatMap]
  constructor
  · rintro ⟨f, hf, ht⟩
    obtain ⟨h, hh, e⟩ := List.mem_map.mp ht
    exact ⟨f, hf, h, hh, e⟩
  · rintro ⟨f, hf, h, hh, e⟩
    exact ⟨f, hf, List.mem_map.mpr ⟨h, hh, e⟩⟩
/-- what sums_never_won goes by -/
def Steps (T : Nat → Bool) (ms : List Nat) (S : Nat) (wi : Nat → Bool) : Prop := ∀ s, s ≤ S → wi s = (T s || ms.any fun m => decide (s &&& m = 0) && (decide (0 < m) && (decide (s + m ≤ S) && wi (s + m))))
theorem wi_steps {A : Su172.Abs} {ms : List Nat} (hms : ∀ m, m ∈ ms ↔ ∃ k ∈ pk A.x A.y, Tm.markF (cB A) (pk A.x A.y) k = m) : Steps (fun s => decide (s ∈ winsAll (Tm.weigh A (markW A)))) ms (nK A - 1) (wi A) := by
  have hn := pk_nd A.x A.y
  have hpos : 0 < nK A := Nat.pow_pos (by decide)
  intro s hs
  have hs' : s < nK A := by omega
  apply Bool.eq_iff_iff.mpr
  rw [Bool.or_eq_true, decide_eq_true_iff, List.any_eq_true]
  constructor
  · intro h
    obtain ⟨f, hf, h2, hh, e⟩ := wi_plan.mp h
    have hv := mark_value hf hh
    have hT := Tm.sumK_lt (c := cB A) (wonK A f h2) hn
    have hsel := Tm.selK_sum (c := cB A) (wonK A f h2) hn
    by_cases z : ∀ k, k ∈ Tm.selK (cB A) (pk A.x A.y) s ↔ k ∈ Tm.selK (cB A) (pk A.x A.y) (Tm.sumK (cB A) (pk A.x A.y) (wonK A f h2))
    · left
      rw [Tm.selK_inj hn hs' hT z]
      exact mem_winsAll.mpr ⟨f, hf, h2, hh, hv⟩
    · right
      have hex : ∃ k, k ∈ Tm.selK (cB A) (pk A.x A.y) (Tm.sumK (cB A) (pk A.x A.y) (wonK A f h2)) ∧ k ∉ Tm.selK (cB A) (pk A.x A.y) s := by
        apply Classical.byContradiction
        intro q
        apply z
        intro k
        constructor
        · intro hk
          rw [hsel, List.mem_filter, List.mem_filter]
          obtain ⟨g1, g2⟩ := Tm.selK_mem hk
          exact ⟨⟨g1, g2⟩, e k hk⟩
        · intro hk
          apply Classical.byContradiction
          intro q2
          exact q ⟨k, hk, q2⟩
      obtain ⟨k, hk1, hk2⟩ := hex
      rw [hsel, List.mem_filter, List.mem_filter] at hk1
      obtain ⟨⟨g1, g2⟩, g3⟩ := hk1
      obtain ⟨a1, a2⟩ := Tm.selK_add hn hs' g1 g2 hk2
      refine ⟨Tm.markF (cB A) (pk A.x A.y) k, (hms _).mpr ⟨k, g1, rfl⟩, ?_⟩
      rw [Bool.and_eq_true, Bool.and_eq_true, Bool.and_eq_true, decide_eq_true_iff, decide_eq_true_iff, decide_eq_true_iff]
      refine ⟨?_, Tm.markF_count g1 g2, ?_, ?_⟩
      · rcases Nat.eq_zero_or_pos (s &&& Tm.markF (cB A) (pk A.x A.y) k) with q | q
        · exact q
        · exact absurd ((Tm.and_mark hn hs' g1).mp q) hk2
      · have : s + Tm.markF (cB A) (pk A.x A.y) k < nK A := a1
        omega
      · refine wi_plan.mpr ⟨f, hf, h2, hh, fun k' hk' => ?_⟩
        rcases (a2 k').mp hk' with q | q
        · exact e k' q
        · rw [q]; exact g3
  · rintro (h | ⟨m, hm, h⟩)
    · obtain ⟨f, hf, h2, hh, e⟩ := mem_winsAll.mp h
      have hf : f ∈ A.firsts := hf
      have hh : h2 ∈ A.seconds := hh
      rw [mark_value hf hh] at e
      refine wi_plan.mpr ⟨f, hf, h2, hh, fun k hk => ?_⟩
      unfold setOf at hk
      rw [← e, Tm.selK_sum _ hn] at hk
      exact (List.mem_filter.mp hk).2
    · rw [Bool.and_eq_true, Bool.and_eq_true, Bool.and_eq_true, decide_eq_true_iff, decide_eq_true_iff, decide_eq_true_iff] at h
      obtain ⟨h1, h2, h3, h4⟩ := h
      obtain ⟨k, hk, rfl⟩ := (hms m).mp hm
      obtain ⟨g1, g2⟩ := Tm.markF_pos h2
      have hns : k ∉ Tm.selK (cB A) (pk A.x A.y) s := fun z => by
        have := (Tm.and_mark hn hs' hk).mpr z
        omega
      obtain ⟨a1, a2⟩ := Tm.selK_add hn hs' g1 g2 hns
      obtain ⟨f, hf, h5, hh, e⟩ := wi_plan.mp h4
      exact wi_plan.mpr ⟨f, hf, h5, hh, fun k' hk' => e k' ((a2 k').mpr (.inl hk'))⟩
/-- what is never won, the greatest first -/
def neverL (A : Su172.Abs) : List Nat := (List.range (nK A)).reverse.filter fun s => !wi A s
theorem never_sets (A : Su172.Abs) : (neverL A).map (fun s => (setOf A s).map toP) = (Tm.allsubs A.pairs).filter fun s => !A.wonAll s := by
  unfold neverL
  rw [pairs_eq, Tm.allsubs_map, ← Tm.selK_all, List.map_map, List.filter_map]
  rfl
end Ta

set_option Elab.async false
set_option linter.all false
set_option maxRecDepth 100000
set_option maxHeartbeats 2000000
namespace Ta
open PySem PySem.Spec PyProof.Rows L2
theorem for_rev {K : PySem.W.Frag} {a : Addr} {xs : List V} {g : TG} {tb : TS} {D : Ends} {σ : L2.St} {H : Hp} (Pv : Nat → L2.St → Hp → Prop) (h0 : Pv 0 σ H) (hl : ∀ i σ H, i ≤ xs.length → Pv i σ H → SqL K H a xs)
    (hs : ∀ i x σ H, i < xs.length → xs[xs.length - 1 - i]? = some x → Pv i σ H → g x σ H fun σ2 H2 => tb { D with nx := Pv (i + 1), ct := Pv (i + 1), bk := D.nx } σ2 H2) (hd : ∀ σ H, Pv xs.length σ H → D.nx σ H) :
    ∃ W : Nat → Nat → L2.St → Hp → Prop, (∃ m, W 0 m σ H) ∧ ∀ i m σ H, W i m σ H →
      ((Itv K a xs.length).stop i H ∧ D.nx σ H) ∨ ((Itv K a xs.length).go i H ∧ ∃ N : L2.St → Hp → Prop, (∀ σ' H', N σ' H' → ∃ m', m' < m ∧ W (i + 1) m' σ' H') ∧ ∀ x H', (Itv K a xs.length).yld i H x H' → g x σ H' fun σ2 H2 => tb { D with nx := N, ct := N, bk := D.nx } σ2 H2) := by
  refine ⟨fun i m σ H => m = xs.length - i ∧ i ≤ xs.length ∧ Pv i σ H, ⟨xs.length, by simp, Nat.zero_le _, h0⟩, ?_⟩
  rintro i m σ H ⟨rfl, hi, p⟩
  have q := hl i σ H hi p
  by_cases hlt : i < xs.length
  · refine .inr ⟨⟨hlt, xs, xs[xs.length - 1 - i], q, List.getElem?_eq_getElem (by omega)⟩, Pv (i + 1), fun σ' H' p' => ⟨xs.length - (i + 1), by omega, rfl, hlt, p'⟩, fun x H' y => ?_⟩
    obtain ⟨rfl, y⟩ := y
    exact hs i x σ _ hlt (y xs q) p
  · have e : i = xs.length := by omega
    subst e
    exact .inl ⟨Nat.le_refl _, hd σ H p⟩
theorem bitAnd_nat (a b : Nat) : Builtin.bitAnd (a : Int) (b : Int) = ((a &&& b : Nat) : Int) := by
  unfold Builtin.bitAnd
  rw [decide_eq_true (show (0 : Int) ≤ (a : Int) by omega), decide_eq_true (show (0 : Int) ≤ (b : Int) by omega)]
  rfl
theorem rev_get {n i : Nat} (h : i < n) : (List.range n).reverse[i]? = some (n - 1 - i) := by
  rw [List.getElem?_reverse (by simpa using h), List.length_range, List.getElem?_range (by omega)]
section
variable {P : Program} {w : World} {K : PySem.W.Frag} {mg : Str → Option Value} {base : Heap} {C : Addr}
/-! ### marks -/
def spMarks (C : Addr) : Sp := fun vs H Q _ => ∃ (g : Addr) (A : Su172.Abs) (F : Addr → Prop), vs = [.ref g] ∧ GAt C H g A F ∧
  ∀ (H' : Hp) (d : Addr), Same H H' → H d = none → H' d = some (.dT (dOf (pk A.x A.y).reverse fun k => .int (Tm.markF (cB A) (pk A.x A.y) k : Nat))) → Q (.ref d) H'
abbrev sMarks : Stmt := inClass (top 34) 21
/-- slots: 0:self 1:marks 2:mark 3:asked -/
theorem scMarks : FnScope ["self", "marks", "mark", "asked"] ["self"] (defScope sMarks) := ⟨rfl, rfl, rfl, by decide +kernel, rfl, by decide +kernel, by decide +kernel⟩
theorem ok_marks {f : Addr} {fd : FuncData} (F : Fun K "marks" "Game.marks" sMarks f fd) (B : Blt mg) (G : GCls K C) : FnOk P w K mg base CX0 1 f fd ["self"] (spMarks C) := by
  refine F.ok scMarks (fun vs H Q E h => ?_) (fun cdv A outer s H vs Q E hr h => ?_)
  · obtain ⟨g, A, F, rfl, _⟩ := h
    rfl
  · obtain ⟨g, A, F, rfl, gat, k⟩ := h
    obtain ⟨wd, td, gm, hf⟩ := id gat
    obtain ⟨dx, hi⟩ := gm.ins
    have wf := gm.wf
    have hu := hu_of hr
    refine ⟨_, (pss_cons (ps_set (i := 1) scMarks.nd rfl (Or.inl rfl) pe_dnewT)
      (pss_cons (ps_set (i := 2) scMarks.nd rfl (Or.inl rfl) pe_int)
      (pss_cons (ps_for PassesOwn.never rfl (pi_reversed (by rfl) B.reversed (pa_cons (pe_callTy (cr_listD (by rfl)) (by rfl) B.list PyProof.Rows.boot_list (pa_cons (pe_fld (pv 0) rfl) pa_nil)) pa_nil)) (pg_name (i := 3) scMarks.nd rfl (Or.inl rfl))
        (pss_cons (ps_dput hu (pv 1) (pv 3) pe_int rfl)
        (pss_one (ps_if (pt_cmpR op_gt (pe_dget hu (pe_fld (pv 0) rfl) (pv 3) (fun _ _ => rfl)) pe_int (nomark _))
          (pss_cons (ps_dput hu (pv 1) (pv 3) (pv 2) rfl)
          (pss_one (ps_aug (i := 2) scMarks.nd rfl (Or.inl rfl) (pv 2) ip_add))) pss_nil))))
      (pss_one (ps_ret (pv 1)))))), ?_⟩
    intro md nmd
    have s1 : Same H (upd H md (.dT [])) := .new nmd
    refine ⟨_, rfl, g, C, dx, _, _, rfl, s1 _ _ hi, G.cl, G.nw, gf_w _ _ _ _ _ _, wd, _, rfl, s1 _ _ gm.w, fun l rs nl hlen hk => ?_⟩
    have kl : KL _ l rs (pk A.x A.y) := kl_of nl hlen hk
    have hm2 : (upd (upd H md (.dT [])) l (.lst (rs.map V.ref))) md = some (.dT []) := by rw [upd_ne (ne_of_none upd_same nl), upd_same]
    have s2 : Same H (upd (upd H md (.dT [])) l (.lst (rs.map V.ref))) := s1.upd_new nl
    generalize upd (upd H md (.dT [])) l (.lst (rs.map V.ref)) = H2 at kl s2 hm2
    have hkl : (rs.map V.ref).length = (pk A.x A.y).length := by rw [List.length_map, kl.len]
    refine ⟨l, rs.map V.ref, rfl, SqL.of kl.lst, for_rev (K := K) (a := l) (xs := rs.map V.ref) (fun i σ H' => ∃ v3, σ = [some (.ref g), some (.ref md), some (.int ((2 ^ Tm.cnt (cB A) ((pk A.x A.y).drop ((pk A.x A.y).length - i)) : Nat) : Int)), v3] ∧ But md H2 H' ∧
      H' md = some (.dT (dOf ((pk A.x A.y).drop ((pk A.x A.y).length - i)).reverse fun k => .int (Tm.markF (cB A) ((pk A.x A.y).drop ((pk A.x A.y).length - i)) k : Nat)))) ?_ (fun i σ H' _ ⟨_, _, b, _⟩ => SqL.of (b _ _ (ne_of kl.lst hm2 (by intro z; cases z)) kl.lst)) ?_ ?_⟩
    · refine ⟨none, ?_, fun _ _ _ h => h, ?_⟩
      · rw [Nat.sub_zero, List.drop_length]; rfl
      · rw [hm2, Nat.sub_zero, List.drop_length]; rfl
    · rintro i y σ H3 hi3 hy ⟨v3, rfl, b3, hm3⟩
      rw [hkl] at hy hi3
      obtain ⟨r, k0, hr1, rfl, hk0, htup⟩ := kl.at hy
      have hj : (pk A.x A.y).length - 1 - i < (pk A.x A.y).length := (List.getElem?_eq_some_iff.mp hk0).1
      have eS : (pk A.x A.y).drop ((pk A.x A.y).length - (i + 1)) = k0 :: (pk A.x A.y).drop ((pk A.x A.y).length - i) := by
        have e1 : (pk A.x A.y).length - (i + 1) = (pk A.x A.y).length - 1 - i := by omega
        rw [e1, List.drop_eq_getElem_cons hj]
        rw [List.getElem?_eq_getElem hj] at hk0
        congr 1
        · exact Option.some.inj hk0
        · congr 1; omega
      have hnd : (k0 :: (pk A.x A.y).drop ((pk A.x A.y).length - i)).Nodup := by rw [← eS]; exact (pk_nd A.x A.y).sublist (List.drop_sublist _ _)
      rw [eS]
      have hSl : ((pk A.x A.y).drop ((pk A.x A.y).length - i)).length ≤ (pk A.x A.y).length := by rw [List.length_drop]; omega
      generalize (pk A.x A.y).drop ((pk A.x A.y).length - i) = S at hm3 hnd hSl ⊢
      obtain ⟨n1, n2⟩ := List.nodup_cons.mp hnd
      have hkm := List.mem_of_getElem? hk0
      have hpl := pk_lt wf.x1 wf.y1
      have t3 := b3 _ _ (ne_of htup hm2 (by intro z; cases z)) htup
      have s3 : Same H H3 := b3.same' s2 nmd
      have n1r : k0 ∉ S.reverse := fun z => n1 (List.mem_reverse.mp z)
      refine ⟨_, rfl, _, rfl, md, _, rfl, dput_newF (k := k0) hm3 t3 n1r (by rw [List.length_reverse]; omega), ?_⟩
      have b4 : But md H2 (upd H3 md (.dT (dOf (S.reverse ++ [k0]) fun k' => if k' = k0 then .int 0 else .int (Tm.markF (cB A) S k' : Nat)))) := b3.trans .upd
      have hm4 : (upd H3 md (.dT (dOf (S.reverse ++ [k0]) fun k' => if k' = k0 then V.int 0 else .int (Tm.markF (cB A) S k' : Nat)))) md = some (.dT (dOf (S.reverse ++ [k0]) fun k' => if k' = k0 then .int 0 else .int (Tm.markF (cB A) S k' : Nat))) := upd_same
      generalize upd H3 md (.dT (dOf (S.reverse ++ [k0]) fun k' => if k' = k0 then V.int 0 else .int (Tm.markF (cB A) S k' : Nat))) = H4 at b4 hm4
      have s4 : Same H H4 := b4.same' s2 nmd
      have t4 := b4 _ _ (ne_of htup hm2 (by intro z; cases z)) htup
      refine ⟨_, rfl, g, C, dx, _, _, rfl, s4 _ _ hi, G.cl, G.nw, gf_w _ _ _ _ _ _, _, rfl, wd, _, rfl, dget_of (s4 _ _ gm.w) t4 hkm, _, _, rfl, rfl, _, rfl, ?_⟩
      refine ite2 (fun hc => ?_) fun hc => ?_
      · have hc : cB A k0 = true := by
          have := of_decide_eq_true hc
          exact decide_eq_true (by omega)
        refine ⟨_, rfl, _, rfl, _, rfl, md, _, rfl, dput_of (k := k0) hm4 t4 (by simp) (by rw [List.length_append, List.length_reverse, sizeLine_eq]; rw [sizeLine_eq] at hpl; show _ + 1 < _; have := pk_len A.x A.y; have := Nat.mul_le_mul wf.x1 wf.y1; omega), ?_⟩
        refine ⟨_, rfl, _, rfl, _, _, rfl, rfl, some (.ref r), ?_, b4.trans .upd, ?_⟩
        · rw [Tm.cnt_pos hc, Nat.pow_succ]
          have : (((2 ^ Tm.cnt (cB A) S * 2 : Nat)) : Int) = ((2 ^ Tm.cnt (cB A) S : Nat) : Int) + ((2 ^ Tm.cnt (cB A) S : Nat) : Int) := by omega
          rw [this]
          rfl
        · rw [upd_same, List.reverse_cons]
          congr 2
          apply dOf_congr
          intro k hk
          by_cases z : k = k0
          · rw [if_pos z, z, Tm.markF_self, if_pos hc]
          · rw [if_neg z, if_neg z, Tm.markF_ne z]
      · have hc : ¬ cB A k0 = true := fun z => hc (by
          have z := of_decide_eq_true z
          exact decide_eq_true (by show (0 : Int) < ((A.count (k0.getD 0 0) (k0.getD 1 0) : Nat) : Int); omega))
        refine ⟨some (.ref r), ?_, b4, ?_⟩
        · rw [Tm.cnt_neg hc]; rfl
        · rw [hm4, List.reverse_cons]
          congr 2
          apply dOf_congr
          intro k hk
          by_cases z : k = k0
          · rw [if_pos z, z, Tm.markF_self, if_neg hc]; rfl
          · rw [if_neg z, Tm.markF_ne z]
    · rintro σ H3 ⟨v3, rfl, b3, hm3⟩
      rw [hkl, Nat.sub_self, List.drop_zero] at hm3
      exact ⟨_, rfl, k H3 md (b3.same' s2 nmd) nmd hm3⟩
/-! ### sums_never_won -/
def spNever (K : PySem.W.Frag) : Sp := fun vs H Q _ => ∃ (wd ml : Addr) (kv : List (Key × V)) (T : Nat → Bool) (ms : List Nat) (wi : Nat → Bool), vs = [.ref wd, .ref ml] ∧ H wd = some (.dK kv) ∧ (∀ n : Nat, (valV kv (.inl (n : Int))).isSome = T n) ∧ SqL K H ml (natsV ms) ∧ ms.length ≤ 100 ∧ ms.sum ≤ 100000 ∧ Steps T ms ms.sum wi ∧
  ∀ (H' : Hp) (q : Addr), Same H H' → H q = none → H' q = some (.lst (natsV ((List.range (ms.sum + 1)).reverse.filter fun s => !wi s))) → Q (.ref q) H'
abbrev sNever : Stmt := top 33
/-- slots: 0:won 1:marks 2:within 3:never 4:some 5:larger 6:mark 7:more -/
theorem scNever : FnScope ["won", "marks", "within", "never", "some", "larger", "mark", "more"] ["won", "marks"] (defScope sNever) := ⟨rfl, rfl, rfl, by decide +kernel, rfl, by decide +kernel, by decide +kernel⟩
theorem ok_never {f : Addr} {fd : FuncData} (F : Fun K "sums_never_won" "sums_never_won" sNever f fd) (B : Blt mg) : FnOk P w K mg base CX0 1 f fd ["won", "marks"] (spNever K) := by
  refine F.ok scNever (fun vs H Q E h => ?_) (fun cdv A outer s H vs Q E hr h => ?_)
  · obtain ⟨wd, ml, kv, T, ms, wi, rfl, _⟩ := h
    rfl
  · obtain ⟨wd, ml, kv, T, ms, wi, rfl, hwd, hT, hml, hml1, hms, hst, k⟩ := h
    have hu := hu_of hr
    refine ⟨_, (pss_cons (ps_set (i := 2) scNever.nd rfl (Or.inr rfl) pe_dnewK)
      (pss_cons (ps_set (i := 3) scNever.nd rfl (Or.inl rfl) (pe_lst pa_nil))
      (pss_cons (ps_for PassesOwn.never rfl (pi_range3 rfl B.range (pa_cons (pe_callB (cr_sum (by rfl)) (by rfl) B.sum PyProof.Rows.boot_sum (pa_cons (pv 1) pa_nil)) (pa_cons (pe_un un_neg pe_int) (pa_cons (pe_un un_neg pe_int) pa_nil)))) (pg_name (i := 4) scNever.nd rfl (Or.inr rfl))
        (pss_cons (ps_setLc (i := 5) (te := _) rfl scNever.nd rfl rfl (sw_true rfl rfl rfl rfl) (pi_list (pv 1)) (own := [("mark", 6)]) (blkOk_by rfl) (fun _ _ _ _ _ => pg_name (i := 6) scNever.nd rfl (Or.inl rfl)) (fun _ _ _ _ _ => pts_one (pt_cmpR op_eq (pe_op op_and (pv 4) (pv 6)) pe_int (nomark _)))
        (fun _ _ _ _ _ => (pe_op op_add (pv 4) (pv 6))))
        (pss_one (ps_if (pw_or (pt_cmp (pc_din hu (pv 4) (pv 0))) (pw_or1 (pt_val (pe_callB (cr_any (by rfl)) (by rfl) B.any PyProof.Rows.boot_any (pa_cons (pe_lc (te := _) rfl scNever.nd (pi_list (pv 5)) (own := [("more", 7)]) (blkOk_by rfl) (fun _ _ _ _ _ => pg_name (i := 7) scNever.nd rfl (Or.inl rfl)) (fun _ _ _ _ _ => pts_nil)
        (fun _ _ _ _ _ => (pe_cmp (pc_din hu (pv 7) (pv 2))))) pa_nil))))).pt
          (pss_one (ps_dput hu (pv 2) (pv 4) pe_bl rfl))
          (pss_one (ps_expr (pe_bm PySem.F.plainAttrs_list PySem.F.slot_list_append PySem.F.type_list_append mt_append (pv 3) (pa_cons (pv 4) pa_nil))))))))
      (pss_one (ps_ret (pv 3)))))), ?_⟩
    intro id nid
    have s1 : Same H (upd H id (.dK [])) := .new nid
    refine ⟨Nat.zero_le _, fun nl nnl => ?_⟩
    have s2 : Same H (upd (upd H id (.dK [])) nl (.lst [])) := s1.upd_new nnl
    have nnl0 : H nl = none := s1.free nnl
    have idnl : id ≠ nl := ne_of_none upd_same nnl
    have hid2 : (upd (upd H id (.dK [])) nl (.lst [])) id = some (.dK []) := by rw [upd_ne idnl, upd_same]
    have hnl2 : (upd (upd H id (.dK [])) nl (.lst [])) nl = some (.lst []) := upd_same
    generalize upd (upd H id (.dK [])) nl (.lst []) = H2 at s2 hid2 hnl2
    refine ⟨_, rfl, ml, _, rfl, by rw [← natsV_ints]; exact s2.seq hml, 1, rfl, 1, rfl, ?_⟩
    rw [sum_cast]
    refine ⟨(ms.sum : Nat), -1, -1, ms.sum + 1, rfl, by have := RgC.neg (i := (ms.sum : Nat)) (j := -1) (by omega) (by omega) (by omega) (by omega); rw [show ((ms.sum : Nat) - (-1) : Int).toNat = ms.sum + 1 by omega] at this; exact this, ?_⟩
    refine for_rangeC (n := ms.sum + 1) (fun i σ H' => ∃ kv' v4 v5 v6 v7, σ = [some (.ref wd), some (.ref ml), some (.ref id), some (.ref nl), v4, v5, v6, v7] ∧ Same H H' ∧ H' id = some (.dK kv') ∧ (∀ n : Nat, (valV kv' (.inl (n : Int))).isSome = (decide (ms.sum < n + i) && (decide (n ≤ ms.sum) && wi n))) ∧ kv'.length ≤ i ∧
      H' nl = some (.lst (natsV (((List.range (ms.sum + 1)).reverse.take i).filter fun s => !wi s)))) ?_ ?_ ?_
    · refine ⟨[], none, none, none, none, rfl, s2, hid2, fun n => ?_, Nat.le_refl _, hnl2⟩
      show false = _
      by_cases h : n ≤ ms.sum
      · rw [decide_eq_false (show ¬ ms.sum < n + 0 by omega)]; rfl
      · rw [decide_eq_false h]; simp
    · rintro i σ H3 hi ⟨kv', v4, v5, v6, v7, rfl, s3, hid3, hk3, hl3, hn3⟩
      have e0 : ((ms.sum : Nat) : Int) + ((i : Nat) : Int) * (-1) = ((ms.sum - i : Nat) : Int) := by omega
      rw [e0]
      generalize hsd : ms.sum - i = sm
      have hsm : sm + i = ms.sum := by omega
      have hrev : (List.range (ms.sum + 1)).reverse[i]? = some sm := by
        rw [rev_get (by omega)]
        exact congrArg some (by omega)
      have hlf : ∀ j : Nat, (((ms.take j).filter fun m => decide (sm &&& m = 0)).map (sm + ·)).length < sizeLine := fun j => by
        rw [List.length_map, sizeLine_eq]
        have h1 := List.length_filter_le (fun m => decide (sm &&& m = 0)) (ms.take j)
        rw [List.length_take] at h1
        omega
      refine ⟨_, rfl, ml, rfl, ⟨_, s3.seq hml⟩, fun D hD => ?_⟩
      refine lc_list (xs := natsV ms) (fun j H' => Same H3 H' ∧ H' D = some (.lst (natsV (((ms.take j).filter fun m => decide (sm &&& m = 0)).map (sm + ·))))) ⟨.new hD, upd_same⟩ (fun j H' _ h => h.1.seq (s3.seq hml)) ?_ ?_
      · rintro j x H4 hx ⟨s4, hD4⟩
        obtain ⟨m, hm, rfl⟩ := natsV_of hx
        refine ⟨rfl, _, rfl, _, rfl, _, _, rfl, rfl, rfl, _, rfl, ?_⟩
        refine ite2 (fun hc => ?_) fun hc => ?_
        · have hc : sm &&& m = 0 := by
            have q : V.int (Builtin.bitAnd (sm : Int) (m : Int)) = V.int 0 := of_decide_eq_true hc
            rw [bitAnd_nat] at q
            injection q with q
            omega
          refine ⟨_, rfl, _, rfl, _, _, rfl, rfl, _, hD4, by rw [natsV_len]; exact hlf j, s4.upd_free hD, ?_⟩
          rw [upd_same, take_snoc hm, List.filter_append, List.map_append, natsV_append, List.filter_cons, if_pos (decide_eq_true hc)]
          rfl
        · have hc : ¬ (sm &&& m = 0) := fun z => hc (decide_eq_true (by show V.int (Builtin.bitAnd (sm : Int) (m : Int)) = V.int 0; rw [bitAnd_nat, z]; rfl))
          refine ⟨s4, ?_⟩
          rw [hD4, take_snoc hm, List.filter_append, List.filter_cons, if_neg (by rw [decide_eq_true_iff]; exact hc), List.filter_nil, List.append_nil]
      rintro H4 ⟨s4, hD4⟩
      rw [natsV_len, List.take_length] at hD4
      have s04 := s3.trans s4
      have hid4 := s4 _ _ hid3
      have hn4 := s4 _ _ hn3
      -- what the turn does
      have yes : ∀ H5 : Hp, Same H4 H5 → wi sm = true → ∀ v6 v7, ∃ a H6, V.ref id = .ref a ∧ DPut H5 a (.int (sm : Nat)) (.bl true) H6 ∧
          ∃ kv' v4 v5 v6' v7', ([some (.ref wd), some (.ref ml), some (.ref id), some (.ref nl), some (.int (sm : Nat)), some (.ref D), v6, v7] : L2.St) = [some (.ref wd), some (.ref ml), some (.ref id), some (.ref nl), v4, v5, v6', v7'] ∧ Same H H6 ∧ H6 id = some (.dK kv') ∧ (∀ n : Nat, (valV kv' (.inl (n : Int))).isSome = (decide (ms.sum < n + (i + 1)) && (decide (n ≤ ms.sum) && wi n))) ∧ kv'.length ≤ i + 1 ∧
            H6 nl = some (.lst (natsV (((List.range (ms.sum + 1)).reverse.take (i + 1)).filter fun s => !wi s))) := fun H5 s5 hw v6 v7 => by
        refine ⟨id, _, rfl, DPut.k (k := .inl (sm : Int)) (s5 _ _ hid4) (by rw [sizeLine_eq]; omega), _, some (.int (sm : Nat)), some (.ref D), v6, v7, rfl, (s04.trans s5).upd_free nid, upd_same, fun n => ?_, Nat.le_trans (length_putK _ _ _) (by omega), ?_⟩
        · rw [valV_put]
          by_cases z : n = sm
          · subst z
            rw [if_pos rfl, hw, decide_eq_true (show ms.sum < n + (i + 1) by omega), decide_eq_true (show n ≤ ms.sum by omega)]; rfl
          · rw [if_neg (fun q => z (by injection q with q; omega)), hk3 n]
            congr 1
            exact decide_eq_decide.mpr (by omega)
        · rw [upd_ne idnl.symm, take_snoc hrev, List.filter_append, List.filter_cons, if_neg (by rw [hw]; decide), List.filter_nil, List.append_nil]
          exact s5 _ _ hn4
      have no : ∀ H5 : Hp, Same H4 H5 → wi sm = false → ∀ v6 v7, ∃ kv' v4 v5 v6' v7', ([some (.ref wd), some (.ref ml), some (.ref id), some (.ref nl), some (.int (sm : Nat)), some (.ref D), v6, v7] : L2.St) = [some (.ref wd), some (.ref ml), some (.ref id), some (.ref nl), v4, v5, v6', v7'] ∧ Same H (upd H5 nl (.lst (natsV (((List.range (ms.sum + 1)).reverse.take i).filter fun s => !wi s) ++ [.int (sm : Nat)]))) ∧
            (upd H5 nl (.lst (natsV (((List.range (ms.sum + 1)).reverse.take i).filter fun s => !wi s) ++ [.int (sm : Nat)]))) id = some (.dK kv') ∧ (∀ n : Nat, (valV kv' (.inl (n : Int))).isSome = (decide (ms.sum < n + (i + 1)) && (decide (n ≤ ms.sum) && wi n))) ∧ kv'.length ≤ i + 1 ∧
            (upd H5 nl (.lst (natsV (((List.range (ms.sum + 1)).reverse.take i).filter fun s => !wi s) ++ [.int (sm : Nat)]))) nl = some (.lst (natsV (((List.range (ms.sum + 1)).reverse.take (i + 1)).filter fun s => !wi s))) := fun H5 s5 hw v6 v7 => by
        refine ⟨kv', some (.int (sm : Nat)), some (.ref D), v6, v7, rfl, (s04.trans s5).upd_free nnl0, ?_, fun n => ?_, by omega, ?_⟩
        · rw [upd_ne idnl]; exact s5 _ _ hid4
        · rw [hk3 n]
          by_cases z : n = sm
          · subst z
            rw [hw]; simp
          · congr 1
            exact decide_eq_decide.mpr (by omega)
        · rw [upd_same, take_snoc hrev, List.filter_append, natsV_append, List.filter_cons, if_pos (by rw [hw]; rfl)]
          rfl
      have heq := hst sm (by omega)
      refine ⟨_, rfl, _, rfl, wd, _, rfl, DGet.k (k := .inl (sm : Int)) (s04 _ _ hwd), _, rfl, ?_⟩
      rw [hT sm]
      refine ite2 (fun hc => ?_) fun hc => ?_
      · refine iteT ?_
        have hw : wi sm = true := by rw [heq, hc, Bool.true_or]
        exact ⟨_, rfl, _, rfl, yes H4 (.refl _) hw _ _⟩
      have hc : T sm = false := by simpa using hc
      refine ⟨_, rfl, D, rfl, ⟨_, SqL.of hD4⟩, fun D2 hD2 => ?_⟩
      refine lc_list1 (xs := natsV ((ms.filter fun m => decide (sm &&& m = 0)).map (sm + ·))) hD2 (by rw [natsV_len]; have := hlf ms.length; rw [List.take_length] at this; exact this) (SqL.of hD4) (fun j y _ => ∃ n : Nat, ((ms.filter fun m => decide (sm &&& m = 0)).map (sm + ·))[j]? = some n ∧ y = .bl (decide (ms.sum < n + i) && (decide (n ≤ ms.sum) && wi n))) (fun _ _ _ _ _ h => h) ?_ ?_
      · intro j x H5 Q' hx s5 _ k'
        obtain ⟨n, hn, rfl⟩ := natsV_of hx
        refine ⟨_, rfl, _, rfl, id, _, rfl, DGet.k (k := .inl (n : Int)) (s5 _ _ hid4), k' _ _ (.refl _) ⟨n, hn, ?_⟩⟩
        rw [hk3 n]
      · intro H5 ys s5 hD5 hlen5 hR
        have ey : ys = (((ms.filter fun m => decide (sm &&& m = 0)).map (sm + ·)).map fun n => (decide (ms.sum < n + i) && (decide (n ≤ ms.sum) && wi n))).map V.bl := by
          rw [List.map_map]
          refine items_map (by rw [hlen5, natsV_len]) fun j y x h1 h2 => ?_
          obtain ⟨n, hn, rfl⟩ := hR j y h1
          rw [hn] at h2
          cases h2
          rfl
        refine ⟨D2, _, rfl, SqL.of (by rw [hD5, ey]), _, rfl, ?_⟩
        have eany : ((((ms.filter fun m => decide (sm &&& m = 0)).map (sm + ·)).map fun n => (decide (ms.sum < n + i) && (decide (n ≤ ms.sum) && wi n))).any _root_.id) = wi sm := by
          rw [heq, hc, Bool.false_or, List.any_map, List.any_map, List.any_filter]
          congr 1
          funext m
          simp only [Function.comp, _root_.id]
          have : decide (ms.sum < sm + m + i) = decide (0 < m) := decide_eq_decide.mpr (by omega)
          rw [this]
        rw [eany]
        refine ite2 (fun hw => ?_) fun hw => ?_
        · exact ⟨_, rfl, _, rfl, yes H5 s5 hw _ _⟩
        · have hw : wi sm = false := by simpa using hw
          have hn5 := s5 _ _ hn4
          refine ⟨_, rfl, .inl ⟨rfl, _, SqL.of hn5⟩, _, rfl, nl, _, _, rfl, rfl, hn5, ?_, no H5 s5 hw _ _⟩
          rw [natsV_len, sizeLine_eq]
          have h1 := List.length_filter_le (fun s => !wi s) ((List.range (ms.sum + 1)).reverse.take i)
          rw [List.length_take, List.length_reverse, List.length_range] at h1
          omega
    · rintro σ H3 ⟨kv', v4, v5, v6, v7, rfl, s3, hid3, hk3, hl3, hn3⟩
      rw [List.take_of_length_le (by simp)] at hn3
      exact ⟨_, rfl, k H3 nl s3 nnl0 hn3⟩
end
end Ta

set_option Elab.async false
set_option linter.all false
set_option maxRecDepth 100000
set_option maxHeartbeats 4000000
namespace Ta
open PySem PySem.Spec PyProof.Rows L2
theorem dp_nats {K : PySem.W.Frag} {H : Hp} : ∀ l : List Nat, DpAll K H (natsV l) (l.map fun (n : Nat) => PyData.int (n : Int))
  | [] => .nil
  | n :: l => .cons (.int _) (dp_nats l)
theorem shaped_nats (l : List Nat) : SeqAt.shaped (.list (l.map fun (n : Nat) => PyData.int (n : Int))) = true := by
  have h1 : ∀ l : List Nat, PyData.canLayAll0 (l.map fun (n : Nat) => PyData.int (n : Int)) = true := by
    intro l
    induction l with
    | nil => rfl
    | cons a l ih =>
      show (PyData.canLay0 (.int (a : Int)) && PyData.canLayAll0 _) = true
      rw [ih]; rfl
  have h2 : ∀ l : List Nat, PyData.depthAll (l.map fun (n : Nat) => PyData.int (n : Int)) ≤ 1 := by
    intro l
    induction l with
    | nil => decide
    | cons a l ih =>
      show max (PyData.depth (.int (a : Int))) (PyData.depthAll _) ≤ 1
      refine Nat.max_le.mpr ⟨?_, ih⟩
      show PyData.depth (.int (a : Int)) ≤ 1
      simp [PyData.depth]
  unfold SeqAt.shaped
  rw [Bool.and_eq_true]
  refine ⟨h1 l, decide_eq_true ?_⟩
  have := h2 l
  show PyData.depthAll _ + 1 ≤ 64
  omega
theorem eqv_nil (l : List Nat) : PyData.eqv (.list (l.map fun (n : Nat) => PyData.int (n : Int))) (.list []) = l.isEmpty := by
  cases l <;> rfl
theorem allsubs_self {α : Type} : ∀ l : List α, l ∈ Tm.allsubs l
  | [] => List.mem_singleton.mpr rfl
  | a :: l => List.mem_append.mpr (.inl (List.mem_map.mpr ⟨l, allsubs_self l, rfl⟩))
theorem KL.snoc {H H' : Hp} {p u : Addr} {rs : List Addr} {L : List (List Nat)} {l : List Nat} (T : KL H p rs L) (b : But p H H') (h : H' p = some (.lst (rs.map V.ref ++ [V.ref u]))) (hu : H' u = some (.tup (natsV l))) : KL H' p (rs ++ [u]) (L ++ [l]) := by
  refine ⟨by rw [h, List.map_append]; rfl, by simp [T.len], fun i r l' h1 h2 => ?_⟩
  rcases last_of h1 with q | ⟨q, rfl⟩
  · rcases last_of h2 with q2 | ⟨q2, _⟩
    · have hr := T.row i r l' q q2
      exact b _ _ (ne_of hr T.lst (by intro z; cases z)) hr
    · have := (List.getElem?_eq_some_iff.mp q).1
      rw [T.len] at this
      omega
  · rcases last_of h2 with q2 | ⟨_, rfl⟩
    · have := (List.getElem?_eq_some_iff.mp q2).1
      rw [← T.len] at this
      omega
    · exact hu
theorem KL.nil {H : Hp} {p : Addr} (h : H p = some (.lst [])) : KL H p [] [] := ⟨h, rfl, by simp⟩
theorem refs_of {ys : List V} (h : ∀ (i : Nat) y, ys[i]? = some y → ∃ q, y = .ref q) : ∃ rs : List Addr, ys = rs.map V.ref := by
  induction ys with
  | nil => exact ⟨[], rfl⟩
  | cons y ys ih =>
    obtain ⟨r, rfl⟩ := h 0 y rfl
    obtain ⟨rs, e⟩ := ih fun i y h' => h (i + 1) y h'
    exact ⟨r :: rs, by rw [e]; rfl⟩
theorem KL.but {H H' : Hp} {D p : Addr} {rs : List Addr} {L : List (List Nat)} (T : KL H p rs L) (b : But D H H') (hp : p ≠ D) (hr : ∀ r ∈ rs, r ≠ D) : KL H' p rs L :=
  ⟨b _ _ hp T.lst, T.len, fun i r l h1 h2 => b _ _ (hr r (List.mem_of_getElem? h1)) (T.row i r l h1 h2)⟩
theorem flat_keys {A : Su172.Abs} : ∀ {L : List (List Nat)}, (∀ k ∈ L, k ∈ pk A.x A.y) → (L.map toP).flatMap (fun (p : Nat × Nat) => [p.1, p.2]) = L.flatMap _root_.id
  | [], _ => rfl
  | k :: L, h => by
    obtain ⟨x, y, rfl, _, _⟩ := mem_pk.mp (h k (List.mem_cons_self ..))
    rw [List.map_cons, List.flatMap_cons, List.flatMap_cons, flat_keys fun k hk => h k (List.mem_cons_of_mem _ hk)]
    rfl
theorem nK_le {A : Su172.Abs} (wf : Wf A) : nK A ≤ 65536 := by
  unfold nK
  have h1 : Tm.cnt (cB A) (pk A.x A.y) ≤ 16 := by
    unfold Tm.cnt
    have := List.countP_le_length (p := cB A) (l := pk A.x A.y)
    rw [pk_len] at this
    have := Nat.mul_le_mul wf.x1 wf.y1
    omega
  calc 2 ^ Tm.cnt (cB A) (pk A.x A.y) ≤ 2 ^ 16 := Nat.pow_le_pow_right (by decide) h1
    _ = 65536 := rfl
section
variable {P : Program} {w : World} {K : PySem.W.Frag} {mg : Str → Option Value} {base : Heap} {C : Addr}
def spMCore (C : Addr) : Sp := fun vs H Q _ => ∃ (g : Addr) (A : Su172.Abs) (F : Addr → Prop), vs = [.ref g] ∧ GAt C H g A F ∧ Ro H (Su172.does A .core).2 Q
abbrev sMCore : Stmt := inClass (top 34) 22
/-- slots: 0:self 1:marks 2:won 3:total 4:never 5:sets 6:asked 7:some 8:fewest 9:answered -/
theorem scMCore : FnScope ["self", "marks", "won", "total", "never", "sets", "asked", "some", "fewest", "answered"] ["self"] (defScope sMCore) := ⟨rfl, rfl, rfl, by decide +kernel, rfl, by decide +kernel, by decide +kernel⟩
theorem ok_mcore {f : Addr} {fd : FuncData} (F : Fun K "core" "Game.core" sMCore f fd) (B : Blt mg) (G : GCls K C) (T : Cst mg) (m_marks : MCal P w K mg base C 1 "marks" ["self"] (spMarks C)) (m_weighed : MCal P w K mg base C 4 "weighed" ["self", "weights"] (spWeigh C))
    (m_what_plans_win : MCal P w K mg base C 3 "what_plans_win" ["self"] (spPlansWin C)) (c_sums_never_won : Cal P w K mg base 1 "sums_never_won" ["won", "marks"] (spNever K)) : FnOk P w K mg base CX0 5 f fd ["self"] (spMCore C) := by
  refine F.ok scMCore (fun vs H Q E h => ?_) (fun cdv A outer s H vs Q E hr h => ?_)
  · obtain ⟨g, A, F, rfl, _⟩ := h
    rfl
  · obtain ⟨g, A, F, rfl, gat, k⟩ := h
    obtain ⟨wd, td, gm, hf⟩ := id gat
    obtain ⟨dx, hi⟩ := gm.ins
    have wf := gm.wf
    have hu := hu_of hr
    refine ⟨_, (pss_cons (ps_set (i := 1) scMCore.nd rfl (Or.inr rfl) (pe_me0 m_marks (pv 0) (hr.mono (by decide))))
      (pss_cons (ps_set (i := 2) scMCore.nd rfl (Or.inl rfl) pe_dnewK)
      (pss_cons (ps_for PassesOwn.never rfl (pi_list (pe_me0 m_what_plans_win (pe_me m_weighed (pv 0) (hr.mono (by decide)) (pa_cons (pv 1) pa_nil)) (hr.mono (by decide)))) (pg_name (i := 3) scMCore.nd rfl (Or.inl rfl))
        (pss_one (ps_dput hu (pv 2) (pv 3) pe_bl rfl)))
      (pss_cons (ps_set (i := 4) scMCore.nd rfl (Or.inl rfl) (pe_fn c_sums_never_won (hr.mono (by decide)) (pa_cons (pv 2) (pa_cons (pe_callTy (cr_listV (by rfl)) (by rfl) B.list PyProof.Rows.boot_list (pa_cons (pe_values (pv 1)) pa_nil)) pa_nil))))
      (pss_cons (ps_if (pt_cmpR (op_eqD hr.units) (pv 4) (pe_lst pa_nil) (nomark _))
        (pss_one (ps_ret (pe_lst (pa_cons (pe_gi T.THERE_IS_NONE) pa_nil)))) pss_nil)
      (pss_cons (ps_setLc (i := 5) (te := tLockE (tLc (iKeys (tFld K (tVar 0) "weights")) (gName 6) _ (tVar 6) [6])) rfl scMCore.nd rfl rfl (sw_true rfl rfl rfl rfl) (pi_list (pv 4)) (own := [("some", 7)]) (blkOk_by rfl) (fun _ _ _ _ _ => pg_name (i := 7) scMCore.nd rfl (Or.inr rfl)) (fun _ _ _ _ _ => pts_nil)
        (fun _ _ _ _ _ => (pe_lock (pe_lc (te := (tVar 6)) rfl scMCore.nd (pi_keys (pe_fld (pv 0) rfl)) (own := [("asked", 6)]) (blkOk_by rfl) (fun _ _ _ _ _ => pg_name (i := 6) scMCore.nd rfl (Or.inl rfl)) (fun _ _ _ _ _ => pts_one (pt_cmpR op_gt (pe_op op_and (pv 7) (pe_dget hu (pv 1) (pv 6) (fun _ _ => rfl))) pe_int (nomark _)))
        (fun _ _ _ _ _ => (pv 6))))))
      (pss_cons (ps_set (i := 8) scMCore.nd rfl (Or.inl rfl) (pe_minLen (by rfl) (by rfl) B.min (by rfl) B.len (pa_cons (pv 5) pa_nil)))
      (pss_cons (ps_set (i := 9) scMCore.nd rfl (Or.inl rfl) (pe_lst (pa_cons (pe_callB call_len_seq (by rfl) B.len PySem.boot_len (pa_cons (pv 8) pa_nil)) pa_nil)))
      (pss_cons (ps_for PassesOwn.never rfl (pi_list (pv 8)) (pg_name (i := 6) scMCore.nd rfl (Or.inl rfl))
        (pss_one (ps_expr (pe_bm PySem.F.plainAttrs_list PySem.F.slot_list_extend PySem.F.type_list_extend mt_extendT (pv 9) (pa_cons (pv 6) pa_nil)))))
      (pss_one (ps_ret (pv 9)))))))))))), ?_⟩
    refine ⟨_, rfl, g, dx, _, rfl, hi, gf_no (by decide +kernel), g, A, F, rfl, gat, fun H1 md s1 nmd hmd => ?_⟩
    intro wn nwn
    have s2 : Same H (upd H1 wn (.dK [])) := s1.upd_new nwn
    have hmd2 : (upd H1 wn (.dK [])) md = _ := Same.new nwn _ _ hmd
    have hwn2 : (upd H1 wn (.dK [])) wn = some (.dK []) := upd_same
    have nwn0 : H wn = none := s1.free nwn
    generalize upd H1 wn (.dK []) = H2 at s2 hmd2 hwn2
    have mdwn : md ≠ wn := ne_of hmd2 hwn2 (by intro z; cases z)
    refine ⟨_, rfl, g, dx, _, rfl, s2 _ _ hi, gf_no (by decide +kernel), _, rfl, g, md, A, F, _, _, markW A, rfl, gat.same s2, hmd2, fun k => List.mem_reverse, fun x y _ _ => rfl, fun H3 o F3 s3 G3 new3 => ?_⟩
    obtain ⟨ow, ot, gm3, hf3⟩ := id G3
    obtain ⟨do_, hio⟩ := gm3.ins
    refine ⟨o, do_, _, rfl, hio, gf_no (by decide +kernel), o, _, F3, rfl, G3, fun H4 q s4 nq hq => ?_⟩
    have s24 := s3.trans s4
    have s04 := s2.trans s24
    have hmd4 := s24 _ _ hmd2
    have hwn4 := s24 _ _ hwn2
    have hwl : (winsAll (Tm.weigh A (markW A))).length ≤ 65536 := by
      have w2 : Wf (Tm.weigh A (markW A)) := weigh_wf wf
      have h1 := flatMap_len_le (Tm.weigh A (markW A)).firsts 256 (fun f => (Tm.weigh A (markW A)).seconds.map fun h => (Tm.weigh A (markW A)).value f h) fun f _ => by rw [List.length_map]; exact rows_le w2.b1 w2.y1 w2.b0
      have h2 : (Tm.weigh A (markW A)).firsts.length ≤ 256 := rows_le w2.a1 w2.x1 w2.a0
      unfold winsAll
      omega
    have qwn : q ≠ wn := ne_of hq hwn4 (by intro z; cases z)
    refine ⟨q, rfl, ⟨_, SqL.of hq⟩, for_list (K := K) (a := q) (xs := natsV (winsAll (Tm.weigh A (markW A)))) (fun i σ H' => ∃ kv v3, σ = [some (.ref g), some (.ref md), some (.ref wn), v3, none, none, none, none, none, none] ∧ But wn H4 H' ∧ H' wn = some (.dK kv) ∧ (∀ n : Nat, (valV kv (.inl (n : Int))).isSome = decide (n ∈ (winsAll (Tm.weigh A (markW A))).take i)) ∧ kv.length ≤ i)
      ⟨[], none, rfl, fun _ _ _ h => h, hwn4, fun n => by simp [valV], Nat.le_refl _⟩ (fun i σ H' _ ⟨_, _, _, b, _⟩ => SqL.of (b _ _ qwn hq)) ?_ ?_⟩
    · rintro i x σ H5 hx ⟨kv, v3, rfl, b5, hwn5, hk5, hl5⟩
      obtain ⟨t, ht, rfl⟩ := natsV_of hx
      have hit : i < (winsAll (Tm.weigh A (markW A))).length := (List.getElem?_eq_some_iff.mp ht).1
      refine ⟨_, rfl, _, rfl, wn, _, rfl, DPut.k (k := .inl (t : Int)) hwn5 (by rw [sizeLine_eq]; omega), ?_⟩
      refine ⟨_, _, rfl, b5.trans .upd, upd_same, fun n => ?_, Nat.le_trans (length_putK _ _ _) (by omega)⟩
      rw [valV_put, take_snoc ht]
      by_cases z : n = t
      · rw [if_pos (by rw [z])]
        exact (decide_eq_true (by rw [z]; simp)).symm
      · rw [if_neg (fun q => z (by injection q with q; omega)), hk5 n]
        apply decide_eq_decide.mpr
        simp [z]
    rintro σ H5 ⟨kv, v3, rfl, b5, hwn5, hk5, hl5⟩
    rw [natsV_len, List.take_length] at hk5
    have s05 : Same H H5 := b5.same' s04 nwn0
    have hmd5 := b5 _ _ mdwn hmd4
    -- sums_never_won
    refine ⟨_, rfl, _, rfl, md, _, rfl, hmd5, fun v nv => ?_⟩
    have s6 : Same H5 (upd H5 v (.ext fun h => h.IsValuesView v md)) := .new nv
    refine ⟨v, md, _, rfl, upd_same, s6 _ _ hmd5, fun l nl => ?_⟩
    have s7 : Same H5 (upd (upd H5 v (.ext fun h => h.IsValuesView v md)) l (.lst ((dOf (pk A.x A.y).reverse fun k => .int (Tm.markF (cB A) (pk A.x A.y) k : Nat)).map (·.2)))) := s6.upd_new nl
    have hl7 : (upd (upd H5 v (.ext fun h => h.IsValuesView v md)) l (.lst ((dOf (pk A.x A.y).reverse fun k => .int (Tm.markF (cB A) (pk A.x A.y) k : Nat)).map (·.2)))) l = some (.lst (natsV ((pk A.x A.y).reverse.map (Tm.markF (cB A) (pk A.x A.y))))) := by
      rw [upd_same]
      unfold dOf natsV
      rw [List.map_map, List.map_map]
      rfl
    generalize upd (upd H5 v (.ext fun h => h.IsValuesView v md)) l (.lst ((dOf (pk A.x A.y).reverse fun k => .int (Tm.markF (cB A) (pk A.x A.y) k : Nat)).map (·.2))) = H7 at s7 hl7
    have hsum : ((pk A.x A.y).reverse.map (Tm.markF (cB A) (pk A.x A.y))).sum = nK A - 1 := by
      have h1 := Tm.marks_sum (c := cB A) (pk_nd A.x A.y)
      rw [List.map_reverse, List.sum_reverse]
      unfold nK
      omega
    have hnpos : 0 < nK A := Nat.pow_pos (by decide)
    have hn64 := nK_le wf
    refine ⟨wn, l, kv, fun n => decide (n ∈ winsAll (Tm.weigh A (markW A))), _, wi A, rfl, s7 _ _ hwn5, hk5, SqL.of hl7, ?_, by rw [hsum]; omega, ?_, fun H8 nv s8 nnv hnv => ?_⟩
    · rw [List.length_map, List.length_reverse, pk_len]
      have := Nat.mul_le_mul wf.x1 wf.y1
      omega
    · rw [hsum]
      refine wi_steps fun m => ?_
      rw [List.mem_map]
      constructor
      · rintro ⟨k, hk, e⟩; exact ⟨k, List.mem_reverse.mp hk, e⟩
      · rintro ⟨k, hk, e⟩; exact ⟨k, List.mem_reverse.mpr hk, e⟩
    rw [hsum, Nat.sub_add_cancel hnpos] at hnv
    have hnv : H8 nv = some (.lst (natsV (neverL A))) := hnv
    have s58 := s7.trans s8
    have s08 := s05.trans s58
    have hsets := never_sets A
    -- never == []
    refine ⟨_, rfl, Nat.zero_le _, fun e0 ne0 => ?_⟩
    have s9 : Same H8 (upd H8 e0 (.lst [])) := .new ne0
    refine ⟨_, _, .lst (SqL.of (s9 _ _ hnv)) (dp_nats _), .lst (SqL.of upd_same) .nil, shaped_nats _, by rfl, _, rfl, ?_⟩
    rw [eqv_nil]
    generalize upd H8 e0 (.lst []) = H9 at s9
    have s09 := s08.trans s9
    have hnv9 := s9 _ _ hnv
    refine ite2 (fun hc => ?_) fun hc => ?_
    · have hn : neverL A = [] := List.isEmpty_iff.mp hc
      refine ⟨by show 1 ≤ sizeLine; decide, fun q hq => ?_⟩
      have hcore : A.core = none := by
        rw [Tm.core_none_iff]
        rw [hn] at hsets
        have h1 : A.pairs ∉ (Tm.allsubs A.pairs).filter fun s => !A.wonAll s := by rw [← hsets]; simp
        rw [List.mem_filter] at h1
        cases z : A.wonAll A.pairs with
        | true => rfl
        | false => exact absurd ⟨allsubs_self _, by rw [z]; rfl⟩ h1
      have e : (Su172.does A .core).2 = Su172.no (-33) := by
        show (match A.core with | some l => (A, Su172.num l.length (l.flatMap fun (p : Nat × Nat) => [p.1, p.2])) | none => (A, Su172.no (-33))).2 = _
        rw [hcore]
      rw [e] at k
      exact k _ q (s09.upd_new hq) (s09.free hq) upd_same
    have hne : neverL A ≠ [] := fun z => hc (by rw [z]; rfl)
    have hnl : (neverL A).length ≤ 65536 := by
      unfold neverL
      have h1 := List.length_filter_le (fun s => !wi A s) (List.range (nK A)).reverse
      rw [List.length_reverse, List.length_range] at h1
      omega
    have hmem : ∀ s, s ∈ neverL A → s < nK A := fun s hs => by
      unfold neverL at hs
      exact List.mem_range.mp (List.mem_reverse.mp (List.mem_filter.mp hs).1)
    have nmd0 : H md = none := nmd
    have mdwd : md ≠ wd := (ne_of_none gm.w nmd0).symm
    have hmd9 := s9 _ _ (s58 _ _ hmd5)
    have hw9 := s09 _ _ gm.w
    have nig : g ≠ wd := ne_of hi gm.w (by intro z; cases z)
    -- sets
    refine ⟨_, rfl, nv, rfl, ⟨_, SqL.of hnv9⟩, fun D hD => ?_⟩
    refine lc_list1 (xs := natsV (neverL A)) hD (by rw [natsV_len, sizeLine_eq]; omega) (SqL.of hnv9) (fun i y H' => ∃ q rs s, y = .ref q ∧ (neverL A)[i]? = some s ∧ q ≠ D ∧ (∀ r ∈ rs, r ≠ D) ∧ KL H' q rs (setOf A s)) (fun i y Ha Hb b ⟨q, rs, s, e, hs, n1, n2, kl⟩ => ⟨q, rs, s, e, hs, n1, n2, kl.but b n1 n2⟩) ?_ ?_
    · intro i x Hc Q' hx sc ⟨zs, hzs⟩ k'
      obtain ⟨s, hs, rfl⟩ := natsV_of hx
      have hsn := hmem s (List.mem_of_getElem? hs)
      have hwc := sc _ _ hw9
      have hmc := sc _ _ hmd9
      have hic := sc _ _ (s09 _ _ hi)
      refine ⟨wd, .dT (dOf (pk A.x A.y) (cntV A)), hwc, trivial, fun od => ?_⟩
      refine ⟨_, rfl, g, C, dx, _, _, rfl, by rw [upd_ne nig]; exact hic, G.cl, G.nw, gf_w _ _ _ _ _ _, wd, od, rfl, .inr ⟨_, upd_same, fun D2 hD2 => ?_⟩⟩
      have hDwd : D2 ≠ wd := fun z => by rw [z, upd_same] at hD2; cases hD2
      have hD2c : Hc D2 = none := by rw [upd_ne hDwd] at hD2; exact hD2
      have hpl := pk_lt wf.x1 wf.y1
      refine lc_keysT (kvs := dOf (pk A.x A.y) (cntV A)) (fun j H' => (∀ c o, Hc c = some o → c ≠ wd → H' c = some o) ∧ H' wd = some (.frz od (.dT (dOf (pk A.x A.y) (cntV A)))) ∧ ∃ rs, KL H' D2 rs (((pk A.x A.y).take j).filter fun k => decide (0 < s &&& Tm.markF (cB A) (pk A.x A.y) k))) ⟨fun c o h n => ?_, ?_, [], KL.nil upd_same⟩ (fun j H' _ h => h.2.1) ?_ ?_
      · rw [upd_ne (ne_of_none h hD2c), upd_ne n]; exact h
      · rw [upd_ne hDwd.symm, upd_same]
      · rintro j kq v q H4 hkv hq ⟨b4, t4, rs4, kl4⟩
        obtain ⟨kk, hkk, rfl, rfl⟩ := dOf_at hkv
        rw [nk_kV] at hq
        have hkm := List.mem_of_getElem? hkk
        have hjl : j < (pk A.x A.y).length := (List.getElem?_eq_some_iff.mp hkk).1
        have hlen4 : rs4.length < sizeLine := by
          rw [kl4.len]
          refine Nat.lt_of_le_of_lt (List.length_filter_le _ _) ?_
          rw [List.length_take]
          omega
        refine ⟨rfl, _, rfl, _, rfl, _, rfl, md, _, rfl, dget_of (k := kk) (b4 _ _ hmc mdwd) hq (List.mem_reverse.mpr hkm), _, _, rfl, rfl, _, _, rfl, rfl, _, rfl, ?_⟩
        refine ite2 (fun hc => ?_) fun hc => ?_
        · have hc : 0 < s &&& Tm.markF (cB A) (pk A.x A.y) kk := by
            have z : (0 : Int) < Builtin.bitAnd (s : Int) ((Tm.markF (cB A) (pk A.x A.y) kk : Nat) : Int) := of_decide_eq_true hc
            rw [bitAnd_nat] at z
            omega
          refine ⟨_, rfl, _, kl4.lst, by rw [List.length_map]; exact hlen4, fun c o h n => ?_, ?_, rs4 ++ [q], ?_⟩
          · rw [upd_ne (ne_of_none h hD2c)]; exact b4 _ _ h n
          · rw [upd_ne hDwd.symm]; exact t4
          · rw [take_snoc hkk, List.filter_append, List.filter_cons, if_pos (decide_eq_true hc), List.filter_nil]
            exact kl4.snoc .upd upd_same (by rw [upd_ne (ne_of hq kl4.lst (by intro z; cases z))]; exact hq)
        · have hc : ¬ (0 < s &&& Tm.markF (cB A) (pk A.x A.y) kk) := fun z => hc (decide_eq_true (by
            show (0 : Int) < Builtin.bitAnd (s : Int) ((Tm.markF (cB A) (pk A.x A.y) kk : Nat) : Int)
            rw [bitAnd_nat]
            omega))
          refine ⟨b4, t4, rs4, ?_⟩
          rw [take_snoc hkk, List.filter_append, List.filter_cons, if_neg (by rw [decide_eq_true_iff]; exact hc), List.filter_nil, List.append_nil]
          exact kl4
      · rintro H4 ⟨b4, t4, rs4, kl4⟩
        rw [dOf_len, List.take_length, Tm.selK_filter (pk_nd A.x A.y) hsn] at kl4
        refine ⟨t4, ?_⟩
        have s4 : Same Hc (upd H4 wd (.dT (dOf (pk A.x A.y) (cntV A)))) := fun c o h => by
          by_cases z : c = wd
          · rw [z, upd_same]; rw [z, hwc] at h; exact h
          · rw [upd_ne z]; exact b4 _ _ h z
        have hD4 : H4 D = some (.lst zs) := b4 _ _ hzs (ne_of hzs hwc (by intro z; cases z))
        refine k' _ _ s4 ⟨D2, rs4, s, rfl, hs, fun z => (by rw [z, hzs] at hD2c; cases hD2c), fun r hr => ?_, ?_⟩
        · obtain ⟨z, hz⟩ := List.getElem?_of_mem hr
          obtain ⟨l', hl'⟩ : ∃ l', (Tm.selK (cB A) (pk A.x A.y) s)[z]? = some l' := ⟨_, List.getElem?_eq_getElem (by rw [← kl4.len]; exact (List.getElem?_eq_some_iff.mp hz).1)⟩
          exact ne_of (kl4.row z r l' hz hl') hD4 (by intro z; cases z)
        · refine kl4.but .upd hDwd fun r hr => ?_
          obtain ⟨z, hz⟩ := List.getElem?_of_mem hr
          obtain ⟨l', hl'⟩ : ∃ l', (Tm.selK (cB A) (pk A.x A.y) s)[z]? = some l' := ⟨_, List.getElem?_eq_getElem (by rw [← kl4.len]; exact (List.getElem?_eq_some_iff.mp hz).1)⟩
          exact ne_of (kl4.row z r l' hz hl') t4 (by intro z; cases z)
    intro Hs ys ss hDs hlens hR
    rw [natsV_len] at hlens
    obtain ⟨sr, rfl⟩ := refs_of fun i y h => let ⟨q, _, _, e, _⟩ := hR i y h; ⟨q, e⟩
    rw [List.length_map] at hlens
    have hsrow : ∀ (i : Nat) r, sr[i]? = some r → ∃ rs s, (neverL A)[i]? = some s ∧ KL Hs r rs (setOf A s) := fun i r h => by
      obtain ⟨q, rs, s, e, hs, _, _, kl⟩ := hR i (.ref r) (by rw [List.getElem?_map, h]; rfl)
      cases e
      exact ⟨rs, s, hs, kl⟩
    have h0s : 0 < sr.length := by
      rw [hlens]
      exact List.length_pos_iff.mpr hne
    -- fewest
    refine ⟨_, rfl, D, sr, fun i => (setOf A ((neverL A).getD i 0)).length, rfl, SqL.of hDs, h0s, fun i r h => ?_, fun i r h hmin => ?_⟩
    · obtain ⟨rs, s, hs, kl⟩ := hsrow i r h
      refine ⟨_, SqL.of kl.lst, ?_⟩
      rw [List.length_map, kl.len]
      have : (neverL A).getD i 0 = s := by simp [List.getD, hs]
      show (setOf A s).length = (setOf A ((neverL A).getD i 0)).length
      rw [this]
    obtain ⟨rs, s, hs, kl⟩ := hsrow i r h
    have hgs : (neverL A).getD i 0 = s := by simp [List.getD, hs]
    have hcore : A.core = some ((setOf A s).map toP) := by
      refine Tm.core_first (i := i) ?_ fun j u hj => ?_
      · rw [← hsets, List.getElem?_map, hs]; rfl
      · rw [← hsets, List.getElem?_map] at hj
        cases z : (neverL A)[j]? with
        | none => rw [z] at hj; cases hj
        | some s2 =>
          rw [z] at hj
          cases hj
          have hjl : j < sr.length := by rw [hlens]; exact (List.getElem?_eq_some_iff.mp z).1
          have hm2 := hmin j hjl
          have hg2 : (neverL A).getD j 0 = s2 := by simp [List.getD, z]
          dsimp only at hm2
          rw [hgs, hg2] at hm2
          rw [List.length_map, List.length_map]
          exact hm2
    have e : (Su172.does A .core).2 = Su172.num (setOf A s).length ((setOf A s).flatMap _root_.id) := by
      show (match A.core with | some l => (A, Su172.num l.length (l.flatMap fun (p : Nat × Nat) => [p.1, p.2])) | none => (A, Su172.no (-33))).2 = _
      rw [hcore]
      show Su172.num _ _ = _
      rw [List.length_map, flat_keys (A := A) (L := setOf A s) fun k hk => (Tm.selK_mem (show k ∈ Tm.selK (cB A) (pk A.x A.y) s from hk)).1]
    rw [e] at k
    have hsl : (setOf A s).length ≤ 16 := by
      have := (Tm.selK_sub (cB A) (pk A.x A.y) s).length_le
      rw [pk_len] at this
      have := Nat.mul_le_mul wf.x1 wf.y1
      exact Nat.le_trans (Tm.selK_sub (cB A) (pk A.x A.y) s).length_le (by rw [pk_len]; omega)
    have s0s := s09.trans ss
    refine ⟨_, rfl, r, _, rfl, .inl (SqL.of kl.lst), by show 1 ≤ sizeLine; decide, fun an nan => ?_⟩
    rw [List.length_map, kl.len]
    have sa : Same Hs (upd Hs an (.lst [.int ((setOf A s).length : Nat)])) := .new nan
    have kla := kl.same sa
    have hana : (upd Hs an (.lst [.int ((setOf A s).length : Nat)])) an = some (.lst (natsV [(setOf A s).length])) := upd_same
    generalize upd Hs an (.lst [.int ((setOf A s).length : Nat)]) = Ha at sa kla hana
    have ran : r ≠ an := fun z => by rw [z] at kl; have := kl.lst; rw [nan] at this; cases this
    have rsan : ∀ u ∈ rs, u ≠ an := fun u hu z => by
      obtain ⟨z1, hz1⟩ := List.getElem?_of_mem hu
      obtain ⟨l', hl'⟩ : ∃ l', (setOf A s)[z1]? = some l' := ⟨_, List.getElem?_eq_getElem (by rw [← kl.len]; exact (List.getElem?_eq_some_iff.mp hz1).1)⟩
      have := kl.row z1 u l' hz1 hl'
      rw [z, nan] at this
      cases this
    have hfl : ∀ j, (((setOf A s).take j).flatMap _root_.id).length ≤ 32 := fun j => by
      have h1 := flatMap_len_le ((setOf A s).take j) 2 _root_.id fun k hk => by
        obtain ⟨x, y, rfl, _, _⟩ := mem_pk.mp (Tm.selK_mem (List.mem_of_mem_take hk)).1
        exact Nat.le_refl _
      have h2 : ((setOf A s).take j).length ≤ 16 := by rw [List.length_take]; omega
      omega
    refine ⟨_, rfl, r, rfl, ⟨_, SqL.of kla.lst⟩, for_list (K := K) (a := r) (xs := rs.map V.ref) (fun j σ H' => ∃ v6, σ = [some (.ref g), some (.ref md), some (.ref wn), v3, some (.ref nv), some (.ref D), v6, none, some (.ref r), some (.ref an)] ∧ But an Ha H' ∧ H' an = some (.lst (natsV ((setOf A s).length :: ((setOf A s).take j).flatMap _root_.id))))
      ⟨none, rfl, fun _ _ _ h => h, hana⟩ (fun j σ H' _ ⟨_, _, b, _⟩ => SqL.of (b _ _ ran kla.lst)) ?_ ?_⟩
    · rintro j y σ Hb hy ⟨v6, rfl, bb, hab⟩
      obtain ⟨u, kk, hu1, rfl, hkk, htup⟩ := kla.at hy
      have tb := bb _ _ (rsan u (List.mem_of_getElem? hu1)) htup
      refine ⟨_, rfl, .inl ⟨rfl, _, SqL.of hab⟩, _, rfl, an, u, _, _, rfl, rfl, hab, tb, ?_, ?_⟩
      · obtain ⟨x, y, rfl, _, _⟩ := mem_pk.mp (Tm.selK_mem (List.mem_of_getElem? hkk)).1
        rw [natsV_len, natsV_len, List.length_cons, sizeLine_eq]
        have := hfl j
        show _ + 1 + 2 ≤ _
        omega
      · refine ⟨_, rfl, bb.trans .upd, ?_⟩
        rw [upd_same, take_snoc hkk, flatMap_snoc, ← natsV_append]
        rfl
    · rintro σ Hb ⟨v6, rfl, bb, hab⟩
      rw [List.length_map, kla.len, List.take_length] at hab
      refine ⟨_, rfl, k Hb an (bb.same' (s0s.trans sa) (s0s.free nan)) (s0s.free nan) hab⟩
end
end Ta

set_option Elab.async false
set_option linter.all false
set_option maxRecDepth 100000
/-! How a list of whole numbers is read, call by call. -/
namespace Tp
open PyFlat PySu172
/-- how many numbers stand behind a call's own (its row's length among them), and how many of these are its own -/
def isRow (p : Int) : Bool := p == 4 || p == 6 || p == 7
def nums (p : Int) : Nat := if p = 0 then 4 else if p = 1 then 5 else if p = 2 then 3 else if p = 3 then 3 else if p = 8 then 1 else if p = 9 then 2 else if p = 12 then 1 else if p = 15 then 2 else 0
theorem shape_lt {p : Int} {z : Nat × Nat} (h : shape p = some z) : 0 ≤ p ∧ p ≤ 16 := by
  unfold shape at h
  by_cases q : 0 ≤ p ∧ p ≤ 16
  · exact q
  · exfalso
    repeat (first | (rw [if_neg (by omega)] at h) | cases h)
theorem shape_cases {p : Int} {z : Nat × Nat} (h : shape p = some z) : (isRow p = true ∧ z = (0, 1)) ∨ (isRow p = false ∧ z = (nums p, 0)) := by
  have q := shape_lt h
  have : p = 0 ∨ p = 1 ∨ p = 2 ∨ p = 3 ∨ p = 4 ∨ p = 5 ∨ p = 6 ∨ p = 7 ∨ p = 8 ∨ p = 9 ∨ p = 10 ∨ p = 11 ∨ p = 12 ∨ p = 13 ∨ p = 14 ∨ p = 15 ∨ p = 16 := by omega
  rcases this with rfl | rfl | rfl | rfl | rfl | rfl | rfl | rfl | rfl | rfl | rfl | rfl | rfl | rfl | rfl | rfl | rfl <;> (cases h; first | exact .inl ⟨rfl, rfl⟩ | exact .inr ⟨rfl, rfl⟩)
/-- one call of the list: where its numbers begin, how many there are, what they are -/
structure Step (p : Int) (r : List Int) (c : List (List Int)) (t : List Int) : Prop where
  ok : 0 ≤ p ∧ p ≤ 16
  row : isRow p = true → ∃ n : Nat, r[0]? = some (n : Int) ∧ n + 1 ≤ r.length ∧ t = r.drop (n + 1) ∧ c = [[p], (r.drop 1).take n]
  flat : isRow p = false → nums p ≤ r.length ∧ t = r.drop (nums p) ∧ c = [p :: r.take (nums p)]
theorem call_step {p : Int} {r : List Int} {c : List (List Int)} {t : List Int} (h : call shape (p :: r) = some (c, t)) : Step p r c t := by
  unfold call at h
  cases hs : shape p with
  | none => simp only [hs] at h; cases h
  | some z =>
    simp only [hs] at h
    refine ⟨shape_lt hs, fun hr => ?_, fun hr => ?_⟩
    · rcases shape_cases hs with ⟨_, rfl⟩ | ⟨q, _⟩
      · simp only at h
        rw [if_neg (Nat.not_lt_zero _), List.drop_zero] at h
        cases r with
        | nil => simp [rows, PyFlat.row] at h
        | cons n r' =>
          unfold rows rows PyFlat.row at h
          by_cases hn : 0 ≤ n ∧ n.toNat ≤ r'.length
          · simp only [if_pos hn] at h
            obtain ⟨m, rfl⟩ : ∃ m : Nat, n = (m : Int) := ⟨n.toNat, by omega⟩
            rw [Int.toNat_natCast] at h hn
            injection h with h
            injection h with h1 h2
            refine ⟨m, rfl, by simpa using hn.2, ?_, ?_⟩
            · rw [← h2]; rfl
            · rw [← h1]; rfl
          · simp only [if_neg hn] at h
            cases h
      · rw [hr] at q; cases q
    · rcases shape_cases hs with ⟨q, _⟩ | ⟨_, rfl⟩
      · rw [hr] at q; cases q
      · simp only at h
        by_cases hl : r.length < nums p
        · rw [if_pos hl] at h; cases h
        · rw [if_neg hl] at h
          unfold rows at h
          injection h with h
          injection h with h1 h2
          exact ⟨by omega, h2.symm, h1.symm⟩
theorem calls_cons {f : Nat} {p : Int} {r : List Int} {cs : List (List (List Int))} (h : calls shape f (p :: r) = some cs) : ∃ (c : List (List Int)) (t : List Int) (f' : Nat) (cs' : List (List (List Int))), cs = c :: cs' ∧ Step p r c t ∧ PyFlat.calls shape f' t = some cs' := by
  cases f with
  | zero => cases h
  | succ f =>
    unfold PyFlat.calls at h
    cases hc : call shape (p :: r) with
    | none => simp only [hc] at h; cases h
    | some z =>
      obtain ⟨c, t⟩ := z
      simp only [hc] at h
      cases hr : PyFlat.calls shape f t with
      | none => simp only [hr] at h; cases h
      | some cs' =>
        simp only [hr] at h
        injection h with h
        exact ⟨c, t, f, cs', h.symm, call_step hc, hr⟩
/-- the call with its row put in -/
def own (p : Int) (r : List Int) : List Int := if isRow p = true then (r.drop 1).take ((r.getD 0 0).toNat) else r.take (nums p)
theorem isRow_cases {p : Int} (h : isRow p = true) : p = 4 ∨ p = 6 ∨ p = 7 := by
  unfold isRow at h
  simpa [or_assoc] using h
theorem whole_step {p : Int} {r : List Int} {c : List (List Int)} {t : List Int} (s : Step p r c t) : (whole c).headD [] = p :: own p r := by
  unfold own
  cases hr : isRow p with
  | true =>
    obtain ⟨n, h1, h2, h3, rfl⟩ := s.row hr
    rw [if_pos rfl]
    have e : (r.getD 0 0).toNat = n := by
      rw [List.getD, h1]; rfl
    rw [e]
    rcases isRow_cases hr with rfl | rfl | rfl <;> rfl
  | false =>
    obtain ⟨h1, h2, rfl⟩ := s.flat hr
    rw [if_neg (by decide)]
    have q := s.ok
    have : p = 0 ∨ p = 1 ∨ p = 2 ∨ p = 3 ∨ p = 4 ∨ p = 5 ∨ p = 6 ∨ p = 7 ∨ p = 8 ∨ p = 9 ∨ p = 10 ∨ p = 11 ∨ p = 12 ∨ p = 13 ∨ p = 14 ∨ p = 15 ∨ p = 16 := by omega
    rcases this with rfl | rfl | rfl | rfl | rfl | rfl | rfl | rfl | rfl | rfl | rfl | rfl | rfl | rfl | rfl | rfl | rfl
    all_goals first | (exact absurd hr (by decide)) | skip
    all_goals
      have e1 : ∀ (n : Nat) (r : List Int), n ≤ r.length → (r.take n).length = n := fun n r h => by rw [List.length_take]; omega
      have e2 := e1 _ r h1
      revert e2
      generalize r.take (nums _) = l
      intro e2
    all_goals
      rcases l with _ | ⟨a, _ | ⟨b, _ | ⟨c, _ | ⟨d, _ | ⟨e, _ | ⟨f, l⟩⟩⟩⟩⟩⟩ <;> first | rfl | (exfalso; revert e2; simp [nums])
end Tp

set_option Elab.async false
set_option linter.all false
set_option maxRecDepth 100000
namespace Tp
open Su172Neutral
def intsL (l : List Nat) : List Int := l.map fun (n : Nat) => (n : Int)
theorem nat_of {z : Int} (h : natural z 32 = true) : 0 ≤ z := by
  unfold natural at h
  rw [Bool.and_eq_true] at h
  exact of_decide_eq_true h.1
theorem ints_of : ∀ {l : List Int}, (∀ z ∈ l, 0 ≤ z) → l = intsL (l.map Int.toNat)
  | [], _ => rfl
  | a :: l, h => by
    have h1 := h a (List.mem_cons_self ..)
    have h2 := ints_of (l := l) fun z hz => h z (List.mem_cons_of_mem _ hz)
    show a :: l = ((a.toNat : Nat) : Int) :: intsL (l.map Int.toNat)
    rw [← h2, Int.toNat_of_nonneg h1]
theorem toNat_ints (l : List Nat) : (intsL l).map Int.toNat = l := by
  unfold intsL
  rw [List.map_map]
  show l.map _ = l
  have : (Int.toNat ∘ fun (n : Nat) => (n : Int)) = id := by funext n; simp
  rw [this, List.map_id]
/-- the numbers of a call that's asked are none below 0 -/
theorem asked_nn {p : Int} {l : List Int} (h : asked1 (p :: l) = true) : ∀ z ∈ l, 0 ≤ z := by
  unfold asked1 at h
  split at h
  all_goals simp only [Bool.and_eq_true, List.all_eq_true, Bool.false_eq_true, List.cons.injEq] at *
  all_goals intro z hz
  · rename_i e; obtain ⟨-, rfl⟩ := e; exact nat_of (h.2 z hz)
  · rename_i e; obtain ⟨-, rfl⟩ := e; exact nat_of (h.2 z hz)
  · rename_i e; obtain ⟨-, rfl⟩ := e; exact nat_of (h.2 z hz)
  · rename_i e; obtain ⟨-, rfl⟩ := e; simp at hz; rcases hz with rfl | rfl | rfl | rfl; exact nat_of h.1; exact nat_of h.2.1; exact nat_of h.2.2.1; exact nat_of h.2.2.2
  · rename_i e; obtain ⟨-, rfl⟩ := e; simp at hz; rcases hz with rfl | rfl | rfl | rfl | rfl; exact nat_of h.1; exact nat_of h.2.1; exact nat_of h.2.2.1; exact nat_of h.2.2.2.1; exact nat_of h.2.2.2.2
  · rename_i e; obtain ⟨-, rfl⟩ := e; simp at hz; rcases hz with rfl | rfl | rfl; exact nat_of h.1; exact nat_of h.2.1; exact nat_of h.2.2
  · rename_i e; obtain ⟨-, rfl⟩ := e; simp at hz; rcases hz with rfl | rfl | rfl; exact nat_of h.1; exact nat_of h.2.1; exact nat_of h.2.2
  · rename_i e; obtain ⟨-, rfl⟩ := e; simp at hz; rcases hz with rfl | rfl; exact nat_of h.2.1; exact nat_of h.2.2
  · rename_i e; obtain ⟨-, rfl⟩ := e; simp at hz; rcases hz with rfl; exact nat_of h.2
  · rename_i e; obtain ⟨-, rfl⟩ := e; cases hz
/-- which call it is -/
def callN (p : Nat) (l : List Nat) : Option Su172.Call := callOf ((p : Int) :: intsL l)
theorem form0 {l : List Nat} (h : asked1 (0 :: intsL l) = true) : ∃ x y a b, l = [x, y, a, b] ∧ callOf (0 :: intsL l) = some (.begin_ x y a b) := by
  rcases l with _ | ⟨x, _ | ⟨y, _ | ⟨a, _ | ⟨b, _ | ⟨c, l⟩⟩⟩⟩⟩
  all_goals first | exact ⟨x, y, a, b, rfl, rfl⟩ | (cases (show false = true from h))
theorem form1 {l : List Nat} (h : asked1 (1 :: intsL l) = true) : ∃ x y a b v, l = [x, y, a, b, v] ∧ callOf (1 :: intsL l) = some (.wins x y a b v) := by
  rcases l with _ | ⟨x, _ | ⟨y, _ | ⟨a, _ | ⟨b, _ | ⟨c, _ | ⟨d, l⟩⟩⟩⟩⟩⟩
  all_goals first | exact ⟨x, y, a, b, c, rfl, rfl⟩ | (cases (show false = true from h))
theorem form2 {l : List Nat} (h : asked1 (2 :: intsL l) = true) : ∃ x y v, l = [x, y, v] ∧ callOf (2 :: intsL l) = some (.odd x y v) := by
  rcases l with _ | ⟨x, _ | ⟨y, _ | ⟨a, _ | ⟨b, l⟩⟩⟩⟩
  all_goals first | exact ⟨x, y, a, rfl, rfl⟩ | (cases (show false = true from h))
theorem form3 {l : List Nat} (h : asked1 (3 :: intsL l) = true) : ∃ x y v, l = [x, y, v] ∧ callOf (3 :: intsL l) = some (.asks x y v) := by
  rcases l with _ | ⟨x, _ | ⟨y, _ | ⟨a, _ | ⟨b, l⟩⟩⟩⟩
  all_goals first | exact ⟨x, y, a, rfl, rfl⟩ | (cases (show false = true from h))
theorem form4 (l : List Nat) : callOf (4 :: intsL l) = some (.value l) := by
  show some (Su172.Call.value ((intsL l).map Int.toNat)) = _
  rw [toNat_ints]
theorem form6 (l : List Nat) : callOf (6 :: intsL l) = some (.reply l) := by
  show some (Su172.Call.reply ((intsL l).map Int.toNat)) = _
  rw [toNat_ints]
theorem form7 (l : List Nat) : callOf (7 :: intsL l) = some (.replyTo l) := by
  show some (Su172.Call.replyTo ((intsL l).map Int.toNat)) = _
  rw [toNat_ints]
theorem len4 {p : Int} (hp : p = 4 ∨ p = 6 ∨ p = 7) {l : List Nat} (h : asked1 (p :: intsL l) = true) : l.length ≤ 10 := by
  have q : (decide ((intsL l).length ≤ 10) && (intsL l).all fun z => natural z 32) = true := by
    rcases hp with rfl | rfl | rfl <;> exact h
  rw [Bool.and_eq_true] at q
  have := of_decide_eq_true q.1
  unfold intsL at this
  rw [List.length_map] at this
  exact this
theorem form5 {l : List Nat} (h : asked1 (5 :: intsL l) = true) : l = [] ∧ callOf (5 :: intsL l) = some .best := by
  rcases l with _ | ⟨x, _ | ⟨y, _ | ⟨a, l⟩⟩⟩
  all_goals first | exact ⟨rfl, rfl⟩ | (cases (show false = true from h))
theorem form8 {l : List Nat} (h : asked1 (8 :: intsL l) = true) : ∃ t, l = [t] ∧ callOf (8 :: intsL l) = some (.plans t) := by
  rcases l with _ | ⟨x, _ | ⟨y, _ | ⟨a, l⟩⟩⟩
  all_goals first | exact ⟨x, rfl, rfl⟩ | (cases (show false = true from h))
theorem form9 {l : List Nat} (h : asked1 (9 :: intsL l) = true) : ∃ t k, l = [t, k] ∧ callOf (9 :: intsL l) = some (.nth t k) := by
  rcases l with _ | ⟨x, _ | ⟨y, _ | ⟨a, l⟩⟩⟩
  all_goals first | exact ⟨x, y, rfl, rfl⟩ | (cases (show false = true from h))
theorem form10 {l : List Nat} (h : asked1 (10 :: intsL l) = true) : l = [] ∧ callOf (10 :: intsL l) = some .perfect := by
  rcases l with _ | ⟨x, _ | ⟨y, _ | ⟨a, l⟩⟩⟩
  all_goals first | exact ⟨rfl, rfl⟩ | (cases (show false = true from h))
theorem form11 {l : List Nat} (h : asked1 (11 :: intsL l) = true) : l = [] ∧ callOf (11 :: intsL l) = some .core := by
  rcases l with _ | ⟨x, _ | ⟨y, _ | ⟨a, l⟩⟩⟩
  all_goals first | exact ⟨rfl, rfl⟩ | (cases (show false = true from h))
theorem form12 {l : List Nat} (h : asked1 (12 :: intsL l) = true) : ∃ c, l = [c] ∧ callOf (12 :: intsL l) = some (.told c) := by
  rcases l with _ | ⟨x, _ | ⟨y, _ | ⟨a, l⟩⟩⟩
  all_goals first | exact ⟨x, rfl, rfl⟩ | (cases (show false = true from h))
theorem form13 {l : List Nat} (h : asked1 (13 :: intsL l) = true) : l = [] ∧ callOf (13 :: intsL l) = some .twice := by
  rcases l with _ | ⟨x, _ | ⟨y, _ | ⟨a, l⟩⟩⟩
  all_goals first | exact ⟨rfl, rfl⟩ | (cases (show false = true from h))
theorem form14 {l : List Nat} (h : asked1 (14 :: intsL l) = true) : l = [] ∧ callOf (14 :: intsL l) = some .swap := by
  rcases l with _ | ⟨x, _ | ⟨y, _ | ⟨a, l⟩⟩⟩
  all_goals first | exact ⟨rfl, rfl⟩ | (cases (show false = true from h))
theorem form15 {l : List Nat} (h : asked1 (15 :: intsL l) = true) : ∃ x y, l = [x, y] ∧ callOf (15 :: intsL l) = some (.pair x y) := by
  rcases l with _ | ⟨x, _ | ⟨y, _ | ⟨a, l⟩⟩⟩
  all_goals first | exact ⟨x, y, rfl, rfl⟩ | (cases (show false = true from h))
theorem form16 {l : List Nat} (h : asked1 (16 :: intsL l) = true) : l = [] ∧ callOf (16 :: intsL l) = some .state := by
  rcases l with _ | ⟨x, _ | ⟨y, _ | ⟨a, l⟩⟩⟩
  all_goals first | exact ⟨rfl, rfl⟩ | (cases (show false = true from h))
/-- a call that's asked is one -/
theorem asked_call {p : Int} {l : List Nat} (hp : 0 ≤ p ∧ p ≤ 16) (h : asked1 (p :: intsL l) = true) : ∃ c, callOf (p :: intsL l) = some c := by
  have : p = 0 ∨ p = 1 ∨ p = 2 ∨ p = 3 ∨ p = 4 ∨ p = 5 ∨ p = 6 ∨ p = 7 ∨ p = 8 ∨ p = 9 ∨ p = 10 ∨ p = 11 ∨ p = 12 ∨ p = 13 ∨ p = 14 ∨ p = 15 ∨ p = 16 := by omega
  rcases this with rfl | rfl | rfl | rfl | rfl | rfl | rfl | rfl | rfl | rfl | rfl | rfl | rfl | rfl | rfl | rfl | rfl
  · obtain ⟨x, y, a, b, _, e⟩ := form0 h; exact ⟨_, e⟩
  · obtain ⟨x, y, a, b, v, _, e⟩ := form1 h; exact ⟨_, e⟩
  · obtain ⟨x, y, v, _, e⟩ := form2 h; exact ⟨_, e⟩
  · obtain ⟨x, y, v, _, e⟩ := form3 h; exact ⟨_, e⟩
  · exact ⟨_, form4 l⟩
  · exact ⟨_, (form5 h).2⟩
  · exact ⟨_, form6 l⟩
  · exact ⟨_, form7 l⟩
  · obtain ⟨t, _, e⟩ := form8 h; exact ⟨_, e⟩
  · obtain ⟨t, k, _, e⟩ := form9 h; exact ⟨_, e⟩
  · exact ⟨_, (form10 h).2⟩
  · exact ⟨_, (form11 h).2⟩
  · obtain ⟨t, _, e⟩ := form12 h; exact ⟨_, e⟩
  · exact ⟨_, (form13 h).2⟩
  · exact ⟨_, (form14 h).2⟩
  · obtain ⟨x, y, _, e⟩ := form15 h; exact ⟨_, e⟩
  · exact ⟨_, (form16 h).2⟩
end Tp

set_option Elab.async false
set_option linter.all false
set_option maxRecDepth 100000
set_option maxHeartbeats 2000000
namespace Ta
open PySem PySem.Spec PyProof.Rows L2
theorem new_count_le (x y a b i j : Nat) : (Su172.new x y a b).count i j ≤ 99 := by
  unfold Su172.new Su172.Abs.count
  simp only [List.getD, List.getElem?_replicate]
  by_cases hi : i < x
  · simp only [hi, if_true, Option.getD_some, List.getElem?_replicate]
    by_cases hj : j < y
    · simp [hj]
    · simp [hj]
  · simp [hi]
theorem cb_swapped {A : Su172.Abs} (h : ∀ x y, A.count x y ≤ 99) (x y : Nat) : A.swapped.count x y ≤ 99 := by
  show ((((List.range A.y).map fun y => (List.range A.x).map fun x => A.count x y).getD x []).getD y 0) ≤ 99
  by_cases hx : x < A.y
  · by_cases hy : y < A.x
    · simp [List.getD, hx, hy, h]
    · simp [List.getD, hx, hy]
  · simp [List.getD, hx]
theorem ro_nth (A : Su172.Abs) (t k : Nat) : (Su172.does A (.nth t k)).1 = A := by
  simp only [Su172.does]
  split <;> rfl
theorem ro_core (A : Su172.Abs) : (Su172.does A .core).1 = A := by
  simp only [Su172.does]
  split <;> rfl
/-- what pairs count stays small -/
theorem cb_does {A : Su172.Abs} (wf : Wf A) (h : ∀ x y, A.count x y ≤ 99) (c : Su172.Call) : ∀ x y, (Su172.does A c).1.count x y ≤ 99 := by
  cases c with
  | begin_ x y a b =>
    intro i j
    show (if _ then (A, Su172.no (-22)) else (Su172.new x y a b, Su172.num 0 [])).1.count i j ≤ 99
    split
    · exact h i j
    · exact new_count_le x y a b i j
  | wins x y a b v =>
    intro i j
    show (if _ then (A, Su172.no (-2)) else if _ then (A, Su172.no (-22)) else (A.set x y a b v, _)).1.count i j ≤ 99
    split
    · exact h i j
    · split
      · exact h i j
      · exact h i j
  | odd x y s =>
    intro i j
    show (if _ then (A, Su172.no (-2)) else if _ then (A, Su172.no (-22)) else (A.odd_ x y s, _)).1.count i j ≤ 99
    split
    · exact h i j
    · split
      · exact h i j
      · have e : (A.odd_ x y s).count i j = A.count i j := by
          unfold Su172.Abs.count
          rw [(Tm.odd_dims A x y s).2.2.2.2]
        show (A.odd_ x y s).count i j ≤ 99
        rw [e]; exact h i j
  | asks x y v =>
    intro i j
    show (if A.x ≤ x ∨ A.y ≤ y then (A, Su172.no (-2)) else if 99 < v then (A, Su172.no (-22)) else (Tm.asks A x y v, _)).1.count i j ≤ 99
    split
    · exact h i j
    · split
      · exact h i j
      · rename_i h1 h2
        show (Tm.asks A x y v).count i j ≤ 99
        rw [Tm.asks_count v i j wf.cl wf.cr (by omega) (by omega)]
        split
        · omega
        · exact h i j
  | value l => intro i j; show (if _ then (A, _) else (A, _)).1.count i j ≤ 99; split <;> exact h i j
  | best => exact h
  | nth t k => rw [ro_nth]; exact h
  | plans t => exact h
  | reply l => intro i j; show (if _ then (A, _) else (A, _)).1.count i j ≤ 99; split <;> exact h i j
  | replyTo l => intro i j; show (if _ then (A, _) else (A, _)).1.count i j ≤ 99; split <;> exact h i j
  | perfect => exact h
  | core => rw [ro_core]; exact h
  | told c => intro i j; show (if _ then (A, _) else (A, _)).1.count i j ≤ 99; split <;> exact h i j
  | twice => intro i j; show (if _ then (A, _) else (A, _)).1.count i j ≤ 99; split <;> exact h i j
  | swap => exact cb_swapped h
  | pair x y => intro i j; show (if _ then (A, _) else (A, _)).1.count i j ≤ 99; split <;> exact h i j
  | state => exact h
/-! ### is_game -/
def bad (x y a b : Nat) : Prop := x = 0 ∨ 3 < x ∨ y = 0 ∨ 3 < y ∨ a = 0 ∨ 4 < a ∨ b = 0 ∨ 4 < b
instance (x y a b : Nat) : Decidable (bad x y a b) := by unfold bad; infer_instance
theorem step_begin (st : Option Su172.Abs) (x y a b : Nat) : Su172.step st (.begin_ x y a b) = if bad x y a b then (st, Su172.no (-22)) else (some (Su172.new x y a b), Su172.num 0 []) := by
  cases st with
  | none =>
    show (if (Su172.does (Su172.new 1 1 1 1) (.begin_ x y a b)).2.value < 0 then none else some (Su172.does (Su172.new 1 1 1 1) (.begin_ x y a b)).1, (Su172.does (Su172.new 1 1 1 1) (.begin_ x y a b)).2) = _
    by_cases h : bad x y a b
    · have e : Su172.does (Su172.new 1 1 1 1) (.begin_ x y a b) = (Su172.new 1 1 1 1, Su172.no (-22)) := if_pos h
      rw [e, if_pos h]
      rfl
    · have e : Su172.does (Su172.new 1 1 1 1) (.begin_ x y a b) = (Su172.new x y a b, Su172.num 0 []) := if_neg h
      rw [e, if_neg h]
      rfl
  | some g =>
    show (some (Su172.does g (.begin_ x y a b)).1, (Su172.does g (.begin_ x y a b)).2) = _
    by_cases h : bad x y a b
    · have e : Su172.does g (.begin_ x y a b) = (g, Su172.no (-22)) := if_pos h
      rw [e, if_pos h]
    · have e : Su172.does g (.begin_ x y a b) = (Su172.new x y a b, Su172.num 0 []) := if_neg h
      rw [e, if_neg h]
def spIsGame : Sp := fun vs H Q _ => ∃ (x y a b : Nat), vs = [.int x, .int y, .int a, .int b] ∧ Q (.bl (!decide (bad x y a b))) H
section
variable {P : Program} {w : World} {K : PySem.W.Frag} {mg : Str → Option Value} {base : Heap} {C CL : Addr}
abbrev sIsGame : Stmt := top 35
/-- slots: 0:x 1:y 2:a 3:b 4:asked -/
theorem scIsGame : FnScope ["x", "y", "a", "b", "asked"] ["x", "y", "a", "b"] (defScope sIsGame) := ⟨rfl, rfl, rfl, by decide +kernel, rfl, by decide +kernel, by decide +kernel⟩
theorem ok_isGame {f : Addr} {fd : FuncData} (F : Fun K "is_game" "is_game" sIsGame f fd) (T : Cst mg) : FnOk P w K mg base CX0 1 f fd ["x", "y", "a", "b"] spIsGame := by
  refine F.ok scIsGame (fun vs H Q E h => ?_) (fun cdv A outer s H vs Q E hr h => ?_)
  · obtain ⟨x, y, a, b, rfl, _⟩ := h
    rfl
  · obtain ⟨x, y, a, b, rfl, k⟩ := h
    refine ⟨_, (pss_cons (ps_set (i := 4) scIsGame.nd rfl (Or.inl rfl) (pe_and (pe_cmpR op_le pe_int (pv 0) (nomark _)) (pe_and (pe_cmpR op_le (pv 0) (pe_gi T.MOST_QUESTIONS) (nomark _)) (pe_and (pe_cmpR op_le pe_int (pv 1) (nomark _)) (pe_one (pe_cmpR op_le (pv 1) (pe_gi T.MOST_QUESTIONS) (nomark _)))))))
      (pss_one (ps_ret (pe_and (pv 4) (pe_and (pe_cmpR op_le pe_int (pv 2) (nomark _)) (pe_and (pe_cmpR op_le (pv 2) (pe_gi T.MOST_CHOICES) (nomark _)) (pe_and (pe_cmpR op_le pe_int (pv 3) (nomark _)) (pe_one (pe_cmpR op_le (pv 3) (pe_gi T.MOST_CHOICES) (nomark _)))))))))), ?_⟩
    have no : bad x y a b → Q (.bl false) H := fun h => by
      rw [decide_eq_true h] at k
      exact k
    have yes : ¬ bad x y a b → Q (.bl true) H := fun h => by
      rw [decide_eq_false h] at k
      exact k
    have le1 : ∀ {n m : Nat}, ¬ decide ((n : Int) ≤ (m : Int)) = true → m < n := fun {n m} h => by
      have : ¬ (n : Int) ≤ (m : Int) := fun z => h (decide_eq_true z)
      omega
    refine ⟨_, rfl, _, _, rfl, rfl, _, rfl, ite2 (fun h1 => ?_) fun h1 => ⟨_, rfl, _, rfl, iteF (no (by have := le1 (n := 1) h1; unfold bad; omega))⟩⟩
    refine ⟨_, rfl, _, _, rfl, rfl, _, rfl, ite2 (fun h2 => ?_) fun h2 => ⟨_, rfl, _, rfl, iteF (no (by have := le1 (m := 3) h2; unfold bad; omega))⟩⟩
    refine ⟨_, rfl, _, _, rfl, rfl, _, rfl, ite2 (fun h3 => ?_) fun h3 => ⟨_, rfl, _, rfl, iteF (no (by have := le1 (n := 1) h3; unfold bad; omega))⟩⟩
    refine ⟨_, rfl, _, _, rfl, rfl, ?_⟩
    refine ⟨_, rfl, _, rfl, ite2 (fun h4 => ?_) fun h4 => no (by have := le1 (m := 3) h4; unfold bad; omega)⟩
    refine ⟨_, rfl, _, _, rfl, rfl, _, rfl, ite2 (fun h5 => ?_) fun h5 => no (by have := le1 (n := 1) h5; unfold bad; omega)⟩
    refine ⟨_, rfl, _, _, rfl, rfl, _, rfl, ite2 (fun h6 => ?_) fun h6 => no (by have := le1 (m := 4) h6; unfold bad; omega)⟩
    refine ⟨_, rfl, _, _, rfl, rfl, _, rfl, ite2 (fun h7 => ?_) fun h7 => no (by have := le1 (n := 1) h7; unfold bad; omega)⟩
    refine ⟨_, rfl, _, _, rfl, rfl, ?_⟩
    show Q (.bl (decide ((b : Int) ≤ 4))) H
    have le2 : ∀ {n m : Int}, decide (n ≤ m) = true → n ≤ m := fun h => of_decide_eq_true h
    have g1 := le2 h1
    have g2 := le2 h2
    have g3 := le2 h3
    have g4 := le2 h4
    have g5 := le2 h5
    have g6 := le2 h6
    have g7 := le2 h7
    by_cases h8 : (b : Int) ≤ 4
    · rw [decide_eq_true h8]
      exact yes (by unfold bad; omega)
    · rw [decide_eq_false h8]
      exact no (by unfold bad; omega)
/-! ### the line -/
def LineAt (C CL : Addr) (H : Hp) (line : Addr) : Option Su172.Abs → (Addr → Prop) → Prop
  | none, F => (∃ dx, H line = some (.ins CL dx [("begun", .non)])) ∧ ∀ c, F c ↔ c = line
  | some A, F => ∃ (dx g : Addr) (F0 : Addr → Prop), H line = some (.ins CL dx [("begun", .ref g)]) ∧ GAt C H g A F0 ∧ ¬ F0 line ∧ (∀ c, F c ↔ c = line ∨ F0 c) ∧ ∀ x y, A.count x y ≤ 99
/-- behind a call on the line -/
def LDid (C CL : Addr) (H : Hp) (line : Addr) (F : Addr → Prop) (z : Option Su172.Abs × Su172.Ans) (Q : VK) : Prop := ∀ (H' : Hp) (q : Addr) (F' : Addr → Prop), LineAt C CL H' line z.1 F' → (∀ c, F' c → F c ∨ H c = none) → (∀ c o, H c = some o → ¬ F c → H' c = some o) → H q = none →
  H' q = some (.lst (ansV z.2)) → Q (.ref q) H'
theorem LineAt.same {H H' : Hp} {line : Addr} {st : Option Su172.Abs} {F : Addr → Prop} (L : LineAt C CL H line st F) (s : Same H H') : LineAt C CL H' line st F := by
  cases st with
  | none =>
    obtain ⟨⟨dx, h⟩, hf⟩ := L
    exact ⟨⟨dx, s _ _ h⟩, hf⟩
  | some A =>
    obtain ⟨dx, g, F0, h, G, n, hf, cb⟩ := L
    exact ⟨dx, g, F0, s _ _ h, G.same s, n, hf, cb⟩
theorem LineAt.keep {H H' : Hp} {line : Addr} {st : Option Su172.Abs} {F : Addr → Prop} (L : LineAt C CL H line st F) (s : ∀ c o, H c = some o → F c → H' c = some o) : LineAt C CL H' line st F := by
  cases st with
  | none =>
    obtain ⟨⟨dx, h⟩, hf⟩ := L
    exact ⟨⟨dx, s _ _ h ((hf _).mpr rfl)⟩, hf⟩
  | some A =>
    obtain ⟨dx, g, F0, h, G, n, hf, cb⟩ := L
    exact ⟨dx, g, F0, s _ _ h ((hf _).mpr (.inl rfl)), G.keep fun c o h hc => s c o h ((hf _).mpr (.inr hc)), n, hf, cb⟩
theorem LDid.same {H H' : Hp} {line q : Addr} {st : Option Su172.Abs} {F : Addr → Prop} {a : Su172.Ans} {Q : VK} (d : LDid C CL H line F (st, a) Q) (L : LineAt C CL H line st F) (s : Same H H') (hq : H q = none) (h : H' q = some (.lst (ansV a))) : Q (.ref q) H' :=
  d H' q F (L.same s) (fun c h => .inl h) (fun c o h _ => s c o h) hq h
theorem LineAt.ins {H : Hp} {line : Addr} {st : Option Su172.Abs} {F : Addr → Prop} (L : LineAt C CL H line st F) : ∃ dx v, H line = some (.ins CL dx [("begun", v)]) ∧ (st = none → v = .non) ∧ ∀ A, st = some A → ∃ g, v = .ref g := by
  cases st with
  | none =>
    obtain ⟨⟨dx, h⟩, hf⟩ := L
    exact ⟨dx, _, h, fun _ => rfl, fun A e => by cases e⟩
  | some A =>
    obtain ⟨dx, g, F0, h, G, n, hf, cb⟩ := L
    exact ⟨dx, _, h, fun e => (by cases e), fun A e => ⟨g, rfl⟩⟩
theorem LineAt.self {H : Hp} {line : Addr} {st : Option Su172.Abs} {F : Addr → Prop} (L : LineAt C CL H line st F) : F line := by
  cases st with
  | none => exact (L.2 line).mpr rfl
  | some A =>
    obtain ⟨dx, g, F0, h, G, n, hf, cb⟩ := L
    exact (hf line).mpr (.inl rfl)
structure LCls (K : PySem.W.Frag) (CL : Addr) : Prop where
  cl : Cls K CL
  nb : NoAttr K CL "begun"
def spLInit (C CL : Addr) : Sp := fun vs H Q _ => ∃ (p dx : Addr), vs = [.ref p] ∧ H p = some (.ins CL dx []) ∧ ∀ (H' : Hp) (F : Addr → Prop), LineAt C CL H' p none F → (∀ c, F c → c = p) → (∀ c o, H c = some o → c ≠ p → H' c = some o) → Q .non H'
abbrev sLInit : Stmt := inClass (top 37) 0
/-- slots: 0:self -/
theorem scLInit : FnScope ["self"] ["self"] (defScope sLInit) := ⟨rfl, rfl, rfl, by decide +kernel, rfl, by decide +kernel, by decide +kernel⟩
theorem ok_linit {f : Addr} {fd : FuncData} (F : Fun K "__init__" "Line.__init__" sLInit f fd) (L : LCls K CL) : FnOk P w K mg base CX0 1 f fd ["self"] (spLInit C CL) := by
  refine F.ok scLInit (fun vs H Q E h => ?_) (fun cdv A outer s H vs Q E hr h => ?_)
  · obtain ⟨p, dx, rfl, _⟩ := h
    rfl
  · obtain ⟨p, dx, rfl, hp, k⟩ := h
    refine ⟨_, (pss_one (ps_fld (pv 0) pe_non rfl)), ?_⟩
    refine ⟨_, rfl, p, CL, dx, _, rfl, hp, L.cl, L.nb, by decide, ?_⟩
    exact k _ (fun c => c = p) ⟨⟨dx, upd_same⟩, fun _ => Iff.rfl⟩ (fun c h => h) fun c o h n => by rw [upd_ne n]; exact h
def spLBegin (C CL : Addr) : Sp := fun vs H Q _ => ∃ (p : Addr) (st : Option Su172.Abs) (F : Addr → Prop) (x y a b : Nat), vs = [.ref p, .int x, .int y, .int a, .int b] ∧ LineAt C CL H p st F ∧ LDid C CL H p F (Su172.step st (.begin_ x y a b)) Q
abbrev sLBegin : Stmt := inClass (top 37) 1
/-- slots: 0:self 1:x 2:y 3:a 4:b -/
theorem scLBegin : FnScope ["self", "x", "y", "a", "b"] ["self", "x", "y", "a", "b"] (defScope sLBegin) := ⟨rfl, rfl, rfl, by decide +kernel, rfl, by decide +kernel, by decide +kernel⟩
theorem ok_lbegin {f : Addr} {fd : FuncData} (F : Fun K "begin" "Line.begin" sLBegin f fd) (T : Cst mg) (L : LCls K CL) (c_is_game : Cal P w K mg base 1 "is_game" ["x", "y", "a", "b"] spIsGame)
    (n_Game : NCal P w K mg base C 1 "Game" ["self", "first_asked", "second_asked", "first_choices", "second_choices"] (spInit C)) : FnOk P w K mg base CX0 4 f fd ["self", "x", "y", "a", "b"] (spLBegin C CL) := by
  refine F.ok scLBegin (fun vs H Q E h => ?_) (fun cdv A outer s H vs Q E hr h => ?_)
  · obtain ⟨p, st, F, x, y, a, b, rfl, _⟩ := h
    rfl
  · obtain ⟨p, st, F, x, y, a, b, rfl, la, k⟩ := h
    obtain ⟨dx, v, hi, _, _⟩ := la.ins
    rw [step_begin] at k
    refine ⟨_, (pss_cons (ps_if (pt_not (pt_val (pe_fn c_is_game (hr.mono (by decide)) (pa_cons (pv 1) (pa_cons (pv 2) (pa_cons (pv 3) (pa_cons (pv 4) pa_nil)))))))
        (pss_one (ps_ret (pe_lst (pa_cons (pe_gi T.NOT_AS_TOLD) pa_nil)))) pss_nil)
      (pss_cons (ps_fld (pv 0) (pe_mk n_Game (hr.mono (by decide)) (pa_cons (pv 1) (pa_cons (pv 2) (pa_cons (pv 3) (pa_cons (pv 4) pa_nil))))) rfl)
      (pss_one (ps_ret (pe_lst (pa_cons pe_int pa_nil)))))), ?_⟩
    refine ⟨_, rfl, _, rfl, _, rfl, _, rfl, x, y, a, b, rfl, _, rfl, ite2 (fun hc => ?_) fun hc => ?_⟩
    · have hb : bad x y a b := by simpa using hc
      rw [if_pos hb] at k
      exact ⟨by show 1 ≤ sizeLine; decide, fun q hq => k.same la (.new hq) hq upd_same⟩
    have hb : ¬ bad x y a b := by simpa using hc
    rw [if_neg hb] at k
    unfold bad at hb
    refine ⟨_, rfl, _, rfl, _, rfl, _, rfl, fun g dg ng nd ne => ?_⟩
    refine ⟨g, dg, x, y, a, b, rfl, upd_same, by omega, by omega, by omega, by omega, fun H1 F1 G1 f1 b1 => ⟨rfl, ?_⟩⟩
    have s1 : Same H H1 := fun c o h => b1 c o (by rw [upd_ne (ne_of_none h ng), upd_ne (ne_of_none h nd)]; exact h) (ne_of_none h ng)
    have f2 : ∀ c, F1 c → H c = none := fun c h => by
      rcases f1 c h with e | e
      · rw [e]; exact ng
      · by_cases e1 : c = g
        · rw [e1]; exact ng
        · by_cases e2 : c = dg
          · rw [e2]; exact nd
          · rw [upd_ne e1, upd_ne e2] at e; exact e
    refine ⟨_, rfl, p, CL, dx, _, rfl, s1 _ _ hi, L.cl, L.nb, by show 1 < 1000; decide, ?_⟩
    refine ⟨by show 1 ≤ sizeLine; decide, fun q hq => ?_⟩
    have np : ¬ F1 p := fun h => by
      have := f2 p h
      rw [hi] at this; cases this
    have e1 : putF "begun" (V.ref g) [(("begun" : Str), v)] = [(("begun" : Str), V.ref g)] := rfl
    rw [e1] at hq ⊢
    generalize hH2 : upd H1 p (.ins CL dx [("begun", .ref g)]) = H2 at hq
    have bp : ∀ c o, H1 c = some o → c ≠ p → H2 c = some o := fun c o h n => by rw [← hH2, upd_ne n]; exact h
    have hp2 : H2 p = some (.ins CL dx [("begun", .ref g)]) := by rw [← hH2, upd_same]
    have G2 : GAt C H2 g (Su172.new x y a b) F1 := by
      exact G1.keep fun c o h hc => bp c o h fun z => np (by rw [← z]; exact hc)
    have nq : H q = none := by
      cases q1 : H q with
      | none => rfl
      | some o =>
        exfalso
        by_cases z : q = p
        · rw [z, hp2] at hq; cases hq
        · rw [bp _ _ (s1 _ _ q1) z] at hq; cases hq
    refine k _ q (fun c => c = p ∨ F1 c) ⟨dx, g, F1, Same.new hq _ _ hp2, G2.same (.new hq), np, fun _ => Iff.rfl, fun i j => new_count_le x y a b i j⟩ (fun c h => ?_) (fun c o h n => ?_) nq (by rw [upd_same]; rfl)
    · rcases h with h | h
      · exact .inl (by rw [h]; exact la.self)
      · exact .inr (f2 c h)
    · exact Same.new hq _ _ (bp _ _ (s1 _ _ h) fun z => n (by rw [z]; exact la.self))
end
end Ta

set_option Elab.async false
set_option linter.all false
set_option maxRecDepth 100000
set_option maxHeartbeats 2000000
namespace Ta
open PySem PySem.Spec PyProof.Rows L2
/-- the tuples of the module's top -/
structure Tup (K : PySem.W.Frag) (mg : Str → Option Value) (r n : Addr) : Prop where
  CALLS_WITH_A_ROW : mg "CALLS_WITH_A_ROW" = some (.ref r)
  NUMBERS_OF_CALL : mg "NUMBERS_OF_CALL" = some (.ref n)
  rowT : ∀ H, SqT K H r [.int 4, .int 6, .int 7]
  numT : ∀ H, SqT K H n [.int 4, .int 5, .int 3, .int 3, .int 0, .int 0, .int 0, .int 0, .int 1, .int 2, .int 0, .int 0, .int 1, .int 0, .int 0, .int 2, .int 0]
theorem in_row (p : Int) : inV (.int p) [.int 4, .int 6, .int 7] = Tp.isRow p := by
  show ((4 == p) || ((6 == p) || ((7 == p) || false))) = (p == 4 || p == 6 || p == 7)
  rw [Bool.or_false, BEq.comm (a := (4 : Int)), BEq.comm (a := (6 : Int)), BEq.comm (a := (7 : Int)), Bool.or_assoc]
theorem num_at {p : Int} (h : 0 ≤ p ∧ p ≤ 16) (hr : Tp.isRow p = false) : atI ([.int 4, .int 5, .int 3, .int 3, .int 0, .int 0, .int 0, .int 0, .int 1, .int 2, .int 0, .int 0, .int 1, .int 0, .int 0, .int 2, .int 0] : List V) p = some (.int (Tp.nums p : Nat)) := by
  have : p = 0 ∨ p = 1 ∨ p = 2 ∨ p = 3 ∨ p = 4 ∨ p = 5 ∨ p = 6 ∨ p = 7 ∨ p = 8 ∨ p = 9 ∨ p = 10 ∨ p = 11 ∨ p = 12 ∨ p = 13 ∨ p = 14 ∨ p = 15 ∨ p = 16 := by omega
  rcases this with rfl | rfl | rfl | rfl | rfl | rfl | rfl | rfl | rfl | rfl | rfl | rfl | rfl | rfl | rfl | rfl | rfl <;> first | rfl | (exact absurd hr (by decide))
theorem intsV_get {ns : List Int} {k : Nat} {p : Int} (h : ns[k]? = some p) : (ns.map V.int)[k]? = some (.int p) := by
  rw [List.getElem?_map, h]; rfl
section
variable {P : Program} {w : World} {K : PySem.W.Frag} {mg : Str → Option Value} {base : Heap} {C CL rT nT : Addr}
/-! ### where a call's numbers stand -/
def spStart (K : PySem.W.Frag) : Sp := fun vs H Q _ => ∃ (a : Addr) (ns : List Int) (k : Nat) (p : Int), vs = [.ref a, .int k] ∧ SqL K H a (ns.map V.int) ∧ ns[k]? = some p ∧ Q (.int ((if Tp.isRow p = true then k + 2 else k + 1 : Nat) : Int)) H
abbrev sStart : Stmt := top 38
/-- slots: 0:calls 1:at -/
theorem scStart : FnScope ["calls", "at"] ["calls", "at"] (defScope sStart) := ⟨rfl, rfl, rfl, by decide +kernel, rfl, by decide +kernel, by decide +kernel⟩
theorem ok_start {f : Addr} {fd : FuncData} (F : Fun K "start_of_numbers" "start_of_numbers" sStart f fd) (T : Tup K mg rT nT) : FnOk P w K mg base CX0 1 f fd ["calls", "at"] (spStart K) := by
  refine F.ok scStart (fun vs H Q E h => ?_) (fun cdv A outer s H vs Q E hr h => ?_)
  · obtain ⟨a, ns, k, p, rfl, _⟩ := h
    rfl
  · obtain ⟨a, ns, k, p, rfl, hl, hp, q⟩ := h
    refine ⟨_, (pss_cons (ps_if (pt_cmpR op_in_seq (pe_ix ix_list (pv 0) (pv 1) (fun _ _ => rfl)) (pe_gr T.CALLS_WITH_A_ROW) (by with_unfolding_all rfl))
        (pss_one (ps_ret (pe_op op_add (pv 1) pe_int))) pss_nil)
      (pss_one (ps_ret (pe_op op_add (pv 1) pe_int)))), ?_⟩
    refine ⟨_, rfl, _, rfl, a, _, _, _, rfl, rfl, hl, atI_nat (intsV_get hp), rT, _, rfl, .inr (T.rowT H), rfl, rfl, _, rfl, ?_⟩
    rw [if_neg (by decide), in_row]
    refine ite2 (fun hc => ?_) fun hc => ?_
    · rw [if_pos hc] at q
      exact ⟨_, rfl, _, _, rfl, rfl, q⟩
    · rw [if_neg hc] at q
      exact ⟨_, rfl, _, _, rfl, rfl, q⟩
def spMany (K : PySem.W.Frag) : Sp := fun vs H Q _ => ∃ (a : Addr) (ns : List Int) (k : Nat) (p : Int) (n : Nat), vs = [.ref a, .int k] ∧ SqL K H a (ns.map V.int) ∧ ns[k]? = some p ∧ (0 ≤ p ∧ p ≤ 16) ∧ (Tp.isRow p = true → ns[k + 1]? = some (n : Int)) ∧ (Tp.isRow p = false → n = Tp.nums p) ∧ Q (.int (n : Nat)) H
abbrev sMany : Stmt := top 39
/-- slots: 0:calls 1:at -/
theorem scMany : FnScope ["calls", "at"] ["calls", "at"] (defScope sMany) := ⟨rfl, rfl, rfl, by decide +kernel, rfl, by decide +kernel, by decide +kernel⟩
theorem ok_many {f : Addr} {fd : FuncData} (F : Fun K "how_many_numbers" "how_many_numbers" sMany f fd) (T : Tup K mg rT nT) : FnOk P w K mg base CX0 1 f fd ["calls", "at"] (spMany K) := by
  refine F.ok scMany (fun vs H Q E h => ?_) (fun cdv A outer s H vs Q E hr h => ?_)
  · obtain ⟨a, ns, k, p, n, rfl, _⟩ := h
    rfl
  · obtain ⟨a, ns, k, p, n, rfl, hl, hp, hb, h1, h2, q⟩ := h
    refine ⟨_, (pss_cons (ps_if (pt_cmpR op_in_seq (pe_ix ix_list (pv 0) (pv 1) (fun _ _ => rfl)) (pe_gr T.CALLS_WITH_A_ROW) (by with_unfolding_all rfl))
        (pss_one (ps_ret (pe_ix ix_list (pv 0) (pe_op op_add (pv 1) pe_int) (fun _ _ => rfl)))) pss_nil)
      (pss_one (ps_ret (pe_ix ix_tup (pe_gr T.NUMBERS_OF_CALL) (pe_ix ix_list (pv 0) (pv 1) (fun _ _ => rfl)) (fun _ _ => rfl))))), ?_⟩
    refine ⟨_, rfl, _, rfl, a, _, _, _, rfl, rfl, hl, atI_nat (intsV_get hp), rT, _, rfl, .inr (T.rowT H), rfl, rfl, _, rfl, ?_⟩
    rw [if_neg (by decide), in_row]
    refine ite2 (fun hc => ?_) fun hc => ?_
    · exact ⟨_, rfl, _, rfl, _, _, rfl, rfl, a, _, _, _, rfl, rfl, hl, at_of (j := k + 1) rfl (intsV_get (h1 hc)), q⟩
    · have hc' : Tp.isRow p = false := by simpa using hc
      rw [h2 hc'] at q
      exact ⟨_, rfl, _, rfl, a, _, _, _, rfl, rfl, hl, atI_nat (intsV_get hp), nT, _, _, _, rfl, rfl, T.numT H, num_at hb hc', q⟩
/-! ### one call on the line -/
/-- a call on the game that stands -/
def spOnGame (K : PySem.W.Frag) (C : Addr) : Sp := fun vs H Q _ => ∃ (g r : Addr) (A : Su172.Abs) (F : Addr → Prop) (p : Int) (l : List Nat) (c : Su172.Call), vs = [.ref g, .int p, .ref r] ∧ GAt C H g A F ∧ SqL K H r (natsV l) ∧ Su172Neutral.asked1 (p :: Tp.intsL l) = true ∧ p ≠ 0 ∧ p ≠ 14 ∧ (0 ≤ p ∧ p ≤ 16) ∧ (∀ x y, A.count x y ≤ 99) ∧
  Su172Neutral.callOf (p :: Tp.intsL l) = some c ∧ Did C H g F (Su172.does A c) Q
def spLAnswer (K : PySem.W.Frag) (C CL : Addr) : Sp := fun vs H Q _ => ∃ (line r : Addr) (st : Option Su172.Abs) (F : Addr → Prop) (p : Int) (l : List Nat) (c : Su172.Call), vs = [.ref line, .int p, .ref r] ∧ LineAt C CL H line st F ∧ SqL K H r (natsV l) ∧ Su172Neutral.asked1 (p :: Tp.intsL l) = true ∧ (0 ≤ p ∧ p ≤ 16) ∧
  Su172Neutral.callOf (p :: Tp.intsL l) = some c ∧ LDid C CL H line F (Su172.step st c) Q
theorem not_begin {p : Int} {l : List Nat} {c : Su172.Call} (hp : p ≠ 0) (h : Su172Neutral.callOf (p :: Tp.intsL l) = some c) : ∀ x y a b, c ≠ .begin_ x y a b := by
  intro x y a b e
  subst e
  unfold Su172Neutral.callOf at h
  split at h
  all_goals first | (exact hp (by simp_all)) | simp_all
theorem lf_b {v : V} : ([(("begun" : Str), v)] : List (Str × V)).lookup ("begun" : Str) = some v := rfl
theorem lf_no {v : V} {m : Str} (h : ("begun" : Str) ≠ m) : ([(("begun" : Str), v)] : List (Str × V)).lookup m = none := by
  rw [List.lookup_eq_none_iff]
  intro p hp
  have e : p = (("begun" : Str), v) := by simpa using hp
  rw [e]
  show (!(m == ("begun" : Str))) = true
  rw [Bool.not_eq_true', beq_eq_false_iff_ne]
  exact fun z => h z.symm
def spLSwap (C CL : Addr) : Sp := fun vs H Q _ => ∃ (p : Addr) (A : Su172.Abs) (F : Addr → Prop), vs = [.ref p] ∧ LineAt C CL H p (some A) F ∧ LDid C CL H p F (some A.swapped, Su172.num 0 []) Q
abbrev sLSwap : Stmt := inClass (top 37) 2
/-- slots: 0:self -/
theorem scLSwap : FnScope ["self"] ["self"] (defScope sLSwap) := ⟨rfl, rfl, rfl, by decide +kernel, rfl, by decide +kernel, by decide +kernel⟩
theorem ok_lswap {f : Addr} {fd : FuncData} (F : Fun K "swap" "Line.swap" sLSwap f fd) (L : LCls K CL) (m_exchanged : MCal P w K mg base C 3 "exchanged" ["self"] (spExch C)) : FnOk P w K mg base CX0 4 f fd ["self"] (spLSwap C CL) := by
  refine F.ok scLSwap (fun vs H Q E h => ?_) (fun cdv A outer s H vs Q E hr h => ?_)
  · obtain ⟨p, A, F, rfl, _⟩ := h
    rfl
  · obtain ⟨p, A, F, rfl, la, k⟩ := h
    obtain ⟨dx, g, F0, hi, G, nl, hf, cb⟩ := id la
    obtain ⟨wd, td, gm, hf0⟩ := id G
    obtain ⟨dg, hig⟩ := gm.ins
    refine ⟨_, (pss_cons (ps_fld (pv 0) (pe_me0 m_exchanged (pe_fld (pv 0) rfl) (hr.mono (by decide))) rfl)
      (pss_one (ps_ret (pe_lst (pa_cons pe_int pa_nil))))), ?_⟩
    refine ⟨_, rfl, p, CL, dx, _, _, rfl, hi, L.cl, L.nb, lf_b, g, dg, _, rfl, hig, gf_no (by decide +kernel), g, A, F0, rfl, G, fun H1 o F1 s1 G1 new1 => ?_⟩
    refine ⟨_, rfl, p, CL, dx, _, rfl, s1 _ _ hi, L.cl, L.nb, by show 1 < 1000; decide, ?_⟩
    refine ⟨by show 1 ≤ sizeLine; decide, fun q hq => ?_⟩
    have np : ¬ F1 p := fun h => by
      have := new1 p h
      rw [hi] at this; cases this
    have e1 : putF "begun" (V.ref o) [(("begun" : Str), V.ref g)] = [(("begun" : Str), V.ref o)] := rfl
    rw [e1] at hq ⊢
    generalize hH2 : upd H1 p (.ins CL dx [("begun", .ref o)]) = H2 at hq
    have bp : ∀ c o, H1 c = some o → c ≠ p → H2 c = some o := fun c o h n => by rw [← hH2, upd_ne n]; exact h
    have hp2 : H2 p = some (.ins CL dx [("begun", .ref o)]) := by rw [← hH2, upd_same]
    have G2 : GAt C H2 o A.swapped F1 := G1.keep fun c o h hc => bp c o h fun z => np (by rw [← z]; exact hc)
    have nq : H q = none := by
      cases q1 : H q with
      | none => rfl
      | some o =>
        exfalso
        by_cases z : q = p
        · rw [z, hp2] at hq; cases hq
        · rw [bp _ _ (s1 _ _ q1) z] at hq; cases hq
    refine k _ q (fun c => c = p ∨ F1 c) ⟨dx, o, F1, Same.new hq _ _ hp2, G2.same (.new hq), np, fun _ => Iff.rfl, cb_swapped cb⟩ (fun c h => ?_) (fun c o h n => ?_) nq (by rw [upd_same]; rfl)
    · rcases h with h | h
      · exact .inl (by rw [h]; exact la.self)
      · exact .inr (new1 c h)
    · exact Same.new hq _ _ (bp _ _ (s1 _ _ h) fun z => n (by rw [z]; exact la.self))
abbrev sLAnswer : Stmt := inClass (top 37) 3
/-- slots: 0:self 1:call 2:numbers -/
theorem scLAnswer : FnScope ["self", "call", "numbers"] ["self", "call", "numbers"] (defScope sLAnswer) := ⟨rfl, rfl, rfl, by decide +kernel, rfl, by decide +kernel, by decide +kernel⟩
theorem step_some {A : Su172.Abs} {c : Su172.Call} : Su172.step (some A) c = (some (Su172.does A c).1, (Su172.does A c).2) := by
  cases c <;> rfl
theorem step_none {c : Su172.Call} (h : ∀ x y a b, c ≠ .begin_ x y a b) : Su172.step none c = (none, Su172.no (-11)) := by
  cases c <;> first | rfl | (exact absurd rfl (h _ _ _ _))
theorem ok_lanswer {f : Addr} {fd : FuncData} (F : Fun K "answer" "Line.answer" sLAnswer f fd) (T : Cst mg) (L : LCls K CL) (m_begin : MCal P w K mg base CL 4 "begin" ["self", "x", "y", "a", "b"] (spLBegin C CL)) (m_swap : MCal P w K mg base CL 4 "swap" ["self"] (spLSwap C CL))
    (c_answer_of_game : Cal P w K mg base 8 "answer_of_game" ["game", "call", "numbers"] (spOnGame K C)) : FnOk P w K mg base CX0 9 f fd ["self", "call", "numbers"] (spLAnswer K C CL) := by
  refine F.ok scLAnswer (fun vs H Q E h => ?_) (fun cdv A outer s H vs Q E hr h => ?_)
  · obtain ⟨line, r, st, F, p, l, c, rfl, _⟩ := h
    rfl
  · obtain ⟨line, r, st, F, p, l, c, rfl, la, hl, hask, hp, hc, k⟩ := h
    obtain ⟨dx, v, hi, hv0, hv1⟩ := la.ins
    refine ⟨_, (pss_cons (ps_if (pt_cmpR op_eq (pv 1) (pe_gi T.BEGIN) (nomark _))
        (pss_one (ps_ret (pe_me m_begin (pv 0) (hr.mono (by decide)) (pa_cons (pe_ix ix_list (pv 2) pe_int (fun _ _ => rfl)) (pa_cons (pe_ix ix_list (pv 2) pe_int (fun _ _ => rfl)) (pa_cons (pe_ix ix_list (pv 2) pe_int (fun _ _ => rfl)) (pa_cons (pe_ix ix_list (pv 2) pe_int (fun _ _ => rfl)) pa_nil))))))) pss_nil)
      (pss_cons (ps_if (pt_cmpR op_isN (pe_fld (pv 0) rfl) pe_non (nomark _))
        (pss_one (ps_ret (pe_lst (pa_cons (pe_gi T.NOT_BEGUN) pa_nil)))) pss_nil)
      (pss_cons (ps_if (pt_cmpR op_eq (pv 1) (pe_gi T.SWAP) (nomark _))
        (pss_one (ps_ret (pe_me0 m_swap (pv 0) (hr.mono (by decide))))) pss_nil)
      (pss_one (ps_ret (pe_fn c_answer_of_game (hr.mono (by decide)) (pa_cons (pe_fld (pv 0) rfl) (pa_cons (pv 1) (pa_cons (pv 2) pa_nil))))))))), ?_⟩
    refine ⟨_, rfl, rfl, _, rfl, ite2 (fun hb => ?_) fun hb => ?_⟩
    · have hp0 : p = 0 := by
        have := of_decide_eq_true hb
        injection this
      subst hp0
      obtain ⟨x, y, a, b, rfl, e⟩ := Tp.form0 hask
      rw [e] at hc
      cases hc
      exact ⟨_, rfl, line, dx, _, rfl, hi, lf_no (by decide +kernel), _, rfl, r, _, _, _, rfl, rfl, hl, at_of (j := 0) rfl rfl, _, rfl, r, _, _, _, rfl, rfl, hl, at_of (j := 1) rfl rfl, _, rfl, r, _, _, _, rfl, rfl, hl, at_of (j := 2) rfl rfl, _, rfl, r, _, _, _, rfl, rfl, hl, at_of (j := 3) rfl rfl,
        line, st, F, x, y, a, b, rfl, la, k⟩
    have hp0 : p ≠ 0 := fun e => hb (decide_eq_true (by rw [e]))
    have hnb := not_begin hp0 hc
    refine ⟨_, rfl, line, CL, dx, _, _, rfl, hi, L.cl, L.nb, lf_b, rfl, _, rfl, ite2 (fun hn => ?_) fun hn => ?_⟩
    · cases st with
      | none =>
        rw [step_none hnb] at k
        exact ⟨by show 1 ≤ sizeLine; decide, fun q hq => k.same la (.new hq) hq upd_same⟩
      | some A =>
        obtain ⟨g, e⟩ := hv1 A rfl
        rw [e] at hn
        exact absurd (of_decide_eq_true hn) (by intro z; cases z)
    · cases st with
      | none => exact absurd (decide_eq_true (hv0 rfl)) hn
      | some A =>
        obtain ⟨dx2, g, F0, hi2, G, nl, hf, cb⟩ := id la
        rw [hi] at hi2
        cases hi2
        refine ⟨_, rfl, rfl, _, rfl, ite2 (fun hw => ?_) fun hw => ?_⟩
        · have hp14 : p = 14 := by
            have := of_decide_eq_true hw
            injection this
          subst hp14
          obtain ⟨rfl, e⟩ := Tp.form14 hask
          rw [e] at hc
          cases hc
          exact ⟨_, rfl, line, dx, _, rfl, hi, lf_no (by decide +kernel), line, A, F, rfl, la, k⟩
        have hp14 : p ≠ 14 := fun e => hw (decide_eq_true (by rw [e]))
        refine ⟨_, rfl, line, CL, dx, _, _, rfl, hi, L.cl, L.nb, lf_b, _, rfl, _, rfl, g, r, A, F0, p, l, c, rfl, G, hl, hask, hp0, hp14, hp, cb, hc, ?_⟩
        intro H1 q F1 G1 f1 b1 nq hq
        rw [step_some] at k
        refine k H1 q (fun c => c = line ∨ F1 c) ⟨dx, g, F1, b1 _ _ hi nl, G1, fun z => ?_, fun _ => Iff.rfl, cb_does (let ⟨_, _, gm, _⟩ := G; gm.wf) cb c⟩ (fun c h => ?_) (fun c o h n => b1 c o h fun z => n ((hf c).mpr (.inr z))) nq hq
        · rcases f1 line z with z | z
          · exact nl z
          · rw [hi] at z; cases z
        · rcases h with h | h
          · exact .inl ((hf c).mpr (.inl h))
          · rcases f1 c h with h | h
            · exact .inl ((hf c).mpr (.inr h))
            · exact .inr h
end
end Ta

set_option Elab.async false
set_option linter.all false
set_option maxRecDepth 100000
set_option maxHeartbeats 2000000
namespace Ta
open PySem PySem.Spec PyProof.Rows L2
/-- the specification's machine, from a state -/
def due (st : Option Su172.Abs) (raw : List (List (List Int))) : List Int := PyFlat.told (PyFlat.played (fun s c => Su172Neutral.step s (c.headD [])) st (raw.map PySu172.whole))
theorem due_nil (st : Option Su172.Abs) : due st [] = [] := rfl
def ansI (a : Su172.Ans) : List Int := a.value :: Su172Neutral.outs a.out
theorem due_cons {st : Option Su172.Abs} {c : List (List Int)} {cs : List (List (List Int))} {x : Su172.Call} (h : Su172Neutral.callOf ((PySu172.whole c).headD []) = some x) :
    due st (c :: cs) = (((ansI (Su172.step st x).2).length : Int) :: ansI (Su172.step st x).2) ++ due (Su172.step st x).1 cs := by
  unfold due PyFlat.told
  rw [List.map_cons]
  show List.flatMap _ ((Su172Neutral.step st ((PySu172.whole c).headD [])).2 :: PyFlat.played _ (Su172Neutral.step st ((PySu172.whole c).headD [])).1 _) = _
  have e : Su172Neutral.step st ((PySu172.whole c).headD []) = ((Su172.step st x).1, ansI (Su172.step st x).2) := by
    unfold Su172Neutral.step
    rw [h]
    rfl
  rw [e, List.flatMap_cons]
theorem ansV_ints (a : Su172.Ans) : ansV a = (ansI a).map V.int := by
  unfold ansV ansI natsV Su172Neutral.outs
  rw [List.map_cons, List.map_map]
  rfl
theorem cut_mid {ns : List Int} {k n : Nat} (h : k + n ≤ ns.length) : cutV (ns.map V.int) (some (k : Int)) (some ((k + n : Nat) : Int)) = ((ns.drop k).take n).map V.int := by
  unfold cutV
  rw [HT.sIx_nat, HT.sIx_nat, List.length_map, Nat.min_eq_left h, Nat.min_eq_left (show k ≤ ns.length by omega), ← List.map_drop, ← List.map_take, Nat.add_sub_cancel_left]
section
variable {P : Program} {w : World} {K : PySem.W.Frag} {mg : Str → Option Value} {base : Heap} {C CL rT nT : Addr}
def spAnswers (K : PySem.W.Frag) : Sp := fun vs H Q _ => ∃ (a : Addr) (ns : List Int), vs = [.ref a] ∧ SqL K H a (ns.map V.int) ∧ ns.length ≤ 4800 ∧ PySu172.answers_asked ns = true ∧
  ∀ (H' : Hp) (p : Addr), H' p = some (.lst ((PySu172.answers ns).map V.int)) → Q (.ref p) H'
abbrev sAnswers : Stmt := top 40
/-- slots: 0:calls 1:line 2:given 3:at 4:start 5:behind 6:answered -/
theorem scAnswers : FnScope ["calls", "line", "given", "at", "start", "behind", "answered"] ["calls"] (defScope sAnswers) := ⟨rfl, rfl, rfl, by decide +kernel, rfl, by decide +kernel, by decide +kernel⟩
theorem ok_answers {f : Addr} {fd : FuncData} (F : Fun K "answers" "answers" sAnswers f fd) (B : Blt mg) (n_Line : NCal P w K mg base CL 1 "Line" ["self"] (spLInit C CL)) (c_start_of_numbers : Cal P w K mg base 1 "start_of_numbers" ["calls", "at"] (spStart K))
    (c_how_many_numbers : Cal P w K mg base 1 "how_many_numbers" ["calls", "at"] (spMany K)) (m_answer : MCal P w K mg base CL 9 "answer" ["self", "call", "numbers"] (spLAnswer K C CL)) : FnOk P w K mg base CX0 10 f fd ["calls"] (spAnswers K) := by
  refine F.ok scAnswers (fun vs H Q E h => ?_) (fun cdv A outer s H vs Q E hr h => ?_)
  · obtain ⟨a, ns, rfl, _⟩ := h
    rfl
  · obtain ⟨a, ns, rfl, hS, hlen, hask, k⟩ := h
    refine ⟨_, (pss_cons (ps_set (i := 1) scAnswers.nd rfl (Or.inl rfl) (pe_mk0 n_Line (hr.mono (by decide))))
      (pss_cons (ps_set (i := 2) scAnswers.nd rfl (Or.inl rfl) (pe_lst pa_nil))
      (pss_cons (ps_set (i := 3) scAnswers.nd rfl (Or.inl rfl) pe_int)
      (pss_cons (ps_while PassesOwn.never (pt_cmpR op_lt (pv 3) (pe_callB call_len_seq (by rfl) B.len PySem.boot_len (pa_cons (pv 0) pa_nil)) (nomark _))
        (pss_cons (ps_set (i := 4) scAnswers.nd rfl (Or.inl rfl) (pe_fn c_start_of_numbers (hr.mono (by decide)) (pa_cons (pv 0) (pa_cons (pv 3) pa_nil))))
        (pss_cons (ps_set (i := 5) scAnswers.nd rfl (Or.inl rfl) (pe_op op_add (pv 4) (pe_fn c_how_many_numbers (hr.mono (by decide)) (pa_cons (pv 0) (pa_cons (pv 3) pa_nil)))))
        (pss_cons (ps_set (i := 6) scAnswers.nd rfl (Or.inl rfl) (pe_me m_answer (pv 1) (hr.mono (by decide)) (pa_cons (pe_ix ix_list (pv 0) (pv 3) (fun _ _ => rfl)) (pa_cons (pe_slice sl_list (pv 0) (po_some (pv 4)) (po_some (pv 5))) pa_nil))))
        (pss_cons (ps_expr (pe_bm PySem.F.plainAttrs_list PySem.F.slot_list_append PySem.F.type_list_append mt_append (pv 2) (pa_cons (pe_callB call_len_seq (by rfl) B.len PySem.boot_len (pa_cons (pv 6) pa_nil)) pa_nil)))
        (pss_cons (ps_expr (pe_bm PySem.F.plainAttrs_list PySem.F.slot_list_extend PySem.F.type_list_extend mt_extend (pv 2) (pa_cons (pv 6) pa_nil)))
        (pss_one (ps_set (i := 3) scAnswers.nd rfl (Or.inl rfl) (pv 5)))))))))
      (pss_one (ps_ret (pv 2))))))), ?_⟩
    unfold PySu172.answers_asked at hask
    cases hraw : PyFlat.calls PySu172.shape ns.length ns with
    | none => rw [hraw] at hask; cases hask
    | some raw =>
    rw [hraw] at hask
    simp only [Bool.and_eq_true] at hask
    obtain ⟨⟨⟨⟨_, _⟩, _⟩, hask⟩, hshort⟩ := hask
    have hans : PySu172.answers ns = due none raw := by
      unfold PySu172.answers PySu172.calls
      rw [hraw]
      rfl
    have hsz : (PySu172.answers ns).length ≤ 10000000 := of_decide_eq_true hshort
    have hall : ∀ c ∈ raw, Su172Neutral.asked1 ((PySu172.whole c).headD []) = true := fun c hc => by
      unfold Su172Neutral.asked at hask
      rw [Bool.and_eq_true, List.all_eq_true] at hask
      exact hask.2 _ (List.mem_map.mpr ⟨_, List.mem_map.mpr ⟨c, hc, rfl⟩, rfl⟩)
    -- line = Line(); given = []; at = 0
    intro line dl nl nd ne
    refine ⟨line, dl, rfl, upd_same, fun H1 F1 L1 f1 b1 => ⟨rfl, ?_⟩⟩
    have s1 : Same H H1 := Same.made nl nd b1
    refine ⟨Nat.zero_le _, fun given ng => ?_⟩
    have s2 : Same H (upd H1 given (.lst [])) := s1.upd_new ng
    -- the loop
    refine ⟨fun m σ H' => ∃ (at_ : Nat) (st : Option Su172.Abs) (F : Addr → Prop) (out : List Int) (rest : List (List (List Int))) (fu : Nat) (v4 v5 v6 : Option V), σ = [some (.ref a), some (.ref line), some (.ref given), some (.int (at_ : Nat)), v4, v5, v6] ∧ m = ns.length - at_ ∧ at_ ≤ ns.length ∧ Same H H' ∧
      LineAt C CL H' line st F ∧ (∀ c, F c → H c = none) ∧ ¬ F given ∧ H' given = some (.lst (out.map V.int)) ∧ PyFlat.calls PySu172.shape fu (ns.drop at_) = some rest ∧ (∀ c ∈ rest, Su172Neutral.asked1 ((PySu172.whole c).headD []) = true) ∧ out ++ due st rest = PySu172.answers ns, ?_, ?_⟩
    · refine ⟨_, 0, none, F1, [], raw, ns.length, none, none, none, rfl, rfl, Nat.zero_le _, s2, L1.same (.new ng), fun c h => by rw [f1 c h]; exact nl, fun h => ?_, upd_same, by rw [List.drop_zero]; exact hraw, hall, by rw [hans]; rfl⟩
      have e := f1 given h
      obtain ⟨dx, v, hi, _⟩ := L1.ins
      rw [e, hi] at ng; cases ng
    · rintro m σ H2 ⟨at_, st, F2, out, rest, fu, v4, v5, v6, rfl, rfl, hat, s3, L2, f2, ng2, hg2, hc2, hall2, hout⟩
      refine ⟨_, rfl, _, rfl, a, _, rfl, .inl (s3.seq hS), _, _, rfl, rfl, _, rfl, ?_⟩
      refine ite2 (fun hlt => ?_) fun hlt => ?_
      · have hlt' : at_ < ns.length := by
          have := of_decide_eq_true hlt
          rw [List.length_map] at this
          omega
        obtain ⟨p, hp⟩ : ∃ p, ns[at_]? = some p := ⟨_, List.getElem?_eq_getElem hlt'⟩
        have hdrop : ns.drop at_ = p :: ns.drop (at_ + 1) := by
          rw [List.drop_eq_getElem_cons hlt']
          congr 1
          rw [List.getElem?_eq_getElem hlt'] at hp
          exact Option.some.inj hp
        rw [hdrop] at hc2
        obtain ⟨c, t, fu', cs, rfl, st1, hc3⟩ := Tp.calls_cons hc2
        have hwhole := Tp.whole_step st1
        have hask1 := hall2 c (List.mem_cons_self ..)
        rw [hwhole] at hask1
        -- start, how many
        obtain ⟨n, hrow1, hrow2, hown, ht, hle⟩ : ∃ n : Nat, (Tp.isRow p = true → ns[at_ + 1]? = some (n : Int)) ∧ (Tp.isRow p = false → n = Tp.nums p) ∧ Tp.own p (ns.drop (at_ + 1)) = (ns.drop (if Tp.isRow p = true then at_ + 2 else at_ + 1)).take n ∧
            t = ns.drop ((if Tp.isRow p = true then at_ + 2 else at_ + 1) + n) ∧ (if Tp.isRow p = true then at_ + 2 else at_ + 1) + n ≤ ns.length := by
          cases hr' : Tp.isRow p with
          | true =>
            obtain ⟨n, h1, h2, h3, _⟩ := st1.row hr'
            rw [List.getElem?_drop, Nat.add_zero] at h1
            rw [List.length_drop] at h2
            refine ⟨n, fun _ => h1, fun z => (by cases z), ?_, ?_, ?_⟩
            · unfold Tp.own
              rw [hr', if_pos rfl, if_pos rfl, List.drop_drop]
              have : ((ns.drop (at_ + 1)).getD 0 0).toNat = n := by
                rw [List.getD, List.getElem?_drop, Nat.add_zero, h1]; rfl
              rw [this]
            · rw [h3, if_pos rfl, List.drop_drop]
              congr 1
              omega
            · rw [if_pos rfl]; omega
          | false =>
            obtain ⟨h1, h2, _⟩ := st1.flat hr'
            rw [List.length_drop] at h1
            refine ⟨Tp.nums p, fun z => (by cases z), fun _ => rfl, ?_, ?_, ?_⟩
            · unfold Tp.own
              rw [hr', if_neg (by decide), if_neg (by decide)]
            · rw [h2, if_neg (by decide), List.drop_drop]
            · rw [if_neg (by decide)]; omega
        generalize hstart : (if Tp.isRow p = true then at_ + 2 else at_ + 1) = start at hown ht hle
        have hst : at_ < start := by rw [← hstart]; split <;> omega
        refine ⟨fun σ' H' => ∃ m', m' < ns.length - at_ ∧ ∃ (at_ : Nat) (st : Option Su172.Abs) (F : Addr → Prop) (out : List Int) (rest : List (List (List Int))) (fu : Nat) (v4 v5 v6 : Option V), σ' = [some (.ref a), some (.ref line), some (.ref given), some (.int (at_ : Nat)), v4, v5, v6] ∧ m' = ns.length - at_ ∧ at_ ≤ ns.length ∧ Same H H' ∧
          LineAt C CL H' line st F ∧ (∀ c, F c → H c = none) ∧ ¬ F given ∧ H' given = some (.lst (out.map V.int)) ∧ PyFlat.calls PySu172.shape fu (ns.drop at_) = some rest ∧ (∀ c ∈ rest, Su172Neutral.asked1 ((PySu172.whole c).headD []) = true) ∧ out ++ due st rest = PySu172.answers ns, fun σ' H' h => h, ?_⟩
        refine ⟨_, rfl, _, rfl, a, ns, at_, p, rfl, s3.seq hS, hp, ?_⟩
        rw [hstart]
        refine ⟨_, rfl, _, rfl, _, rfl, a, ns, at_, p, n, rfl, s3.seq hS, hp, st1.ok, hrow1, hrow2, _, _, rfl, rfl, ?_⟩
        obtain ⟨dx, v, hi, _⟩ := L2.ins
        have hnn := Tp.asked_nn hask1
        have hints : Tp.own p (ns.drop (at_ + 1)) = Tp.intsL ((Tp.own p (ns.drop (at_ + 1))).map Int.toNat) := Tp.ints_of hnn
        generalize hl : (Tp.own p (ns.drop (at_ + 1))).map Int.toNat = l at hints
        rw [hints] at hask1
        rw [hints] at hown
        rw [hints] at hwhole
        obtain ⟨x, hx⟩ : ∃ x, Su172Neutral.callOf (p :: Tp.intsL l) = some x := Tp.asked_call st1.ok hask1
        refine ⟨_, rfl, line, dx, _, rfl, hi, lf_no (by decide +kernel), _, rfl, _, rfl, a, _, _, _, rfl, rfl, s3.seq hS, atI_nat (intsV_get hp), _, rfl, _, rfl, _, rfl, _, rfl, _, rfl, a, _, rfl, s3.seq hS, fun r nr => ?_⟩
        have ecut : cutV (ns.map V.int) (some (start : Int)) (some ((start : Int) + (n : Int))) = natsV l := by
          have := cut_mid hle
          rw [← hown] at this
          have e : ((start + n : Nat) : Int) = (start : Int) + (n : Int) := by omega
          rw [e] at this
          rw [this]
          exact (natsV_ints l).symm
        rw [ecut]
        have s4 : Same H2 (upd H2 r (.lst (natsV l))) := .new nr
        refine ⟨line, r, st, F2, p, l, x, rfl, L2.same s4, SqL.of upd_same, hask1, st1.ok, hx, fun H3 q F3 L3 f3 b3 nq hq => ?_⟩
        have g3 : H3 given = some (.lst (out.map V.int)) := b3 _ _ (s4 _ _ hg2) ng2
        have s5 : Same H H3 := fun c o h => b3 _ _ (s4 _ _ (s3 _ _ h)) fun z => by rw [f2 c z] at h; cases h
        have hF3 : ∀ c, F3 c → H c = none := fun c h => by
          rcases f3 c h with h | h
          · exact f2 c h
          · exact (s3.upd_new nr).free h
        have hgF3 : ¬ F3 given := fun h => by
          rcases f3 given h with h | h
          · exact ng2 h
          · rw [s4 _ _ hg2] at h; cases h
        rw [ansV_ints] at hq
        have hcx : Su172Neutral.callOf ((PySu172.whole c).headD []) = some x := by rw [hwhole]; exact hx
        rw [due_cons hcx] at hout
        have hlenout : out.length + (1 + (ansI (Su172.step st x).2).length) ≤ 10000000 := by
          rw [← hout, List.length_append, List.length_append, List.length_cons] at hsz
          omega
        have ngq : given ≠ q := ne_of_none (s4 _ _ hg2) nq
        refine ⟨_, rfl, .inl ⟨rfl, _, SqL.of g3⟩, _, rfl, q, _, rfl, .inl (SqL.of hq), given, _, _, rfl, rfl, g3, by rw [List.length_map, sizeLine_eq]; omega, ?_⟩
        refine ⟨_, rfl, .inl ⟨rfl, _, SqL.of upd_same⟩, _, rfl, given, q, _, _, rfl, rfl, upd_same, by rw [upd_ne ngq.symm]; exact hq, by rw [List.length_append, List.length_map, List.length_map, sizeLine_eq]; show _ + 1 + _ ≤ _; omega, ?_⟩
        rw [upd_upd]
        refine ⟨_, rfl, ns.length - (start + n), by omega, start + n, (Su172.step st x).1, F3, out ++ (((ansI (Su172.step st x).2).length : Int) :: ansI (Su172.step st x).2), cs, fu', _, _, _, rfl, rfl, hle, s5.upd_free ?_, ?_, hF3, hgF3, ?_, by rw [← ht]; exact hc3, fun c' h => hall2 c' (List.mem_cons_of_mem _ h), ?_⟩
        · exact s1.free ng
        · exact L3.keep fun c o h hc => by
            rw [upd_ne fun z => hgF3 (by rw [← z]; exact hc)]
            exact h
        · rw [upd_same, List.map_append, List.map_cons, List.append_assoc]
          congr 3
          rw [List.length_map]
          rfl
        · rw [List.append_assoc]; exact hout
      · have e : at_ = ns.length := by
          have h1 : ¬ (at_ : Int) < ((ns.map V.int).length : Nat) := fun z => hlt (decide_eq_true z)
          rw [List.length_map] at h1
          omega
        rw [e, List.drop_length] at hc2
        have : rest = [] := by
          cases fu <;> (unfold PyFlat.calls at hc2; injection hc2 with hc2; exact hc2.symm)
        rw [this, due_nil, List.append_nil] at hout
        refine ⟨_, rfl, k H2 given ?_⟩
        rw [hg2, hout]
end
end Ta

set_option Elab.async false
set_option linter.all false
set_option maxRecDepth 100000
set_option maxHeartbeats 2000000
/-! What the top has written: a def, a method, a class, a number, by its name. -/
namespace Ta
open PySem PySem.Spec PyProof.Rows L2
def FG (K : PySem.W.Frag) (mg : Str → Option Value) (x : Str) (st : Stmt) (ps : List Str) : Prop := ∃ f fd, mg x = some (.ref f) ∧ Fun K x x st f fd ∧ Binds K fd ps []
def FM (K : PySem.W.Frag) (C : Addr) (m qual : Str) (st : Stmt) (ps : List Str) : Prop := ∃ f fd, Meth K C m f ∧ Fun K m qual st f fd ∧ Binds K fd ps []
def FI (K : PySem.W.Frag) (C : Addr) (qual : Str) (st : Stmt) (ps : List Str) : Prop := ∃ f fd, Mk K C f ∧ Fun K "__init__" qual st f fd ∧ Binds K fd ps []
section
variable {K : PySem.W.Frag} {h : Heap} {mg : Str → Option Value} {x qual m : Str} {st : Stmt} {ps : List Str} {f C : Addr} {od an : Option Addr} {sl : Array (Option Value)} {oc kV dc pm cd ct : Value}
theorem fg_mk (X : K.In h) (G : h.Ns mainGlobals mg)
    (b : ∀ (kV doc pm : Value) (an : Option Addr) (cdv ct : Value) (us : List Value), us.length = ps.length → bindArgs (PySem.W.fnOf x x (defArgs st) (defBody st) (defScope st) .none kV doc pm an cdv ct) ⟨us, []⟩ = pure (ps.zip us))
    (a : PySem.W.nsIn K mainGlobals x = some (some (.ref f))) (l : K.lookup f = some ⟨oc, od, .func (PySem.W.fnOf x x (defArgs st) (defBody st) (defScope st) .none kV dc pm an cd ct), sl⟩) (c : PySem.W.codeIn K cd x = true) (k : PySem.W.keepIn K (.ref f) = true) : FG K mg x st ps :=
  ⟨f, _, PySem.W.mg_of X G a, fun_mk l c k, (fun_mk l c k).binds b⟩
theorem fm_mk
    (b : ∀ (kV doc pm : Value) (an : Option Addr) (cdv ct : Value) (us : List Value), us.length = ps.length → bindArgs (PySem.W.fnOf m qual (defArgs st) (defBody st) (defScope st) .none kV doc pm an cdv ct) ⟨us, []⟩ = pure (ps.zip us))
    (a : PySem.W.findIn K (.ref C) m = some (some (.ref f))) (i : PySem.W.isFn K (.ref f) = true) (l : K.lookup f = some ⟨oc, od, .func (PySem.W.fnOf m qual (defArgs st) (defBody st) (defScope st) .none kV dc pm an cd ct), sl⟩) (c : PySem.W.codeIn K cd qual = true) (k : PySem.W.keepIn K (.ref f) = true) : FM K C m qual st ps :=
  ⟨f, _, ⟨a, i, k⟩, fun_mk l c k, (fun_mk l c k).binds b⟩
theorem fi_mk
    (b : ∀ (kV doc pm : Value) (an : Option Addr) (cdv ct : Value) (us : List Value), us.length = ps.length → bindArgs (PySem.W.fnOf "__init__" qual (defArgs st) (defBody st) (defScope st) .none kV doc pm an cdv ct) ⟨us, []⟩ = pure (ps.zip us))
    (mk : PySem.W.makesIn K C = true) (a : PySem.W.findIn K (.ref C) "__init__" = some (some (.ref f))) (i : PySem.W.isFn K (.ref f) = true) (kc : PySem.W.keepIn K (.ref C) = true)
    (l : K.lookup f = some ⟨oc, od, .func (PySem.W.fnOf "__init__" qual (defArgs st) (defBody st) (defScope st) .none kV dc pm an cd ct), sl⟩) (c : PySem.W.codeIn K cd qual = true) (k : PySem.W.keepIn K (.ref f) = true) : FI K C qual st ps :=
  ⟨f, _, ⟨mk, a, i, kc⟩, fun_mk l c k, (fun_mk l c k).binds b⟩
variable {P : Program} {w : World} {base : Heap} {n : Nat} {sp : Sp}
theorem FG.cal (F : FG K mg x st ps) (h : ∀ f fd, Fun K x x st f fd → FnOk P w K mg base CX0 n f fd ps sp) : Cal P w K mg base n x ps sp :=
  let ⟨f, fd, a, b, c⟩ := F
  ⟨f, fd, a, b.kp, c, h f fd b⟩
theorem FM.cal (F : FM K C m qual st ps) (cl : Cls K C) (h : ∀ f fd, Fun K m qual st f fd → FnOk P w K mg base CX0 n f fd ps sp) : MCal P w K mg base C n m ps sp :=
  let ⟨f, fd, a, b, c⟩ := F
  ⟨f, fd, cl, a, c, h f fd b⟩
theorem FI.cal (F : FI K C qual st ps) (m : mg x = some (.ref C)) (h : ∀ f fd, Fun K "__init__" qual st f fd → FnOk P w K mg base CX0 n f fd ps sp) : NCal P w K mg base C n x ps sp :=
  let ⟨f, fd, a, b, c⟩ := F
  ⟨f, fd, a, m, c, h f fd b⟩
theorem ci_mk {i : Int} {t : Tok} (X : K.In h) (G : h.Ns mainGlobals mg) (a : PySem.W.nsIn K mainGlobals x = some (some (.int i t))) : ∃ t, mg x = some (.int i t) := ⟨t, PySem.W.mg_of X G a⟩
theorem tup_mk {a : Addr} {its : Array Value} {k : Nat} {xs : List V} (l : K.lookup a = some ⟨.type "tuple", od, .seq its k, sl⟩) (hz : its.size ≤ sizeLine) (v : Vals xs its.toList) : ∀ H, SqT K H a xs := fun H => .inr ⟨_, its, k, l, rfl, rfl, hz, v⟩
end
end Ta

set_option Elab.async false
set_option linter.all false
set_option maxRecDepth 100000
set_option maxHeartbeats 4000000
namespace Ta
open PySem PySem.Spec PyProof.Rows L2
theorem ro_value (A : Su172.Abs) (l : List Nat) : (Su172.does A (.value l)).1 = A := by show (if _ then (A, _) else (A, _)).1 = A; split <;> rfl
theorem ro_reply (A : Su172.Abs) (l : List Nat) : (Su172.does A (.reply l)).1 = A := by show (if _ then (A, _) else (A, _)).1 = A; split <;> rfl
theorem ro_replyto (A : Su172.Abs) (l : List Nat) : (Su172.does A (.replyTo l)).1 = A := by show (if _ then (A, _) else (A, _)).1 = A; split <;> rfl
theorem ro_told (A : Su172.Abs) (c : Nat) : (Su172.does A (.told c)).1 = A := by show (if _ then (A, _) else (A, _)).1 = A; split <;> rfl
theorem ro_twice (A : Su172.Abs) : (Su172.does A .twice).1 = A := by show (if _ then (A, _) else (A, _)).1 = A; split <;> rfl
theorem ro_pair (A : Su172.Abs) (x y : Nat) : (Su172.does A (.pair x y)).1 = A := by show (if _ then (A, _) else (A, _)).1 = A; split <;> rfl
section
variable {P : Program} {w : World} {K : PySem.W.Frag} {mg : Str → Option Value} {base : Heap} {C : Addr}
abbrev sOnGame : Stmt := top 36
/-- slots: 0:game 1:call 2:numbers -/
theorem scOnGame : FnScope ["game", "call", "numbers"] ["game", "call", "numbers"] (defScope sOnGame) := ⟨rfl, rfl, rfl, by decide +kernel, rfl, by decide +kernel, by decide +kernel⟩
theorem ok_onGame {f : Addr} {fd : FuncData} (F : Fun K "answer_of_game" "answer_of_game" sOnGame f fd) (T : Cst mg)
    (m_wins : MCal P w K mg base C 1 "wins" ["self", "x", "y", "a", "b", "v"] (spMWins C))
    (m_odd : MCal P w K mg base C 1 "odd" ["self", "x", "y", "s"] (spMOdd C))
    (m_counts : MCal P w K mg base C 1 "counts" ["self", "x", "y", "how_much"] (spMCounts C))
    (m_value : MCal P w K mg base C 2 "value" ["self", "row"] (spMValue K C))
    (m_best : MCal P w K mg base C 3 "best" ["self"] (spMBest C))
    (m_reply : MCal P w K mg base C 3 "reply" ["self", "row"] (spMReply K C))
    (m_replyto : MCal P w K mg base C 4 "replyto" ["self", "row"] (spMReplyTo K C))
    (m_plans : MCal P w K mg base C 4 "plans" ["self", "t"] (spMPlans C))
    (m_nth : MCal P w K mg base C 4 "nth" ["self", "t", "k"] (spMNth C))
    (m_perfect : MCal P w K mg base C 4 "perfect" ["self"] (spMPerfect C))
    (m_core : MCal P w K mg base C 5 "core" ["self"] (spMCore C))
    (m_told : MCal P w K mg base C 5 "told" ["self", "c"] (spMTold C))
    (m_twice : MCal P w K mg base C 4 "twice" ["self"] (spMTwice C))
    (m_pair : MCal P w K mg base C 1 "pair" ["self", "x", "y"] (spMPair C))
    (m_game : MCal P w K mg base C 5 "game" ["self"] (spMGame C))
    : FnOk P w K mg base CX0 8 f fd ["game", "call", "numbers"] (spOnGame K C) := by
  refine F.ok scOnGame (fun vs H Q E h => ?_) (fun cdv A outer s H vs Q E hr h => ?_)
  · obtain ⟨g, r, A, F, p, l, c, rfl, _⟩ := h
    rfl
  · obtain ⟨g, r, A, F, p, l, c, rfl, gat, hl, hask, hp0, hp14, hp, cb, hc, k⟩ := h
    obtain ⟨wd, td, gm, hf⟩ := id gat
    obtain ⟨dx, hi⟩ := gm.ins
    refine ⟨_, (pss_cons (ps_if (pt_cmpR op_eq (pv 1) (pe_gi T.WINS) (nomark _))
        (pss_one (ps_ret (pe_me m_wins (pv 0) (hr.mono (by decide)) (pa_cons (pe_ix ix_list (pv 2) pe_int (fun _ _ => rfl)) (pa_cons (pe_ix ix_list (pv 2) pe_int (fun _ _ => rfl)) (pa_cons (pe_ix ix_list (pv 2) pe_int (fun _ _ => rfl)) (pa_cons (pe_ix ix_list (pv 2) pe_int (fun _ _ => rfl)) (pa_cons (pe_ix ix_list (pv 2) pe_int (fun _ _ => rfl)) pa_nil)))))))) pss_nil)
      (pss_cons (ps_if (pt_cmpR op_eq (pv 1) (pe_gi T.ODD) (nomark _))
        (pss_one (ps_ret (pe_me m_odd (pv 0) (hr.mono (by decide)) (pa_cons (pe_ix ix_list (pv 2) pe_int (fun _ _ => rfl)) (pa_cons (pe_ix ix_list (pv 2) pe_int (fun _ _ => rfl)) (pa_cons (pe_ix ix_list (pv 2) pe_int (fun _ _ => rfl)) pa_nil)))))) pss_nil)
      (pss_cons (ps_if (pt_cmpR op_eq (pv 1) (pe_gi T.COUNTS) (nomark _))
        (pss_one (ps_ret (pe_me m_counts (pv 0) (hr.mono (by decide)) (pa_cons (pe_ix ix_list (pv 2) pe_int (fun _ _ => rfl)) (pa_cons (pe_ix ix_list (pv 2) pe_int (fun _ _ => rfl)) (pa_cons (pe_ix ix_list (pv 2) pe_int (fun _ _ => rfl)) pa_nil)))))) pss_nil)
      (pss_cons (ps_if (pt_cmpR op_eq (pv 1) (pe_gi T.VALUE) (nomark _))
        (pss_one (ps_ret (pe_me m_value (pv 0) (hr.mono (by decide)) (pa_cons (pv 2) pa_nil)))) pss_nil)
      (pss_cons (ps_if (pt_cmpR op_eq (pv 1) (pe_gi T.BEST) (nomark _))
        (pss_one (ps_ret (pe_me0 m_best (pv 0) (hr.mono (by decide))))) pss_nil)
      (pss_cons (ps_if (pt_cmpR op_eq (pv 1) (pe_gi T.REPLY) (nomark _))
        (pss_one (ps_ret (pe_me m_reply (pv 0) (hr.mono (by decide)) (pa_cons (pv 2) pa_nil)))) pss_nil)
      (pss_cons (ps_if (pt_cmpR op_eq (pv 1) (pe_gi T.REPLYTO) (nomark _))
        (pss_one (ps_ret (pe_me m_replyto (pv 0) (hr.mono (by decide)) (pa_cons (pv 2) pa_nil)))) pss_nil)
      (pss_cons (ps_if (pt_cmpR op_eq (pv 1) (pe_gi T.PLANS) (nomark _))
        (pss_one (ps_ret (pe_me m_plans (pv 0) (hr.mono (by decide)) (pa_cons (pe_ix ix_list (pv 2) pe_int (fun _ _ => rfl)) pa_nil)))) pss_nil)
      (pss_cons (ps_if (pt_cmpR op_eq (pv 1) (pe_gi T.NTH) (nomark _))
        (pss_one (ps_ret (pe_me m_nth (pv 0) (hr.mono (by decide)) (pa_cons (pe_ix ix_list (pv 2) pe_int (fun _ _ => rfl)) (pa_cons (pe_ix ix_list (pv 2) pe_int (fun _ _ => rfl)) pa_nil))))) pss_nil)
      (pss_cons (ps_if (pt_cmpR op_eq (pv 1) (pe_gi T.PERFECT) (nomark _))
        (pss_one (ps_ret (pe_me0 m_perfect (pv 0) (hr.mono (by decide))))) pss_nil)
      (pss_cons (ps_if (pt_cmpR op_eq (pv 1) (pe_gi T.CORE) (nomark _))
        (pss_one (ps_ret (pe_me0 m_core (pv 0) (hr.mono (by decide))))) pss_nil)
      (pss_cons (ps_if (pt_cmpR op_eq (pv 1) (pe_gi T.TOLD) (nomark _))
        (pss_one (ps_ret (pe_me m_told (pv 0) (hr.mono (by decide)) (pa_cons (pe_ix ix_list (pv 2) pe_int (fun _ _ => rfl)) pa_nil)))) pss_nil)
      (pss_cons (ps_if (pt_cmpR op_eq (pv 1) (pe_gi T.TWICE) (nomark _))
        (pss_one (ps_ret (pe_me0 m_twice (pv 0) (hr.mono (by decide))))) pss_nil)
      (pss_cons (ps_if (pt_cmpR op_eq (pv 1) (pe_gi T.PAIR) (nomark _))
        (pss_one (ps_ret (pe_me m_pair (pv 0) (hr.mono (by decide)) (pa_cons (pe_ix ix_list (pv 2) pe_int (fun _ _ => rfl)) (pa_cons (pe_ix ix_list (pv 2) pe_int (fun _ _ => rfl)) pa_nil))))) pss_nil)
      (pss_one (ps_ret (pe_me0 m_game (pv 0) (hr.mono (by decide))))))))))))))))))), ?_⟩
    refine ⟨_, rfl, rfl, _, rfl, ite2 (fun hb => ?_) fun hb1 => ?_⟩
    · have e0 : p = 1 := by
        have := of_decide_eq_true hb
        injection this
      subst e0
      obtain ⟨x, y, a, b, v, rfl, e⟩ := Tp.form1 hask
      rw [e] at hc
      cases hc
      exact ⟨_, rfl, g, dx, _, rfl, hi, gf_no (by decide +kernel), _, rfl, r, _, _, _, rfl, rfl, hl, at_of (j := 0) rfl rfl, _, rfl, r, _, _, _, rfl, rfl, hl, at_of (j := 1) rfl rfl, _, rfl, r, _, _, _, rfl, rfl, hl, at_of (j := 2) rfl rfl, _, rfl, r, _, _, _, rfl, rfl, hl, at_of (j := 3) rfl rfl, _, rfl, r, _, _, _, rfl, rfl, hl, at_of (j := 4) rfl rfl, g, A, F, x, y, a, b, v, rfl, gat, k⟩
    refine ⟨_, rfl, rfl, _, rfl, ite2 (fun hb => ?_) fun hb2 => ?_⟩
    · have e0 : p = 2 := by
        have := of_decide_eq_true hb
        injection this
      subst e0
      obtain ⟨x, y, v, rfl, e⟩ := Tp.form2 hask
      rw [e] at hc
      cases hc
      exact ⟨_, rfl, g, dx, _, rfl, hi, gf_no (by decide +kernel), _, rfl, r, _, _, _, rfl, rfl, hl, at_of (j := 0) rfl rfl, _, rfl, r, _, _, _, rfl, rfl, hl, at_of (j := 1) rfl rfl, _, rfl, r, _, _, _, rfl, rfl, hl, at_of (j := 2) rfl rfl, g, A, F, x, y, v, rfl, gat, k⟩
    refine ⟨_, rfl, rfl, _, rfl, ite2 (fun hb => ?_) fun hb3 => ?_⟩
    · have e0 : p = 3 := by
        have := of_decide_eq_true hb
        injection this
      subst e0
      obtain ⟨x, y, v, rfl, e⟩ := Tp.form3 hask
      rw [e] at hc
      cases hc
      exact ⟨_, rfl, g, dx, _, rfl, hi, gf_no (by decide +kernel), _, rfl, r, _, _, _, rfl, rfl, hl, at_of (j := 0) rfl rfl, _, rfl, r, _, _, _, rfl, rfl, hl, at_of (j := 1) rfl rfl, _, rfl, r, _, _, _, rfl, rfl, hl, at_of (j := 2) rfl rfl, g, A, F, x, y, v, rfl, gat, k⟩
    refine ⟨_, rfl, rfl, _, rfl, ite2 (fun hb => ?_) fun hb4 => ?_⟩
    · have e0 : p = 4 := by
        have := of_decide_eq_true hb
        injection this
      subst e0
      rw [Tp.form4] at hc
      cases hc
      have hle := Tp.len4 (by decide) hask
      exact ⟨_, rfl, g, dx, _, rfl, hi, gf_no (by decide +kernel), _, rfl, g, r, A, F, l, rfl, gat, hl, by rw [sizeLine_eq]; omega, k.ro (ro_value A _) gat⟩
    refine ⟨_, rfl, rfl, _, rfl, ite2 (fun hb => ?_) fun hb5 => ?_⟩
    · have e0 : p = 5 := by
        have := of_decide_eq_true hb
        injection this
      subst e0
      obtain ⟨rfl, e⟩ := Tp.form5 hask
      rw [e] at hc
      cases hc
      exact ⟨_, rfl, g, dx, _, rfl, hi, gf_no (by decide +kernel), g, A, F, rfl, gat, k.ro (rfl) gat⟩
    refine ⟨_, rfl, rfl, _, rfl, ite2 (fun hb => ?_) fun hb6 => ?_⟩
    · have e0 : p = 6 := by
        have := of_decide_eq_true hb
        injection this
      subst e0
      rw [Tp.form6] at hc
      cases hc
      have hle := Tp.len4 (by decide) hask
      exact ⟨_, rfl, g, dx, _, rfl, hi, gf_no (by decide +kernel), _, rfl, g, r, A, F, l, rfl, gat, hl, by rw [sizeLine_eq]; omega, k.ro (ro_reply A _) gat⟩
    refine ⟨_, rfl, rfl, _, rfl, ite2 (fun hb => ?_) fun hb7 => ?_⟩
    · have e0 : p = 7 := by
        have := of_decide_eq_true hb
        injection this
      subst e0
      rw [Tp.form7] at hc
      cases hc
      have hle := Tp.len4 (by decide) hask
      exact ⟨_, rfl, g, dx, _, rfl, hi, gf_no (by decide +kernel), _, rfl, g, r, A, F, l, rfl, gat, hl, by rw [sizeLine_eq]; omega, k.ro (ro_replyto A _) gat⟩
    refine ⟨_, rfl, rfl, _, rfl, ite2 (fun hb => ?_) fun hb8 => ?_⟩
    · have e0 : p = 8 := by
        have := of_decide_eq_true hb
        injection this
      subst e0
      obtain ⟨t, rfl, e⟩ := Tp.form8 hask
      rw [e] at hc
      cases hc
      exact ⟨_, rfl, g, dx, _, rfl, hi, gf_no (by decide +kernel), _, rfl, r, _, _, _, rfl, rfl, hl, at_of (j := 0) rfl rfl, g, A, F, t, rfl, gat, k.ro (rfl) gat⟩
    refine ⟨_, rfl, rfl, _, rfl, ite2 (fun hb => ?_) fun hb9 => ?_⟩
    · have e0 : p = 9 := by
        have := of_decide_eq_true hb
        injection this
      subst e0
      obtain ⟨t, k1, rfl, e⟩ := Tp.form9 hask
      rw [e] at hc
      cases hc
      exact ⟨_, rfl, g, dx, _, rfl, hi, gf_no (by decide +kernel), _, rfl, r, _, _, _, rfl, rfl, hl, at_of (j := 0) rfl rfl, _, rfl, r, _, _, _, rfl, rfl, hl, at_of (j := 1) rfl rfl, g, A, F, t, k1, rfl, gat, k.ro (ro_nth A _ _) gat⟩
    refine ⟨_, rfl, rfl, _, rfl, ite2 (fun hb => ?_) fun hb10 => ?_⟩
    · have e0 : p = 10 := by
        have := of_decide_eq_true hb
        injection this
      subst e0
      obtain ⟨rfl, e⟩ := Tp.form10 hask
      rw [e] at hc
      cases hc
      exact ⟨_, rfl, g, dx, _, rfl, hi, gf_no (by decide +kernel), g, A, F, rfl, gat, k.ro (rfl) gat⟩
    refine ⟨_, rfl, rfl, _, rfl, ite2 (fun hb => ?_) fun hb11 => ?_⟩
    · have e0 : p = 11 := by
        have := of_decide_eq_true hb
        injection this
      subst e0
      obtain ⟨rfl, e⟩ := Tp.form11 hask
      rw [e] at hc
      cases hc
      exact ⟨_, rfl, g, dx, _, rfl, hi, gf_no (by decide +kernel), g, A, F, rfl, gat, k.ro (ro_core A) gat⟩
    refine ⟨_, rfl, rfl, _, rfl, ite2 (fun hb => ?_) fun hb12 => ?_⟩
    · have e0 : p = 12 := by
        have := of_decide_eq_true hb
        injection this
      subst e0
      obtain ⟨c1, rfl, e⟩ := Tp.form12 hask
      rw [e] at hc
      cases hc
      exact ⟨_, rfl, g, dx, _, rfl, hi, gf_no (by decide +kernel), _, rfl, r, _, _, _, rfl, rfl, hl, at_of (j := 0) rfl rfl, g, A, F, c1, rfl, gat, k.ro (ro_told A _) gat⟩
    refine ⟨_, rfl, rfl, _, rfl, ite2 (fun hb => ?_) fun hb13 => ?_⟩
    · have e0 : p = 13 := by
        have := of_decide_eq_true hb
        injection this
      subst e0
      obtain ⟨rfl, e⟩ := Tp.form13 hask
      rw [e] at hc
      cases hc
      exact ⟨_, rfl, g, dx, _, rfl, hi, gf_no (by decide +kernel), g, A, F, rfl, gat, (fun x y => Nat.le_trans (cb x y) (by decide)), k.ro (ro_twice A) gat⟩
    refine ⟨_, rfl, rfl, _, rfl, ite2 (fun hb => ?_) fun hb15 => ?_⟩
    · have e0 : p = 15 := by
        have := of_decide_eq_true hb
        injection this
      subst e0
      obtain ⟨x, y, rfl, e⟩ := Tp.form15 hask
      rw [e] at hc
      cases hc
      exact ⟨_, rfl, g, dx, _, rfl, hi, gf_no (by decide +kernel), _, rfl, r, _, _, _, rfl, rfl, hl, at_of (j := 0) rfl rfl, _, rfl, r, _, _, _, rfl, rfl, hl, at_of (j := 1) rfl rfl, g, A, F, x, y, rfl, gat, k.ro (ro_pair A _ _) gat⟩
    have e16 : p = 16 := by
      have n : ∀ z : Int, ¬ decide (V.int p = V.int z) = true → p ≠ z := fun z h e => h (decide_eq_true (by rw [e]))
      have q1 := n 1 hb1
      have q2 := n 2 hb2
      have q3 := n 3 hb3
      have q4 := n 4 hb4
      have q5 := n 5 hb5
      have q6 := n 6 hb6
      have q7 := n 7 hb7
      have q8 := n 8 hb8
      have q9 := n 9 hb9
      have q10 := n 10 hb10
      have q11 := n 11 hb11
      have q12 := n 12 hb12
      have q13 := n 13 hb13
      have q15 := n 15 hb15
      omega
    subst e16
    obtain ⟨rfl, e⟩ := Tp.form16 hask
    rw [e] at hc
    cases hc
    exact ⟨_, rfl, g, dx, _, rfl, hi, gf_no (by decide +kernel), g, A, F, rfl, gat, k.ro rfl gat⟩
end
end Ta

set_option Elab.async false
set_option linter.all false
set_option maxRecDepth 100000
set_option maxHeartbeats 4000000
namespace Ta
open PySem PySem.Spec PyProof.Rows L2
theorem all_mk {P : Program} {w : World} {K : PySem.W.Frag} {h : Heap} {mg : Str → Option Value} {fa C CL rT nT : Addr} (X : K.In h) (G : h.Ns mainGlobals mg) (hfa : mg "answers" = some (.ref fa))
    (B : Blt mg) (T : Cst mg) (U : Tup K mg rT nT) (mC : mg "Game" = some (.ref C)) (GC : GCls K C) (mCL : mg "Line" = some (.ref CL)) (LC : LCls K CL)
    (g_is_row : FG K mg "is_row" sIsRow ["row", "questions", "choices"])
    (g_rows_in_order : FG K mg "rows_in_order" sRows ["questions", "choices"])
    (g_what_rows_win : FG K mg "what_rows_win" sWins ["gains"])
    (g_best_reply : FG K mg "best_reply" sReply ["gains"])
    (g_sums_never_won : FG K mg "sums_never_won" sNever ["won", "marks"])
    (g_is_game : FG K mg "is_game" sIsGame ["x", "y", "a", "b"])
    (g_start_of_numbers : FG K mg "start_of_numbers" sStart ["calls", "at"])
    (g_how_many_numbers : FG K mg "how_many_numbers" sMany ["calls", "at"])
    (g_answer_of_game : FG K mg "answer_of_game" sOnGame ["game", "call", "numbers"])
    (i_Game : FI K C "Game.__init__" sInit ["self", "first_asked", "second_asked", "first_choices", "second_choices"]) (i_Line : FI K CL "Line.__init__" sLInit ["self"])
    (f_exchanged : FM K C "exchanged" "Game.exchanged" sExch ["self"])
    (f_narrowed : FM K C "narrowed" "Game.narrowed" sNarrow ["self", "kept"])
    (f_weighed : FM K C "weighed" "Game.weighed" sWeigh ["self", "weights"])
    (f_doubled : FM K C "doubled" "Game.doubled" sDouble ["self"])
    (f_total_weight : FM K C "total_weight" "Game.total_weight" sTotal ["self"])
    (f_first_rows : FM K C "first_rows" "Game.first_rows" sFirsts ["self"])
    (f_second_rows : FM K C "second_rows" "Game.second_rows" sSeconds ["self"])
    (f_gain : FM K C "gain" "Game.gain" sGain ["self", "first_row", "y"])
    (f_gains : FM K C "gains" "Game.gains" sGains ["self", "first_row"])
    (f_what_plans_win : FM K C "what_plans_win" "Game.what_plans_win" sPlansWin ["self"])
    (f_wins : FM K C "wins" "Game.wins" sMWins ["self", "x", "y", "a", "b", "v"])
    (f_odd : FM K C "odd" "Game.odd" sMOdd ["self", "x", "y", "s"])
    (f_counts : FM K C "counts" "Game.counts" sMCounts ["self", "x", "y", "how_much"])
    (f_value : FM K C "value" "Game.value" sMValue ["self", "row"])
    (f_best : FM K C "best" "Game.best" sMBest ["self"])
    (f_reply : FM K C "reply" "Game.reply" sMReply ["self", "row"])
    (f_replyto : FM K C "replyto" "Game.replyto" sMReplyTo ["self", "row"])
    (f_plans : FM K C "plans" "Game.plans" sMPlans ["self", "t"])
    (f_nth : FM K C "nth" "Game.nth" sMNth ["self", "t", "k"])
    (f_perfect : FM K C "perfect" "Game.perfect" sMPerfect ["self"])
    (f_marks : FM K C "marks" "Game.marks" sMarks ["self"])
    (f_core : FM K C "core" "Game.core" sMCore ["self"])
    (f_heard : FM K C "heard" "Game.heard" sHeard ["self"])
    (f_told : FM K C "told" "Game.told" sMTold ["self", "c"])
    (f_twice : FM K C "twice" "Game.twice" sMTwice ["self"])
    (f_pair : FM K C "pair" "Game.pair" sMPair ["self", "x", "y"])
    (f_game : FM K C "game" "Game.game" sMGame ["self"])
    (f_begin : FM K CL "begin" "Line.begin" sLBegin ["self", "x", "y", "a", "b"])
    (f_swap : FM K CL "swap" "Line.swap" sLSwap ["self"])
    (f_answer : FM K CL "answer" "Line.answer" sLAnswer ["self", "call", "numbers"])
    (g_answers : FG K mg "answers" sAnswers ["calls"]) :
    ∃ fd : FuncData, (∀ (s : Shared) (us : List Value), us.length = (["calls"] : List Str).length → BindsTo s fd ⟨us, []⟩ ((["calls"] : List Str).zip us)) ∧ ∀ base : Heap, K.In base → base.Ns mainGlobals mg → FnOk P w K mg base CX0 10 fa fd ["calls"] (spAnswers K) := by
  obtain ⟨f, fd, e, Fa, Ba⟩ := g_answers
  have e2 := hfa.symm.trans e
  cases e2
  refine ⟨fd, fun s us hu => ?_, fun base kb nb => ?_⟩
  · obtain ⟨oc, od, kV, doc, pm, an, cdv, ct, osl, rfl, _, _⟩ := Fa.ex
    exact match us, hu with | [_], _ => .of_eq rfl
  have c_is_row : Cal P w K mg base 1 "is_row" ["row", "questions", "choices"] (spIsRow K) := g_is_row.cal fun f fd F => ok_isRow F B
  have c_rows_in_order : Cal P w K mg base 1 "rows_in_order" ["questions", "choices"] (spRows) := g_rows_in_order.cal fun f fd F => ok_rows F B
  have c_what_rows_win : Cal P w K mg base 1 "what_rows_win" ["gains"] (spWins) := g_what_rows_win.cal fun f fd F => ok_wins F
  have c_best_reply : Cal P w K mg base 1 "best_reply" ["gains"] (spReply) := g_best_reply.cal fun f fd F => ok_reply F B
  have c_sums_never_won : Cal P w K mg base 1 "sums_never_won" ["won", "marks"] (spNever K) := g_sums_never_won.cal fun f fd F => ok_never F B
  have c_is_game : Cal P w K mg base 1 "is_game" ["x", "y", "a", "b"] (spIsGame) := g_is_game.cal fun f fd F => ok_isGame F T
  have c_start_of_numbers : Cal P w K mg base 1 "start_of_numbers" ["calls", "at"] (spStart K) := g_start_of_numbers.cal fun f fd F => ok_start F U
  have c_how_many_numbers : Cal P w K mg base 1 "how_many_numbers" ["calls", "at"] (spMany K) := g_how_many_numbers.cal fun f fd F => ok_many F U
  have n_Game : NCal P w K mg base C 1 "Game" ["self", "first_asked", "second_asked", "first_choices", "second_choices"] (spInit C) := i_Game.cal mC fun f fd F => ok_init F B GC
  have n_Line : NCal P w K mg base CL 1 "Line" ["self"] (spLInit C CL) := i_Line.cal mCL fun f fd F => ok_linit F LC
  have m_exchanged : MCal P w K mg base C 3 "exchanged" ["self"] (spExch C) := f_exchanged.cal GC.cl fun f fd F => ok_exch F B GC n_Game
  have m_narrowed : MCal P w K mg base C 3 "narrowed" ["self", "kept"] (spNarrow K C) := f_narrowed.cal GC.cl fun f fd F => ok_narrow F B GC n_Game
  have m_weighed : MCal P w K mg base C 4 "weighed" ["self", "weights"] (spWeigh C) := f_weighed.cal GC.cl fun f fd F => ok_weigh F B GC m_narrowed
  have m_doubled : MCal P w K mg base C 3 "doubled" ["self"] (spDouble C) := f_doubled.cal GC.cl fun f fd F => ok_double F B GC n_Game
  have m_total_weight : MCal P w K mg base C 1 "total_weight" ["self"] (spTotal C) := f_total_weight.cal GC.cl fun f fd F => ok_total F B GC
  have m_first_rows : MCal P w K mg base C 2 "first_rows" ["self"] (spFirsts C) := f_first_rows.cal GC.cl fun f fd F => ok_firsts F GC c_rows_in_order
  have m_second_rows : MCal P w K mg base C 2 "second_rows" ["self"] (spSeconds C) := f_second_rows.cal GC.cl fun f fd F => ok_seconds F GC c_rows_in_order
  have m_gain : MCal P w K mg base C 1 "gain" ["self", "first_row", "y"] (spGain K C) := f_gain.cal GC.cl fun f fd F => ok_gain F B GC
  have m_gains : MCal P w K mg base C 2 "gains" ["self", "first_row"] (spGains K C) := f_gains.cal GC.cl fun f fd F => ok_gains F B GC m_gain
  have m_what_plans_win : MCal P w K mg base C 3 "what_plans_win" ["self"] (spPlansWin C) := f_what_plans_win.cal GC.cl fun f fd F => ok_plansWin F GC m_first_rows c_what_rows_win m_gains
  have m_wins : MCal P w K mg base C 1 "wins" ["self", "x", "y", "a", "b", "v"] (spMWins C) := f_wins.cal GC.cl fun f fd F => ok_mwins F GC T
  have m_odd : MCal P w K mg base C 1 "odd" ["self", "x", "y", "s"] (spMOdd C) := f_odd.cal GC.cl fun f fd F => ok_modd F B GC T
  have m_counts : MCal P w K mg base C 1 "counts" ["self", "x", "y", "how_much"] (spMCounts C) := f_counts.cal GC.cl fun f fd F => ok_mcounts F GC T
  have m_value : MCal P w K mg base C 2 "value" ["self", "row"] (spMValue K C) := f_value.cal GC.cl fun f fd F => ok_mvalue F B GC T c_is_row m_gain m_total_weight
  have m_best : MCal P w K mg base C 3 "best" ["self"] (spMBest C) := f_best.cal GC.cl fun f fd F => ok_mbest F GC m_first_rows c_best_reply m_gains m_total_weight
  have m_reply : MCal P w K mg base C 3 "reply" ["self", "row"] (spMReply K C) := f_reply.cal GC.cl fun f fd F => ok_mreply F GC T c_is_row m_gains c_best_reply
  have m_replyto : MCal P w K mg base C 4 "replyto" ["self", "row"] (spMReplyTo K C) := f_replyto.cal GC.cl fun f fd F => ok_mreplyto F GC m_exchanged m_reply
  have m_plans : MCal P w K mg base C 4 "plans" ["self", "t"] (spMPlans C) := f_plans.cal GC.cl fun f fd F => ok_mplans F B GC m_what_plans_win
  have m_nth : MCal P w K mg base C 4 "nth" ["self", "t", "k"] (spMNth C) := f_nth.cal GC.cl fun f fd F => ok_mnth F B GC T m_what_plans_win m_first_rows m_second_rows
  have m_perfect : MCal P w K mg base C 4 "perfect" ["self"] (spMPerfect C) := f_perfect.cal GC.cl fun f fd F => ok_mperfect F GC m_best m_total_weight
  have m_marks : MCal P w K mg base C 1 "marks" ["self"] (spMarks C) := f_marks.cal GC.cl fun f fd F => ok_marks F B GC
  have m_core : MCal P w K mg base C 5 "core" ["self"] (spMCore C) := f_core.cal GC.cl fun f fd F => ok_mcore F B GC T m_marks m_weighed m_what_plans_win c_sums_never_won
  have m_heard : MCal P w K mg base C 4 "heard" ["self"] (spHeard C) := f_heard.cal GC.cl fun f fd F => ok_heard F B GC m_narrowed m_best
  have m_told : MCal P w K mg base C 5 "told" ["self", "c"] (spMTold C) := f_told.cal GC.cl fun f fd F => ok_mtold F B GC T c_rows_in_order m_narrowed m_best m_heard
  have m_twice : MCal P w K mg base C 4 "twice" ["self"] (spMTwice C) := f_twice.cal GC.cl fun f fd F => ok_mtwice F B GC T m_doubled m_best
  have m_pair : MCal P w K mg base C 1 "pair" ["self", "x", "y"] (spMPair C) := f_pair.cal GC.cl fun f fd F => ok_mpair F GC T
  have m_game : MCal P w K mg base C 5 "game" ["self"] (spMGame C) := f_game.cal GC.cl fun f fd F => ok_mgame F GC m_heard m_total_weight
  have c_answer_of_game : Cal P w K mg base 8 "answer_of_game" ["game", "call", "numbers"] (spOnGame K C) := g_answer_of_game.cal fun f fd F => ok_onGame F T m_wins m_odd m_counts m_value m_best m_reply m_replyto m_plans m_nth m_perfect m_core m_told m_twice m_pair m_game
  have m_begin : MCal P w K mg base CL 4 "begin" ["self", "x", "y", "a", "b"] (spLBegin C CL) := f_begin.cal LC.cl fun f fd F => ok_lbegin F T LC c_is_game n_Game
  have m_swap : MCal P w K mg base CL 4 "swap" ["self"] (spLSwap C CL) := f_swap.cal LC.cl fun f fd F => ok_lswap F LC m_exchanged
  have m_answer : MCal P w K mg base CL 9 "answer" ["self", "call", "numbers"] (spLAnswer K C CL) := f_answer.cal LC.cl fun f fd F => ok_lanswer F T LC m_begin m_swap c_answer_of_game
  exact ok_answers Fa B n_Line c_start_of_numbers c_how_many_numbers m_answer
end Ta
theorem PySem.W.Fast.tw5381243769247449240 : True := trivial
theorem PySem.W.Fast.tw1366846661469762733 : True := trivial
theorem PySem.W.Fast.tw220383562016346490 : True := trivial
theorem PySem.W.Fast.tw3649801517575715568 : True := trivial
theorem PySem.W.Fast.tw5874119848298421539 : True := trivial
theorem PySem.W.Fast.tw7585261933474171521 : True := trivial
theorem PySem.W.Fast.tw16540330611259313357 : True := trivial
theorem PySem.W.Fast.tw576416309818407995 : True := trivial
theorem PySem.W.Fast.tw12717000195347796798 : True := trivial
theorem PySem.W.Fast.tw11888676096415061 : True := trivial
theorem PySem.W.Fast.tw18102434443758749323 : True := trivial
theorem PySem.W.Fast.tw11474952619487589018 : True := trivial
theorem PySem.W.Fast.tw7218738012100698364 : True := trivial
theorem PySem.W.Fast.tw15648983944611376094 : True := trivial
theorem PySem.W.Fast.tw17515509286371811617 : True := trivial
theorem PySem.W.Fast.tw8538935368033819779 : True := trivial
theorem PySem.W.Fast.tw6116296485149851546 : True := trivial
theorem PySem.W.Fast.tw4764696465729461190 : True := trivial
theorem PySem.W.Fast.tw7595928001338797004 : True := trivial
theorem PySem.W.Fast.tw17347407530543324613 : True := trivial
theorem PySem.W.Fast.tw12881350908529759881 : True := trivial
theorem PySem.W.Fast.tw2787833942663371584 : True := trivial
theorem PySem.W.Fast.tw16942504976533458495 : True := trivial
theorem PySem.W.Fast.tw13715514917509157463 : True := trivial
theorem PySem.W.Fast.tw3861621976962097778 : True := trivial
theorem PySem.W.Fast.tw18304174295647021932 : True := trivial
theorem PySem.W.Fast.tw2650820101457920767 : True := trivial
theorem PySem.W.Fast.tw17375644983352697595 : True := trivial
theorem PySem.W.Fast.tw7195945867260951339 : True := trivial
theorem PySem.W.Fast.tw2301569556250755768 : True := trivial
theorem PySem.W.Fast.tw14811912842129695697 : True := trivial
theorem PySem.W.Fast.tw10459930981974281158 : True := trivial
theorem PySem.W.Fast.tw10758566213645207775 : True := trivial
theorem PySem.W.Fast.tw14376357737122266488 : True := trivial
theorem PySem.W.Fast.tw5405395760174238269 : True := trivial
theorem PySem.W.Fast.tw8320595394150356455 : True := trivial
theorem PySem.W.Fast.tw10203447898916892252 : True := trivial
theorem PySem.W.Fast.tw2671920628094542756 : True := trivial
theorem PySem.W.Fast.tw11054977847720537203 : True := trivial
theorem PySem.W.Fast.tw857759732505588084 : True := trivial
theorem PySem.W.Fast.tw9233805510739390298 : True := trivial
theorem PySem.W.Fast.tw8433979160988994035 : True := trivial
theorem PySem.W.Fast.tw17274687144257690735 : True := trivial
theorem PySem.W.Fast.tw17685972829283124891 : True := trivial
theorem PySem.W.Fast.tw7896446058758108181 : True := trivial
theorem PySem.W.Fast.tw15971066317228121417 : True := trivial
theorem PySem.W.Fast.tw11396495335038351604 : True := trivial
theorem PySem.W.Fast.tw17000424134749472758 : True := trivial
theorem PySem.W.Fast.tw17108524830284264583 : True := trivial
theorem PySem.W.Fast.tw14209115197283409268 : True := trivial
theorem PySem.W.Fast.tw7266523588129459526 : True := trivial
theorem PySem.W.Fast.tw2324958670480932444 : True := trivial
theorem PySem.W.Fast.tw5052728046255427642 : True := trivial
theorem PySem.W.Fast.tw15115950175853245508 : True := trivial
theorem PySem.W.Fast.tw10001875486012165267 : True := trivial
theorem PySem.W.Fast.tw3782521664843186210 : True := trivial
theorem PySem.W.Fast.tw4067716553731271222 : True := trivial
theorem PySem.W.Fast.tw16821562075124837518 : True := trivial
theorem PySem.W.Fast.tw5165570811383418349 : True := trivial
theorem PySem.W.Fast.tw17884952151026723732 : True := trivial
open PySem PySem.W PyProof.Rows
set_option maxRecDepth 100000 in
set_option maxHeartbeats 0 in
theorem PySem.Challenge.cw_twoaskedapart_s01_answers_holds : PySem.Challenge.rw_twoaskedapart_s01_answers.Holds := by
  w_on; k_headS; (case hw => exact ⟨[.list [.int 5]], by decide +kernel, by decide +kernel⟩)
  k_fillS
  refine L2.walk_specK (r := PySem.Challenge.rw_twoaskedapart_s01_answers) (k := 10) (CX := L2.CX0) (ps := ["calls"]) (sp := Ta.spAnswers) (by decide +kernel) rfl rfl ⟨rfl, by decide, by decide⟩ (fun w h Y => PySem.W.kIn_of Y) ?F ?S (fun _ _ _ _ z => z)
  case F =>
    intro w mg fa h Y KX GX hmg
    refine' Ta.all_mk KX GX hmg ⟨PySem.W.mg_none_of KX GX ?b_range, PySem.W.mg_none_of KX GX ?b_len, PySem.W.mg_none_of KX GX ?b_all, PySem.W.mg_none_of KX GX ?b_sum, PySem.W.mg_none_of KX GX ?b_max, PySem.W.mg_none_of KX GX ?b_min, PySem.W.mg_none_of KX GX ?b_any, PySem.W.mg_none_of KX GX ?b_list, PySem.W.mg_none_of KX GX ?b_tuple, PySem.W.mg_none_of KX GX ?b_reversed, PySem.W.mg_none_of KX GX ?b_enumerate⟩
      ⟨Ta.ci_mk KX GX ?k_NO_SUCH, Ta.ci_mk KX GX ?k_NOT_BEGUN, Ta.ci_mk KX GX ?k_NOT_AS_TOLD, Ta.ci_mk KX GX ?k_TOO_MANY, Ta.ci_mk KX GX ?k_THERE_IS_NONE, Ta.ci_mk KX GX ?k_MOST_QUESTIONS, Ta.ci_mk KX GX ?k_MOST_CHOICES, Ta.ci_mk KX GX ?k_MOST_WEIGHT, Ta.ci_mk KX GX ?k_MOST_WORDS, Ta.ci_mk KX GX ?k_MOST_FOR_TWICE, Ta.ci_mk KX GX ?k_BEGIN, Ta.ci_mk KX GX ?k_WINS, Ta.ci_mk KX GX ?k_ODD, Ta.ci_mk KX GX ?k_COUNTS, Ta.ci_mk KX GX ?k_VALUE, Ta.ci_mk KX GX ?k_BEST, Ta.ci_mk KX GX ?k_REPLY, Ta.ci_mk KX GX ?k_REPLYTO, Ta.ci_mk KX GX ?k_PLANS, Ta.ci_mk KX GX ?k_NTH, Ta.ci_mk KX GX ?k_PERFECT, Ta.ci_mk KX GX ?k_CORE, Ta.ci_mk KX GX ?k_TOLD, Ta.ci_mk KX GX ?k_TWICE, Ta.ci_mk KX GX ?k_SWAP, Ta.ci_mk KX GX ?k_PAIR⟩
      ⟨PySem.W.mg_of KX GX ?t1, PySem.W.mg_of KX GX ?t2, Ta.tup_mk ?t3 ?z1 ?v1, Ta.tup_mk ?t4 ?z2 ?v2⟩
      (PySem.W.mg_of KX GX ?C_a) ⟨⟨?C_pg, ?C_hd, ?C_po, ?C_sa⟩, ?C_first_asked, ?C_second_asked, ?C_first_choices, ?C_second_choices, ?C_weights, ?C_winning⟩
      (PySem.W.mg_of KX GX ?L_a) ⟨⟨?L_pg, ?L_hd, ?L_po, ?L_sa⟩, ?L_begun⟩
      (Ta.fg_mk KX GX (fun _ _ _ _ _ _ us hl => match us, hl with | [_, _, _], _ => rfl) ?ga_is_row ?gl_is_row ?gc_is_row ?gk_is_row)
      (Ta.fg_mk KX GX (fun _ _ _ _ _ _ us hl => match us, hl with | [_, _], _ => rfl) ?ga_rows_in_order ?gl_rows_in_order ?gc_rows_in_order ?gk_rows_in_order)
      (Ta.fg_mk KX GX (fun _ _ _ _ _ _ us hl => match us, hl with | [_], _ => rfl) ?ga_what_rows_win ?gl_what_rows_win ?gc_what_rows_win ?gk_what_rows_win)
      (Ta.fg_mk KX GX (fun _ _ _ _ _ _ us hl => match us, hl with | [_], _ => rfl) ?ga_best_reply ?gl_best_reply ?gc_best_reply ?gk_best_reply)
      (Ta.fg_mk KX GX (fun _ _ _ _ _ _ us hl => match us, hl with | [_, _], _ => rfl) ?ga_sums_never_won ?gl_sums_never_won ?gc_sums_never_won ?gk_sums_never_won)
      (Ta.fg_mk KX GX (fun _ _ _ _ _ _ us hl => match us, hl with | [_, _, _, _], _ => rfl) ?ga_is_game ?gl_is_game ?gc_is_game ?gk_is_game)
      (Ta.fg_mk KX GX (fun _ _ _ _ _ _ us hl => match us, hl with | [_, _], _ => rfl) ?ga_start_of_numbers ?gl_start_of_numbers ?gc_start_of_numbers ?gk_start_of_numbers)
      (Ta.fg_mk KX GX (fun _ _ _ _ _ _ us hl => match us, hl with | [_, _], _ => rfl) ?ga_how_many_numbers ?gl_how_many_numbers ?gc_how_many_numbers ?gk_how_many_numbers)
      (Ta.fg_mk KX GX (fun _ _ _ _ _ _ us hl => match us, hl with | [_, _, _], _ => rfl) ?ga_answer_of_game ?gl_answer_of_game ?gc_answer_of_game ?gk_answer_of_game)
      (Ta.fi_mk (fun _ _ _ _ _ _ us hl => match us, hl with | [_, _, _, _, _], _ => rfl) ?imk_C ?ia_C ?ii_C ?ikc_C ?il_C ?ic_C ?ik_C)
      (Ta.fi_mk (fun _ _ _ _ _ _ us hl => match us, hl with | [_], _ => rfl) ?imk_L ?ia_L ?ii_L ?ikc_L ?il_L ?ic_L ?ik_L)
      (Ta.fm_mk (fun _ _ _ _ _ _ us hl => match us, hl with | [_], _ => rfl) ?ma_exchanged ?mi_exchanged ?ml_exchanged ?mc_exchanged ?mk_exchanged)
      (Ta.fm_mk (fun _ _ _ _ _ _ us hl => match us, hl with | [_, _], _ => rfl) ?ma_narrowed ?mi_narrowed ?ml_narrowed ?mc_narrowed ?mk_narrowed)
      (Ta.fm_mk (fun _ _ _ _ _ _ us hl => match us, hl with | [_, _], _ => rfl) ?ma_weighed ?mi_weighed ?ml_weighed ?mc_weighed ?mk_weighed)
      (Ta.fm_mk (fun _ _ _ _ _ _ us hl => match us, hl with | [_], _ => rfl) ?ma_doubled ?mi_doubled ?ml_doubled ?mc_doubled ?mk_doubled)
      (Ta.fm_mk (fun _ _ _ _ _ _ us hl => match us, hl with | [_], _ => rfl) ?ma_total_weight ?mi_total_weight ?ml_total_weight ?mc_total_weight ?mk_total_weight)
      (Ta.fm_mk (fun _ _ _ _ _ _ us hl => match us, hl with | [_], _ => rfl) ?ma_first_rows ?mi_first_rows ?ml_first_rows ?mc_first_rows ?mk_first_rows)
      (Ta.fm_mk (fun _ _ _ _ _ _ us hl => match us, hl with | [_], _ => rfl) ?ma_second_rows ?mi_second_rows ?ml_second_rows ?mc_second_rows ?mk_second_rows)
      (Ta.fm_mk (fun _ _ _ _ _ _ us hl => match us, hl with | [_, _, _], _ => rfl) ?ma_gain ?mi_gain ?ml_gain ?mc_gain ?mk_gain)
      (Ta.fm_mk (fun _ _ _ _ _ _ us hl => match us, hl with | [_, _], _ => rfl) ?ma_gains ?mi_gains ?ml_gains ?mc_gains ?mk_gains)
      (Ta.fm_mk (fun _ _ _ _ _ _ us hl => match us, hl with | [_], _ => rfl) ?ma_what_plans_win ?mi_what_plans_win ?ml_what_plans_win ?mc_what_plans_win ?mk_what_plans_win)
      (Ta.fm_mk (fun _ _ _ _ _ _ us hl => match us, hl with | [_, _, _, _, _, _], _ => rfl) ?ma_wins ?mi_wins ?ml_wins ?mc_wins ?mk_wins)
      (Ta.fm_mk (fun _ _ _ _ _ _ us hl => match us, hl with | [_, _, _, _], _ => rfl) ?ma_odd ?mi_odd ?ml_odd ?mc_odd ?mk_odd)
      (Ta.fm_mk (fun _ _ _ _ _ _ us hl => match us, hl with | [_, _, _, _], _ => rfl) ?ma_counts ?mi_counts ?ml_counts ?mc_counts ?mk_counts)
      (Ta.fm_mk (fun _ _ _ _ _ _ us hl => match us, hl with | [_, _], _ => rfl) ?ma_value ?mi_value ?ml_value ?mc_value ?mk_value)
      (Ta.fm_mk (fun _ _ _ _ _ _ us hl => match us, hl with | [_], _ => rfl) ?ma_best ?mi_best ?ml_best ?mc_best ?mk_best)
      (Ta.fm_mk (fun _ _ _ _ _ _ us hl => match us, hl with | [_, _], _ => rfl) ?ma_reply ?mi_reply ?ml_reply ?mc_reply ?mk_reply)
      (Ta.fm_mk (fun _ _ _ _ _ _ us hl => match us, hl with | [_, _], _ => rfl) ?ma_replyto ?mi_replyto ?ml_replyto ?mc_replyto ?mk_replyto)
      (Ta.fm_mk (fun _ _ _ _ _ _ us hl => match us, hl with | [_, _], _ => rfl) ?ma_plans ?mi_plans ?ml_plans ?mc_plans ?mk_plans)
      (Ta.fm_mk (fun _ _ _ _ _ _ us hl => match us, hl with | [_, _, _], _ => rfl) ?ma_nth ?mi_nth ?ml_nth ?mc_nth ?mk_nth)
      (Ta.fm_mk (fun _ _ _ _ _ _ us hl => match us, hl with | [_], _ => rfl) ?ma_perfect ?mi_perfect ?ml_perfect ?mc_perfect ?mk_perfect)
      (Ta.fm_mk (fun _ _ _ _ _ _ us hl => match us, hl with | [_], _ => rfl) ?ma_marks ?mi_marks ?ml_marks ?mc_marks ?mk_marks)
      (Ta.fm_mk (fun _ _ _ _ _ _ us hl => match us, hl with | [_], _ => rfl) ?ma_core ?mi_core ?ml_core ?mc_core ?mk_core)
      (Ta.fm_mk (fun _ _ _ _ _ _ us hl => match us, hl with | [_], _ => rfl) ?ma_heard ?mi_heard ?ml_heard ?mc_heard ?mk_heard)
      (Ta.fm_mk (fun _ _ _ _ _ _ us hl => match us, hl with | [_, _], _ => rfl) ?ma_told ?mi_told ?ml_told ?mc_told ?mk_told)
      (Ta.fm_mk (fun _ _ _ _ _ _ us hl => match us, hl with | [_], _ => rfl) ?ma_twice ?mi_twice ?ml_twice ?mc_twice ?mk_twice)
      (Ta.fm_mk (fun _ _ _ _ _ _ us hl => match us, hl with | [_, _, _], _ => rfl) ?ma_pair ?mi_pair ?ml_pair ?mc_pair ?mk_pair)
      (Ta.fm_mk (fun _ _ _ _ _ _ us hl => match us, hl with | [_], _ => rfl) ?ma_game ?mi_game ?ml_game ?mc_game ?mk_game)
      (Ta.fm_mk (fun _ _ _ _ _ _ us hl => match us, hl with | [_, _, _, _, _], _ => rfl) ?ma_begin ?mi_begin ?ml_begin ?mc_begin ?mk_begin)
      (Ta.fm_mk (fun _ _ _ _ _ _ us hl => match us, hl with | [_], _ => rfl) ?ma_swap ?mi_swap ?ml_swap ?mc_swap ?mk_swap)
      (Ta.fm_mk (fun _ _ _ _ _ _ us hl => match us, hl with | [_, _, _], _ => rfl) ?ma_answer ?mi_answer ?ml_answer ?mc_answer ?mk_answer)
      (Ta.fg_mk KX GX (fun _ _ _ _ _ _ us hl => match us, hl with | [_], _ => rfl) ?ga_ans ?gl_ans ?gc_ans ?gk_ans)
    (case b_range => k_is); (case b_len => k_is); (case b_all => k_is); (case b_sum => k_is); (case b_max => k_is); (case b_min => k_is); (case b_any => k_is); (case b_list => k_is); (case b_tuple => k_is); (case b_reversed => k_is)
    (case b_enumerate => k_is); (case k_NO_SUCH => k_is); (case k_NOT_BEGUN => k_is); (case k_NOT_AS_TOLD => k_is); (case k_TOO_MANY => k_is); (case k_THERE_IS_NONE => k_is); (case k_MOST_QUESTIONS => k_is); (case k_MOST_CHOICES => k_is); (case k_MOST_WEIGHT => k_is); (case k_MOST_WORDS => k_is)
    (case k_MOST_FOR_TWICE => k_is); (case k_BEGIN => k_is); (case k_WINS => k_is); (case k_ODD => k_is); (case k_COUNTS => k_is); (case k_VALUE => k_is); (case k_BEST => k_is); (case k_REPLY => k_is); (case k_REPLYTO => k_is); (case k_PLANS => k_is)
    (case k_NTH => k_is); (case k_PERFECT => k_is); (case k_CORE => k_is); (case k_TOLD => k_is); (case k_TWICE => k_is); (case k_SWAP => k_is); (case k_PAIR => k_is); (case t1 => k_is); (case t2 => k_is); (case t3 => k_is)
    (case t4 => k_is); (case C_a => k_is); (case C_pg => k_is); (case C_hd => k_is); (case C_po => k_is); (case C_sa => k_is); (case C_first_asked => (unfold L2.NoAttr; k_is)); (case C_second_asked => (unfold L2.NoAttr; k_is)); (case C_first_choices => (unfold L2.NoAttr; k_is)); (case C_second_choices => (unfold L2.NoAttr; k_is))
    (case C_weights => (unfold L2.NoAttr; k_is)); (case C_winning => (unfold L2.NoAttr; k_is)); (case L_a => k_is); (case L_pg => k_is); (case L_hd => k_is); (case L_po => k_is); (case L_sa => k_is); (case L_begun => (unfold L2.NoAttr; k_is)); (case ga_is_row => k_is); (case gl_is_row => k_is)
    (case gc_is_row => k_is); (case gk_is_row => k_is); (case ga_rows_in_order => k_is); (case gl_rows_in_order => k_is); (case gc_rows_in_order => k_is); (case gk_rows_in_order => k_is); (case ga_what_rows_win => k_is); (case gl_what_rows_win => k_is); (case gc_what_rows_win => k_is); (case gk_what_rows_win => k_is)
    (case ga_best_reply => k_is); (case gl_best_reply => k_is); (case gc_best_reply => k_is); (case gk_best_reply => k_is); (case ga_sums_never_won => k_is); (case gl_sums_never_won => k_is); (case gc_sums_never_won => k_is); (case gk_sums_never_won => k_is); (case ga_is_game => k_is); (case gl_is_game => k_is)
    (case gc_is_game => k_is); (case gk_is_game => k_is); (case ga_start_of_numbers => k_is); (case gl_start_of_numbers => k_is); (case gc_start_of_numbers => k_is); (case gk_start_of_numbers => k_is); (case ga_how_many_numbers => k_is); (case gl_how_many_numbers => k_is); (case gc_how_many_numbers => k_is); (case gk_how_many_numbers => k_is)
    (case ga_answer_of_game => k_is); (case gl_answer_of_game => k_is); (case gc_answer_of_game => k_is); (case gk_answer_of_game => k_is); (case imk_C => k_is); (case ia_C => k_is); (case ii_C => k_is); (case ikc_C => k_is); (case il_C => k_is); (case ic_C => k_is)
    (case ik_C => k_is); (case imk_L => k_is); (case ia_L => k_is); (case ii_L => k_is); (case ikc_L => k_is); (case il_L => k_is); (case ic_L => k_is); (case ik_L => k_is); (case ma_exchanged => k_is); (case mi_exchanged => k_is)
    (case ml_exchanged => k_is); (case mc_exchanged => k_is); (case mk_exchanged => k_is); (case ma_narrowed => k_is); (case mi_narrowed => k_is); (case ml_narrowed => k_is); (case mc_narrowed => k_is); (case mk_narrowed => k_is); (case ma_weighed => k_is); (case mi_weighed => k_is)
    (case ml_weighed => k_is); (case mc_weighed => k_is); (case mk_weighed => k_is); (case ma_doubled => k_is); (case mi_doubled => k_is); (case ml_doubled => k_is); (case mc_doubled => k_is); (case mk_doubled => k_is); (case ma_total_weight => k_is); (case mi_total_weight => k_is)
    (case ml_total_weight => k_is); (case mc_total_weight => k_is); (case mk_total_weight => k_is); (case ma_first_rows => k_is); (case mi_first_rows => k_is); (case ml_first_rows => k_is); (case mc_first_rows => k_is); (case mk_first_rows => k_is); (case ma_second_rows => k_is); (case mi_second_rows => k_is)
    (case ml_second_rows => k_is); (case mc_second_rows => k_is); (case mk_second_rows => k_is); (case ma_gain => k_is); (case mi_gain => k_is); (case ml_gain => k_is); (case mc_gain => k_is); (case mk_gain => k_is); (case ma_gains => k_is); (case mi_gains => k_is)
    (case ml_gains => k_is); (case mc_gains => k_is); (case mk_gains => k_is); (case ma_what_plans_win => k_is); (case mi_what_plans_win => k_is); (case ml_what_plans_win => k_is); (case mc_what_plans_win => k_is); (case mk_what_plans_win => k_is); (case ma_wins => k_is); (case mi_wins => k_is)
    (case ml_wins => k_is); (case mc_wins => k_is); (case mk_wins => k_is); (case ma_odd => k_is); (case mi_odd => k_is); (case ml_odd => k_is); (case mc_odd => k_is); (case mk_odd => k_is); (case ma_counts => k_is); (case mi_counts => k_is)
    (case ml_counts => k_is); (case mc_counts => k_is); (case mk_counts => k_is); (case ma_value => k_is); (case mi_value => k_is); (case ml_value => k_is); (case mc_value => k_is); (case mk_value => k_is); (case ma_best => k_is); (case mi_best => k_is)
    (case ml_best => k_is); (case mc_best => k_is); (case mk_best => k_is); (case ma_reply => k_is); (case mi_reply => k_is); (case ml_reply => k_is); (case mc_reply => k_is); (case mk_reply => k_is); (case ma_replyto => k_is); (case mi_replyto => k_is)
    (case ml_replyto => k_is); (case mc_replyto => k_is); (case mk_replyto => k_is); (case ma_plans => k_is); (case mi_plans => k_is); (case ml_plans => k_is); (case mc_plans => k_is); (case mk_plans => k_is); (case ma_nth => k_is); (case mi_nth => k_is)
    (case ml_nth => k_is); (case mc_nth => k_is); (case mk_nth => k_is); (case ma_perfect => k_is); (case mi_perfect => k_is); (case ml_perfect => k_is); (case mc_perfect => k_is); (case mk_perfect => k_is); (case ma_marks => k_is); (case mi_marks => k_is)
    (case ml_marks => k_is); (case mc_marks => k_is); (case mk_marks => k_is); (case ma_core => k_is); (case mi_core => k_is); (case ml_core => k_is); (case mc_core => k_is); (case mk_core => k_is); (case ma_heard => k_is); (case mi_heard => k_is)
    (case ml_heard => k_is); (case mc_heard => k_is); (case mk_heard => k_is); (case ma_told => k_is); (case mi_told => k_is); (case ml_told => k_is); (case mc_told => k_is); (case mk_told => k_is); (case ma_twice => k_is); (case mi_twice => k_is)
    (case ml_twice => k_is); (case mc_twice => k_is); (case mk_twice => k_is); (case ma_pair => k_is); (case mi_pair => k_is); (case ml_pair => k_is); (case mc_pair => k_is); (case mk_pair => k_is); (case ma_game => k_is); (case mi_game => k_is)
    (case ml_game => k_is); (case mc_game => k_is); (case mk_game => k_is); (case ma_begin => k_is); (case mi_begin => k_is); (case ml_begin => k_is); (case mc_begin => k_is); (case mk_begin => k_is); (case ma_swap => k_is); (case mi_swap => k_is)
    (case ml_swap => k_is); (case mc_swap => k_is); (case mk_swap => k_is); (case ma_answer => k_is); (case mi_answer => k_is); (case ml_answer => k_is); (case mc_answer => k_is); (case mk_answer => k_is); (case ga_ans => k_is); (case gl_ans => k_is)
    (case gc_ans => k_is); (case gk_ans => k_is)
    (case z1 => decide); (case z2 => decide)
    (case v1 => exact .cons ⟨_, rfl⟩ (.cons ⟨_, rfl⟩ (.cons ⟨_, rfl⟩ .nil)))
    (case v2 => repeat (first | exact .nil | refine .cons ⟨_, rfl⟩ ?_))
  case S =>
    intro K H xs a hO hwi hask hx
    cases hx with
    | cons h1 h2 =>
      cases h2
      cases h1 with
      | lst hs ha =>
        have e := L2.ints_dw a.1 _ ha
        subst e
        have q : ((Codec.inLen 0 4800 a.1 && a.1.all (Codec.inInt 0 4294967295)) && true) = true := hwi
        rw [Bool.and_eq_true, Bool.and_eq_true] at q
        exact ⟨_, a.1, rfl, hs, (Codec.inNat_iff.mp q.1.1).2, hask, fun H' p hp => .lst (L2.SqL.of hp) (L2.dw_ints _)⟩
#print axioms PySem.Challenge.cw_twoaskedapart_s01_answers_holds
