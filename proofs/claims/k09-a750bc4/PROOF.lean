import PyProof.Rows.All
import Wide.All
import OpenK.AllK
import Wide.FinOn
import Lean
import PyProof.EqAt
import PyProof.EqKinds
import PyProof.TupleCall
import PyProof.NeKinds
import KE.KSorted
import KE.KDictSum
import PyProof.Rows.StrPartPair
import PySem.Challenge.RW_sharepress_k09_counted
set_option Elab.async false
set_option linter.all false
set_option maxRecDepth 100000
namespace L2
open PySem PySem.Spec PyProof.Rows
abbrev Key := Sum Int Str
def keyIs : Key → Value → Bool
  | .inl k, v => Value.isInt k v
  | .inr x, v => Value.isStrOf x v
def keyH (w : World) : Key → Int
  | .inl k => hashInt k
  | .inr x => hashStr w x
theorem keyIs_shape : ∀ {k : Key} {v : Value}, keyIs k v = true → (∃ i t, k = Sum.inl i ∧ v = Value.int i t) ∨ (∃ x t, k = Sum.inr x ∧ v = Value.str x t)
  | .inl i, v, h => by
    obtain ⟨t, e⟩ := Value.isInt_shape (k := i) (v := v) h
    exact .inl ⟨i, t, rfl, e⟩
  | .inr x, v, h => by
    obtain ⟨t, e⟩ := Value.isStrOf_shape (x := x) (v := v) h
    exact .inr ⟨x, t, rfl, e⟩
theorem keyIs_int (i : Int) (t : Tok) : keyIs (.inl i) (.int i t) = true := by simp [keyIs, Value.isInt]
theorem keyIs_str (x : Str) (t : Tok) : keyIs (.inr x) (.str x t) = true := by simp [keyIs, Value.isStrOf]
theorem key_ll (a b : Int) : decide ((Sum.inl a : Key) = Sum.inl b) = (a == b) := by
  by_cases e : a = b
  · subst e; simp
  · have h : ¬ (Sum.inl a : Key) = Sum.inl b := fun q => e (Sum.inl.inj q)
    rw [decide_eq_false h]
    exact (beq_eq_false_iff_ne.mpr e).symm
theorem key_rr (a b : Str) : decide ((Sum.inr a : Key) = Sum.inr b) = decide (a = b) := by
  by_cases e : a = b
  · subst e; simp
  · have h : ¬ (Sum.inr a : Key) = Sum.inr b := fun q => e (Sum.inr.inj q)
    rw [decide_eq_false h, decide_eq_false e]
theorem key_lr (a : Int) (b : Str) : decide ((Sum.inl a : Key) = Sum.inr b) = false := decide_eq_false (fun q => nomatch q)
theorem key_rl (a : Str) (b : Int) : decide ((Sum.inr a : Key) = Sum.inl b) = false := decide_eq_false (fun q => nomatch q)
def mixKind (prog : Program) (w : World) : PySem.KeyKind prog w Key where
  is := keyIs
  hash := keyH w
  inj := fun v a b ha hb => by
    rcases keyIs_shape ha with ⟨i, t, rfl, rfl⟩ | ⟨x, t, rfl, rfl⟩
    · rcases keyIs_shape hb with ⟨j, u, rfl, e⟩ | ⟨y, u, rfl, e⟩
      · injection e with e1 _; rw [e1]
      · exact nomatch e
    · rcases keyIs_shape hb with ⟨j, u, rfl, e⟩ | ⟨y, u, rfl, e⟩
      · exact nomatch e
      · injection e with e1 _; rw [e1]
  byValue := fun k v h => by
    rcases keyIs_shape h with ⟨i, t, rfl, rfl⟩ | ⟨x, t, rfl, rfl⟩ <;> rfl
  pyHash := fun hv h => by
    rcases keyIs_shape hv with ⟨i, t, rfl, rfl⟩ | ⟨x, t, rfl, rfl⟩
    · exact wpAny_pyHash_int h
    · exact wpAny_pyHash_str h
  eqBool := fun hu hv h => by
    rcases keyIs_shape hu with ⟨i, t, rfl, rfl⟩ | ⟨x, t, rfl, rfl⟩
    · rcases keyIs_shape hv with ⟨j, u, rfl, rfl⟩ | ⟨y, u, rfl, rfl⟩
      · rw [key_ll] at h; exact wpAny_eqBool_int h
      · rw [key_lr] at h; exact SeqAt.EqAt.int_str i t y u _ _ _ _ h
    · rcases keyIs_shape hv with ⟨j, u, rfl, rfl⟩ | ⟨y, u, rfl, rfl⟩
      · rw [key_rl] at h; exact SeqAt.EqAt.str_int x t j u _ _ _ _ h
      · rw [key_rr] at h; exact wpAny_eqBool_str h
  «strs» := fun k x t v h => by
    rcases keyIs_shape h with ⟨i, u, rfl, e⟩ | ⟨y, u, rfl, e⟩
    · exact nomatch e
    · injection e with e1 _
      subst e1
      cases v <;> rfl
theorem mixKind_int (prog : Program) (w : World) (i : Int) (t : Tok) : (mixKind prog w).is (.inl i) (.int i t) = true := keyIs_int i t
theorem mixKind_str (prog : Program) (w : World) (x : Str) (t : Tok) : (mixKind prog w).is (.inr x) (.str x t) = true := keyIs_str x t
end L2
namespace L2
open PySem PySem.Spec PyProof.Rows
inductive V where
  | non | bl (b : Bool) | int (i : Int) | str (x : Str) | byt (b : Array UInt8) | flt (b : UInt64) | ref (a : Addr) | ty (n : String)
  deriving DecidableEq
def RelV : V → Value → Prop
  | .non, u => u = Value.none
  | .bl b, u => u = Value.bool b
  | .int i, u => ∃ t, u = Value.int i t
  | .str x, u => ∃ t, u = Value.str x t
  | .byt b, u => ∃ t, u = Value.bytes b t
  | .flt b, u => ∃ t, u = Value.float b t
  | .ref a, u => u = Value.ref a
  | .ty n, u => u = Value.type n
abbrev Vals : List V → List Value → Prop := Paired RelV
theorem Vals.length {xs : List V} {us : List Value} (r : Vals xs us) : xs.length = us.length := Paired.length r
theorem Vals.get : ∀ {xs : List V} {us : List Value} {i : Nat} {x : V}, Vals xs us → xs[i]? = some x → ∃ u, us[i]? = some u ∧ RelV x u
  | _, _, _, _, .nil, e => by simp at e
  | _, _, 0, _, .cons r _, e => by simp at e; subst e; exact ⟨_, rfl, r⟩
  | _, _, i + 1, x, .cons _ t, e => by
    obtain ⟨u, h1, h2⟩ := Vals.get (i := i) (x := x) t (by simpa using e)
    exact ⟨u, by simpa using h1, h2⟩
theorem Vals.set {x : V} {u : Value} (r : RelV x u) : ∀ {xs : List V} {us : List Value} (i : Nat), Vals xs us → Vals (xs.set i x) (us.set i u)
  | _, _, _, .nil => .nil
  | _, _, 0, .cons _ t => .cons r t
  | _, _, i + 1, .cons q t => .cons q (Vals.set r i t)
theorem Vals.append : ∀ {xs ys : List V} {us ws : List Value}, Vals xs us → Vals ys ws → Vals (xs ++ ys) (us ++ ws)
  | _, _, _, _, .nil, s => s
  | _, _, _, _, .cons r t, s => .cons r (Vals.append t s)
theorem Vals.take : ∀ {xs : List V} {us : List Value} (n : Nat), Vals xs us → Vals (xs.take n) (us.take n)
  | _, _, 0, _ => .nil
  | _, _, _ + 1, .nil => .nil
  | _, _, n + 1, .cons r t => .cons r (Vals.take n t)
theorem Vals.drop : ∀ {xs : List V} {us : List Value} (n : Nat), Vals xs us → Vals (xs.drop n) (us.drop n)
  | _, _, 0, r => r
  | _, _, _ + 1, .nil => .nil
  | _, _, n + 1, .cons _ t => Vals.drop n t
def RelO : Option V → Option Value → Prop
  | some v, some u => RelV v u
  | none, none => True
  | _, _ => False
def KV {κ : Type} : List (κ × V) → List (κ × Value) → Prop := Paired fun (p : κ × V) (q : κ × Value) => p.1 = q.1 ∧ RelV p.2 q.2
def kV : Key → V
  | .inl i => .int i
  | .inr x => .str x
inductive HO where
    | lst (xs : List V)
    | tup (xs : List V)
    | dK (kvs : List (Key × V)) | dT (kvs : List (List Key × V))
    | set (S : Int → Bool) (n : Nat)
    | ins (C dx : Addr) (fs : List (Str × V))
    | own (x : Addr)
    | xd (fs : List (Str × V))
    | met (f x : Addr)
    | rng (lo hi : Int)
    | frz (o : Obj) (u : HO)
    | tbl (ps : Array Value)
    | ext (φ : Heap → Prop)
abbrev Hp := Addr → Option HO
def upd (H : Hp) (a : Addr) (o : HO) : Hp := fun b => if b = a then some o else H b
theorem upd_same {H : Hp} {a : Addr} {o : HO} : upd H a o a = some o := by unfold upd; rw [if_pos rfl]
theorem upd_ne {H : Hp} {a b : Addr} {o : HO} (h : b ≠ a) : upd H a o b = H b := by unfold upd; rw [if_neg h]
theorem ne_of {H : Hp} {a b : Addr} {o u : HO} (h : H a = some o) (h' : H b = some u) (d : o ≠ u) : a ≠ b := by
  intro e; subst e; rw [h] at h'; exact d (Option.some.inj h')
theorem ne_of_none {H : Hp} {a b : Addr} {o : HO} (h : H a = some o) (h' : H b = none) : a ≠ b := by
  intro e; subst e; rw [h] at h'; cases h'
section
variable (P : Program) (w : World)
def ObjOk (H : Hp) (h : Heap) (a : Addr) : HO → Prop
  | .lst xs => xs.length ≤ sizeLine ∧ ∃ (its : List Value) (n : Nat), Vals xs its ∧ h.get? a = some { cls := .type "list", data := .seq its.toArray n }
  | .tup xs => xs.length ≤ sizeLine ∧ ∃ its : List Value, Vals xs its ∧ IsTup h a its.toArray
  | .dK kvs => kvs.length ≤ sizeLine ∧ (a == sysModules) = false ∧ ∃ vs, KV kvs vs ∧ h.DictOf (mixKind P w) a vs
  | .dT kvs => kvs.length ≤ sizeLine ∧ (a == sysModules) = false ∧ ∃ xs : List (List Key × Addr × Value),
      Paired (fun (p : List Key × V) (q : List Key × Addr × Value) => p.1 = q.1 ∧ H q.2.1 = some (.tup (p.1.map kV)) ∧ RelV p.2 q.2.2) kvs xs ∧
      ∃ o es ep, h.get? a = some o ∧ o.ExactDict ∧ o.data = .dict es ep ∧ es.toList = xs.map (entryOfKey (tupleKind (mixKind P w))) ∧ (xs.map (·.1)).Nodup
  | .set S n => h.SetOf (intKind P w) a S n
  | .ins C dx fs => H dx = some (.own a) ∧ fs.length ≤ 1000 ∧ dx ≠ a ∧ h.get? a = some (PySem.W.instObj C dx) ∧
      ∃ mA, h.Ns1 dx mA ∧ (∀ f, RelO (fs.lookup f) (mA f)) ∧ PySem.Within mA (fs.map (·.1))
  | .own _ => ∃ o, h.get? a = some o
  | .xd fs => ∃ mA, h.Ns1 a mA ∧ ∀ f, RelO (fs.lookup f) (mA f)
  | .rng lo hi => ∃ t u v, h.get? a = some { cls := .type "range", data := .fields #[.int lo t, .int hi u, .int 1 v] }
  | .frz o u => h.get? a = some o ∧ ObjOk H h a u
  | .tbl ps => h.get? a = some { cls := .none, data := .fields ps }
  | .met f x => h.get? a = some (PySem.W.methodObj (.ref f) (.ref x))
  | .ext φ => φ h ∧ (∃ o, h.get? a = some o) ∧ ∀ h1 h2 : Heap, φ h1 → (∀ o, h1.get? a = some o → h2.get? a = some o) → φ h2
def HOk (H : Hp) (h : Heap) : Prop := ∀ a o, H a = some o → ObjOk P w H h a o
end
section
variable {P : Program} {w : World} {H H' : Hp} {h h' : Heap} {a : Addr} {o : HO}
theorem ObjOk.lt (x : ObjOk P w H h a o) : a < h.objs.size := by
  cases o with
  | lst xs => obtain ⟨_, _, _, _, e⟩ := x; exact Heap.lt_size e
  | tup xs => obtain ⟨_, _, _, p⟩ := x; exact p.lt
  | dK kvs => obtain ⟨_, _, _, _, o, _, _, e, _⟩ := x; exact Heap.lt_size e
  | dT kvs => obtain ⟨_, _, _, _, o, _, _, e, _⟩ := x; exact Heap.lt_size e
  | set S n => obtain ⟨o, _, _, _, e, _⟩ := x; exact Heap.lt_size e
  | ins C dx fs => obtain ⟨_, _, _, e, _⟩ := x; exact Heap.lt_size e
  | own y => obtain ⟨_, e⟩ := x; exact Heap.lt_size e
  | xd fs => obtain ⟨_, ⟨_, _, _, e, _⟩, _⟩ := x; exact Heap.lt_size e
  | rng lo hi => obtain ⟨_, _, _, e⟩ := x; exact Heap.lt_size e
  | frz ob u => obtain ⟨e, _⟩ := x; exact Heap.lt_size e
  | tbl ps => exact Heap.lt_size (show h.get? a = some _ from x)
  | met f y => exact Heap.lt_size (show h.get? a = some _ from x)
  | ext φ => obtain ⟨_, ⟨_, e⟩, _⟩ := x; exact Heap.lt_size e
theorem Paired.mapP {α β : Type} {F G : α → β → Prop} : ∀ {l₁ : List α} {l₂ : List β}, Paired F l₁ l₂ → (∀ a b, F a b → G a b) → Paired G l₁ l₂
  | _, _, .nil, _ => .nil
  | _, _, .cons r t, f => .cons (f _ _ r) (Paired.mapP t f)
theorem ObjOk.stay (x : ObjOk P w H h a o) (k : ∀ b u, (b = a ∨ H b = some (.own a)) → h.get? b = some u → h'.get? b = some u)
    (ho : ∀ b, H b = some (.own a) → H' b = some (.own a)) (ht : ∀ b xs, H b = some (.tup xs) → H' b = some (.tup xs)) : ObjOk P w H' h' a o := by
  induction o with
  | lst xs => obtain ⟨z, its, n, r, e⟩ := x; exact ⟨z, its, n, r, k _ _ (.inl rfl) e⟩
  | tup xs => obtain ⟨z, its, r, ob, e, c⟩ := x; exact ⟨z, its, r, ob, k _ _ (.inl rfl) e, c⟩
  | dK kvs => obtain ⟨z, y, vs, r, ob, es, ep, e, c⟩ := x; exact ⟨z, y, vs, r, ob, es, ep, k _ _ (.inl rfl) e, c⟩
  | dT kvs =>
    obtain ⟨z, y, xs, r, ob, es, ep, e, c⟩ := x
    exact ⟨z, y, xs, Paired.mapP r fun p q z => ⟨z.1, ht _ _ z.2.1, z.2.2⟩, ob, es, ep, k _ _ (.inl rfl) e, c⟩
  | set S n => obtain ⟨ob, es, ep, t, e, c⟩ := x; exact ⟨ob, es, ep, t, k _ _ (.inl rfl) e, c⟩
  | ins C dx fs =>
    obtain ⟨d, z, ne, e, mA, ⟨od, es, ep, e2, c⟩, r⟩ := x
    exact ⟨ho _ d, z, ne, k _ _ (.inl rfl) e, mA, ⟨od, es, ep, k _ _ (.inr d) e2, c⟩, r⟩
  | own y => obtain ⟨ob, e⟩ := x; exact ⟨ob, k _ _ (.inl rfl) e⟩
  | xd fs => obtain ⟨mA, ⟨od, es, ep, e, c⟩, r⟩ := x; exact ⟨mA, ⟨od, es, ep, k _ _ (.inl rfl) e, c⟩, r⟩
  | rng lo hi => obtain ⟨t, u, v, e⟩ := x; exact ⟨t, u, v, k _ _ (.inl rfl) e⟩
  | frz ob u ih => obtain ⟨e, q⟩ := x; exact ⟨k _ _ (.inl rfl) e, ih q⟩
  | tbl ps =>
    have e : h.get? a = some { cls := .none, data := .fields ps } := x
    show h'.get? a = some { cls := .none, data := .fields ps }
    exact k a _ (.inl rfl) e
  | met f y =>
    have e : h.get? a = some (PySem.W.methodObj (.ref f) (.ref y)) := x
    show h'.get? a = some (PySem.W.methodObj (.ref f) (.ref y))
    exact k a _ (.inl rfl) e
  | ext φ => obtain ⟨p, ⟨o, e⟩, st⟩ := x; exact ⟨st _ _ p fun o q => k _ _ (.inl rfl) q, ⟨o, k _ _ (.inl rfl) e⟩, st⟩
theorem HOk.lt (x : HOk P w H h) (e : H a = some o) : a < h.objs.size := (x a o e).lt
theorem HOk.fresh (x : HOk P w H h) (e : h.objs.size ≤ a) : H a = none := by
  cases q : H a with
  | none => rfl
  | some u => exact absurd (Nat.lt_of_lt_of_le (x.lt q) e) (Nat.lt_irrefl _)
theorem HOk.kept (x : HOk P w H h) (k : ∀ b u, h.get? b = some u → h'.get? b = some u) : HOk P w H h' := fun a o e =>
  (x a o e).stay (fun b u _ q => k b u q) (fun _ q => q) fun _ _ q => q
theorem HOk.laid (x : HOk P w H h) (k : ∀ b u, h.get? b = some u → h'.get? b = some u) (hp : h.objs.size ≤ a) (new : ObjOk P w (upd H a o) h' a o) : HOk P w (upd H a o) h' := fun b u e => by
  have hn := x.fresh hp
  by_cases hb : b = a
  · subst hb; rw [upd_same] at e; cases e; exact new
  · rw [upd_ne hb] at e
    exact (x b u e).stay (fun c v _ q => k c v q) (fun c q => by rw [upd_ne (ne_of_none q hn)]; exact q) fun c xs q => by rw [upd_ne (ne_of_none q hn)]; exact q
end
def Rd (H : Hp) (a : Addr) (u : HO) : Prop := H a = some u ∨ ∃ o, H a = some (.frz o u)
theorem Rd.of {H : Hp} {a : Addr} {u : HO} (h : H a = some u) : Rd H a u := .inl h
theorem Rd.ok {P : Program} {w : World} {H : Hp} {h : Heap} {a : Addr} {u : HO} (r : Rd H a u) (x : HOk P w H h) : ObjOk P w H h a u := by
  rcases r with r | ⟨o, r⟩
  · exact x a u r
  · obtain ⟨_, q⟩ := x a _ r
    exact q
def Mut : Option HO → Prop
  | some (.lst _) => True
  | some (.dK _) => True
  | some (.dT _) => True
  | some (.set _ _) => True
  | some (.ins _ _ _) => True
  | some (.ext _) => True
  | _ => False
section
variable {P : Program} {w : World} {H : Hp} {h h' : Heap} {x e : Addr} {o' : HO}
theorem HOk.write (ok : HOk P w H h) (mu : Mut (H x)) (he : e = x ∨ H e = some (.own x)) (k : ∀ b u, b ≠ e → h.get? b = some u → h'.get? b = some u) (heo : ∃ u, h'.get? e = some u)
    (new : ObjOk P w (upd H x o') h' x o') : HOk P w (upd H x o') h' := fun b u q => by
  have nown : ∀ c y, H c = some (.own y) → c ≠ x := fun c y r z => by subst z; rw [r] at mu; exact mu
  have ntup : ∀ c xs, H c = some (.tup xs) → c ≠ x := fun c xs r z => by subst z; rw [r] at mu; exact mu
  by_cases hb : b = x
  · subst hb; rw [upd_same] at q; cases q; exact new
  · rw [upd_ne hb] at q
    by_cases hbe : b = e
    · have q' : H b = some (.own x) := by
        rcases he with z | z
        · exact absurd (hbe.trans z) hb
        · rw [hbe]; exact z
      rw [q] at q'; cases q'
      obtain ⟨v, hv⟩ := heo
      exact ⟨v, by rw [hbe]; exact hv⟩
    · refine (ok b u q).stay (fun c v hc r => k c v ?_ r) (fun c r => by rw [upd_ne (nown c b r)]; exact r) fun c xs r => by rw [upd_ne (ntup c xs r)]; exact r
      rcases hc with rfl | hc
      · exact hbe
      · rintro rfl
        rcases he with z | z
        · exact nown c b hc z
        · rw [hc] at z; cases z; exact hb rfl
end
structure Un (fs ex : List Addr) (H H' : Hp) (h h' : Heap) : Prop where
  keep : ∀ b o, h.get? b = some o → H b = none → b ∉ fs → b ∉ ex → h'.get? b = some o
  slot : ∀ b o, h.get? b = some o → H b = none → b ∈ fs → b ∉ ex → ∃ sl, h'.get? b = some { o with slots := sl }
  free : ∀ b o, h.get? b = some o → H b = none → b ∉ ex → H' b = none
  there : ∀ b o, h.get? b = some o → b ∉ ex → ∃ o', h'.get? b = some o'
  tups : ∀ b xs, H b = some (.tup xs) → H' b = some (.tup xs)
  frzs : ∀ b o u, H b = some (.frz o u) → H' b = some (.frz o u)
  tbls : ∀ b ps, H b = some (.tbl ps) → ∃ more, H' b = some (.tbl (ps ++ more))
section
variable {fs fs' ex ex' : List Addr} {H H1 H2 : Hp} {h h1 h2 h' : Heap} {a x e : Addr} {o : HO}
theorem Un.any (u : Un fs ex H H1 h h1) {b : Addr} {ob : Obj} (q : h.get? b = some ob) (n : H b = none) (hx : b ∉ ex) : ∃ sl, h1.get? b = some { ob with slots := sl } := by
  by_cases hb : b ∈ fs
  · exact u.slot b ob q n hb hx
  · exact ⟨ob.slots, u.keep b ob q n hb hx⟩
theorem Un.kept (k : ∀ b u, h.get? b = some u → h'.get? b = some u) : Un fs ex H H h h' :=
  ⟨fun b ob q _ _ _ => k b ob q, fun b ob q _ _ _ => ⟨ob.slots, k b ob q⟩, fun _ _ _ n _ => n, fun b ob q _ => ⟨ob, k b ob q⟩, fun _ _ q => q, fun _ _ _ q => q, fun _ ps q => ⟨#[], by rw [q]; simp⟩⟩
theorem Un.refl : Un fs ex H H h h := Un.kept fun _ _ q => q
theorem Un.laid (k : ∀ b u, h.get? b = some u → h'.get? b = some u) (hp : h.objs.size ≤ a) (hn : H a = none) : Un fs ex H (upd H a o) h h' where
  keep := fun b u q _ _ _ => k b u q
  slot := fun b u q _ _ _ => ⟨u.slots, k b u q⟩
  free := fun b u q n _ => by rw [upd_ne (Nat.ne_of_lt (Nat.lt_of_lt_of_le (Heap.lt_size q) hp))]; exact n
  there := fun b u q _ => ⟨u, k b u q⟩
  tups := fun b xs q => by rw [upd_ne (ne_of_none q hn)]; exact q
  frzs := fun b u xs q => by rw [upd_ne (ne_of_none q hn)]; exact q
  tbls := fun b ps q => ⟨#[], by rw [upd_ne (ne_of_none q hn), q]; simp⟩
theorem Un.write (mu : Mut (H x)) (he : e = x ∨ H e = some (.own x)) (k : ∀ b u, b ≠ e → h.get? b = some u → h'.get? b = some u) (heo : ∃ u, h'.get? e = some u) : Un fs ex H (upd H x o) h h' := by
  have hx : ∀ b, H b = none → b ≠ x := fun b n z => by subst z; rw [n] at mu; exact mu
  have hb : ∀ b, H b = none → b ≠ e := fun b n z => by
    subst z
    rcases he with r | r
    · exact hx b n r
    · rw [n] at r; cases r
  have hm : ∀ b u, H b = some u → ¬ Mut (some u) → b ≠ x := fun b u q nm z => by subst z; rw [q] at mu; exact nm mu
  refine ⟨fun b u q n _ _ => k b u (hb b n) q, fun b u q n _ _ => ⟨u.slots, k b u (hb b n) q⟩, fun b u q n _ => by rw [upd_ne (hx b n)]; exact n, fun b u q _ => ?_,
    fun b xs q => by rw [upd_ne (hm b _ q fun z => z)]; exact q, fun b u xs q => by rw [upd_ne (hm b _ q fun z => z)]; exact q, fun b ps q => ⟨#[], by rw [upd_ne (hm b _ q fun z => z), q]; simp⟩⟩
  by_cases hbe : b = e
  · subst hbe; exact heo
  · exact ⟨u, k b u hbe q⟩
end
def trk (h : Heap) (H : Hp) : List Addr := (List.range h.objs.size).filter fun a => (H a).isSome
def hidT (h : Heap) (H : Hp) : Heap := PySem.W.hideAll h (trk h H)
theorem hidT_size (h : Heap) (H : Hp) : (hidT h H).objs.size = h.objs.size := PySem.W.hideAll_size _ _
theorem hidT_get {h : Heap} {H : Hp} {b : Addr} {o : Obj} (e : h.get? b = some o) (n : H b = none) : (hidT h H).get? b = some o :=
  PySem.W.hideAll_get _ e fun hm => by
    have q : (H b).isSome = true := (List.mem_filter.mp hm).2
    rw [n] at q; simp at q
theorem of_hidT {h : Heap} {H : Hp} {b : Addr} {o : Obj} (e : (hidT h H).get? b = some o) : h.get? b = some o ∧ H b = none := by
  have e' : h.get? b = some o := PySem.W.of_hideAll (trk h H) e
  refine ⟨e', ?_⟩
  cases q : H b with
  | none => rfl
  | some x =>
    have hm : b ∈ trk h H := List.mem_filter.mpr ⟨List.mem_range.mpr (Heap.lt_size e'), by simp [q]⟩
    have z : (hidT h H).get? b = none := PySem.W.hideAll_none (trk h H) hm
    rw [z] at e; cases e
def allNews (g h : Heap) (L : Addr) : List (Addr × Obj) := (List.range h.objs.size).filterMap fun a => if a = L ∨ (g.get? a).isSome = true then none else (h.get? a).map fun o => (a, o)
def rest (g h : Heap) (L d : Addr) : List (Addr × Obj) := (allNews g h L).filter fun p => decide (p.1 ≠ d)
end L2
namespace L2
open PySem PySem.Spec PyProof.Rows
structure Mod (K : PySem.W.Frag) (mg : Str → Option Value) (base : Heap) : Prop where
  kin : K.In base
  glob : base.Ns mainGlobals mg
  blt : ∃ mb, base.Ns builtinsNs mb ∧ ∀ x : Str, x ≠ "__name__" → mb x = bootBuiltins x
  nolimit : base.NoLimit
structure Cx where
  prog : Program
  w : World
  K : PySem.W.Frag
  mg : Str → Option Value
  base : Heap
  A : Around
  N : List Str
  s₀ : Shared
  H₀ : Hp
  env : Env
  outer : List Env
  stack : List Env
  ex : List Addr
  fn : Str → Bool
  calm : Bool
  pn : List (Addr × Obj)
  xe : Value → Shared → Prop
def frs (l : List Env) : List Addr := l.filterMap (·.frame)
abbrev Cx.fs (X : Cx) : List Addr := frs X.outer
def Vis (sc : Scope) (x : Str) : Prop := sc.names.lookup x = some .local ∨ sc.names.lookup x = some .cell ∨ sc.names.lookup x = some .free
def Loc (sc : Scope) (x : Str) : Prop := sc.names.lookup x = some .local ∨ sc.names.lookup x = some .cell
def Look (env : Env) (h : Heap) (m : Str → Option Value) (x : Str) (u : Value) : Prop :=
  (env.kindOf x = some .local ∧ m x = some u) ∨ ((env.kindOf x = some .cell ∨ env.kindOf x = some .free) ∧ ∃ c, env.cells.lookup x = some c ∧ h.IsCell c (some u))
structure Cx.Ok (X : Cx) : Prop where
  mod : Mod X.K X.mg X.base
  kind : X.env.scope.kind = .function
  glob : X.env.globals = mainGlobals
  blt : X.env.builtins = builtinsNs
  above : X.s₀.heap.objs.size ≤ X.env.locals
  inj : ∀ x y c, X.env.cells.lookup x = some c → X.env.cells.lookup y = some c → x = y
  has : ∀ x, (X.env.kindOf x = some .cell ∨ X.env.kindOf x = some .free) → ∃ c, X.env.cells.lookup x = some c
  cab : ∀ x c, X.fn x = true → X.env.cells.lookup x = some c → X.s₀.heap.objs.size ≤ c
  hd : X.calm = true → X.A.handled = none
  frames : X.A.frames = some X.stack
  stk : X.stack = X.outer ∨ (X.stack = X.env :: X.outer ∧ X.env.frame = some X.env.locals)
  exf : ∀ b ∈ X.ex, b ≠ X.env.locals ∧ ∀ x c, X.env.cells.lookup x = some c → c ≠ b
  bs : ∀ b o, X.base.get? b = some o → X.s₀.heap.get? b = some o ∧ X.H₀ b = none
  bsz : X.base.objs.size ≤ X.s₀.heap.objs.size
  noex : ∀ b o, X.base.get? b = some o → b ∉ X.ex
  exfs : ∀ b ∈ X.ex, b ∉ X.fs
  funs : X.s₀.heap.FunFrames X.base X.outer
  frf : ∀ b ∈ X.fs, X.H₀ b = none
structure Inv (X : Cx) (pins : List (Addr × Obj)) (σ : List (Option V)) (H : Hp) (s : Shared) : Prop where
  ok : X.Ok
  os : s.os = X.s₀.os
  bare : AllBare s.gens
  base : Un X.fs X.ex X.H₀ H X.s₀.heap s.heap
  loc : ∃ m, s.heap.Ns X.env.locals m ∧ ∀ (i : Nat) (x : Str) (v : V), X.N[i]? = some x → σ[i]? = some (some v) → Vis X.env.scope x → ∃ u, RelV v u ∧ Look X.env s.heap m x u
  cell : ∀ x c, X.env.cells.lookup x = some c → ∃ v, s.heap.IsCell c v
  free : H X.env.locals = none
  freeC : ∀ x c, X.env.cells.lookup x = some c → H c = none
  pin : ∀ p ∈ X.pn ++ pins, s.heap.get? p.1 = some p.2 ∧ H p.1 = none ∧ p.1 ≠ X.env.locals ∧ p.1 ∉ X.fs ∧ ∀ v, p.2.data ≠ .cell v
  hok : HOk X.prog X.w H s.heap
  len : σ.length = X.N.length
section
variable {X : Cx} {pins : List (Addr × Obj)} {σ : List (Option V)} {H H' : Hp} {s : Shared} {h' : Heap}
theorem Cx.Ok.nofr (ok : X.Ok) {b : Addr} {o : Obj} (e : X.base.get? b = some o) : b ∉ X.fs := fun hb => by
  have := (ok.funs.mem hb).1
  rw [e] at this; cases this
theorem Inv.bs (I : Inv X pins σ H s) : ∀ b o, X.base.get? b = some o → s.heap.get? b = some o ∧ H b = none := fun b o e =>
  ⟨I.base.keep b o (I.ok.bs b o e).1 (I.ok.bs b o e).2 (I.ok.nofr e) (I.ok.noex b o e), I.base.free b o (I.ok.bs b o e).1 (I.ok.bs b o e).2 (I.ok.noex b o e)⟩
theorem Inv.bk (I : Inv X pins σ H s) : ∀ b o, X.base.get? b = some o → s.heap.get? b = some o := fun b o e => (I.bs b o e).1
theorem Inv.mod (I : Inv X pins σ H s) : Mod X.K X.mg X.base := I.ok.mod
theorem Inv.kIn (I : Inv X pins σ H s) : X.K.In s.heap := I.ok.mod.kin.keeps I.bk
theorem Inv.lt (I : Inv X pins σ H s) : X.env.locals < s.heap.objs.size := let ⟨_, hn, _⟩ := I.loc; hn.lt
theorem Inv.sz (I : Inv X pins σ H s) : X.s₀.heap.objs.size ≤ s.heap.objs.size := Nat.le_trans I.ok.above (Nat.le_of_lt I.lt)
theorem Inv.nofs (I : Inv X pins σ H s) {a : Addr} (h : s.heap.objs.size ≤ a) : a ∉ X.fs := fun hb => by
  obtain ⟨_, o, ho, _⟩ := I.ok.funs.mem hb
  exact absurd (Nat.lt_of_lt_of_le (Heap.lt_size ho) (Nat.le_trans I.sz h)) (Nat.lt_irrefl _)
theorem Inv.cne (I : Inv X pins σ H s) : ∀ x c, X.env.cells.lookup x = some c → c ≠ X.env.locals := fun x c e z => by
  obtain ⟨v, o, ho, hd⟩ := I.cell x c e
  obtain ⟨m, ⟨o', es, ep, ho', hd', _⟩, _⟩ := I.loc
  rw [z, ho'] at ho; cases ho; rw [hd'] at hd; cases hd
theorem Inv.funs (I : Inv X pins σ H s) : s.heap.FunFrames X.base X.outer := by
  have all : ∀ (l : List Env), (∀ b ∈ frs l, b ∈ X.fs) → X.s₀.heap.FunFrames X.base l → s.heap.FunFrames X.base l := by
    intro l
    induction l with
    | nil => intro _ _; trivial
    | cons env r ih =>
      intro hs hl
      obtain ⟨hk, ⟨L, o, hf, hn, ho, hd⟩, hr⟩ := hl
      have hL : L ∈ X.fs := hs L (by unfold frs; rw [List.filterMap_cons, hf]; exact List.mem_cons_self)
      obtain ⟨sl, e⟩ := I.base.slot L o ho (I.ok.frf L hL) hL fun z => I.ok.exfs L z hL
      exact ⟨hk, ⟨L, _, hf, hn, e, hd⟩, ih (fun b hb => hs b (by unfold frs; rw [List.filterMap_cons, hf]; exact List.mem_cons_of_mem _ hb)) hr⟩
  exact all X.outer (fun _ hb => hb) I.ok.funs
theorem Inv.stack (I : Inv X pins σ H s) : s.heap.FunFrames X.base X.stack := by
  rcases I.ok.stk with e | ⟨e, hf⟩
  · rw [e]; exact I.funs
  · rw [e]
    obtain ⟨m, hn, _⟩ := I.loc
    refine .cons (by rw [I.ok.kind]; decide) hf hn ?_ I.funs
    exact Heap.get?_none_of_le (Nat.le_trans I.ok.bsz I.ok.above)
theorem Inv.stkSub (I : Inv X pins σ H s) : ∀ b ∈ frs X.stack, b ∈ X.env.locals :: X.fs := fun b hb => by
  rcases I.ok.stk with e | ⟨e, hf⟩
  · rw [e] at hb; exact List.mem_cons_of_mem _ hb
  · rw [e] at hb
    unfold frs at hb
    rw [List.filterMap_cons, hf] at hb
    exact hb
theorem Inv.stkFree (I : Inv X pins σ H s) : ∀ b ∈ frs X.stack, H b = none := fun b hb => by
  rcases List.mem_cons.mp (I.stkSub b hb) with e | hb
  · rw [e]; exact I.free
  · obtain ⟨_, o, ho, _⟩ := I.ok.funs.mem hb
    exact I.base.free b o ho (I.ok.frf b hb) fun z => I.ok.exfs b z hb
theorem Inv.step {g' : Array GenState} {t' : Nat} {d' : Drawn} {ch : List Addr} (I : Inv X pins σ H s)
    (hch : ∀ b ∈ ch, (b ∈ X.ex ∨ X.s₀.heap.objs.size ≤ b) ∧ b ≠ X.env.locals ∧ (∀ x c, X.env.cells.lookup x = some c → c ≠ b) ∧ ∀ p ∈ X.pn ++ pins, p.1 ≠ b)
    (keep : ∀ b o, b ≠ X.env.locals → b ∉ X.fs → b ∉ ch → s.heap.get? b = some o → H b = none → h'.get? b = some o)
    (slot : ∀ b o, b ≠ X.env.locals → b ∈ X.fs → b ∉ ch → s.heap.get? b = some o → H b = none → ∃ sl, h'.get? b = some { o with slots := sl }) (free : ∀ b o, b ∉ ch → s.heap.get? b = some o → H b = none → H' b = none)
    (there : ∀ b o, b ∉ ch → s.heap.get? b = some o → ∃ o', h'.get? b = some o')
    (tups : ∀ b xs, H b = some (.tup xs) → H' b = some (.tup xs)) (frzs : ∀ b o u, H b = some (.frz o u) → H' b = some (.frz o u)) (tbls : ∀ b ps, H b = some (.tbl ps) → ∃ more, H' b = some (.tbl (ps ++ more)))
    (ns : ∀ m, s.heap.Ns X.env.locals m → h'.Ns X.env.locals m) (hok : HOk X.prog X.w H' h') (hg : AllBare g') :
    Inv X pins σ H' { s with heap := h', gens := g', drawn := d', toks := t' } := by
  have neL : ∀ b o, X.s₀.heap.get? b = some o → b ≠ X.env.locals := fun b o e => Nat.ne_of_lt (Nat.lt_of_lt_of_le (Heap.lt_size e) I.ok.above)
  have neC : ∀ b o, X.s₀.heap.get? b = some o → b ∉ X.ex → b ∉ ch := fun b o e hx hb => by
    rcases (hch b hb).1 with z | z
    · exact hx z
    · exact absurd (Nat.lt_of_lt_of_le (Heap.lt_size e) z) (Nat.lt_irrefl _)
  have cellK : ∀ x c, X.env.cells.lookup x = some c → ∀ v, s.heap.IsCell c v → h'.IsCell c v := fun x c e v ⟨o, ho, hd⟩ => by
    have nch : c ∉ ch := fun z => (hch c z).2.2.1 x c e rfl
    by_cases hc : c ∈ X.fs
    · obtain ⟨sl, q⟩ := slot c o (I.cne x c e) hc nch ho (I.freeC x c e)
      exact ⟨_, q, hd⟩
    · exact ⟨o, keep c o (I.cne x c e) hc nch ho (I.freeC x c e), hd⟩
  refine ⟨I.ok, I.os, hg, ⟨fun b o e n hb hx => ?_, fun b o e n hb hx => ?_, fun b o e n hx => ?_, fun b o e hx => ?_, fun b xs e => tups b xs (I.base.tups b xs e), fun b o xs e => frzs b o xs (I.base.frzs b o xs e), fun b ps e => ?_⟩, ?_, fun x c e => ?_, ?_, fun x c e => ?_, fun p hp => ?_, hok, I.len⟩
  · exact keep b o (neL b o e) hb (neC b o e hx) (I.base.keep b o e n hb hx) (I.base.free b o e n hx)
  · obtain ⟨sl, e1⟩ := I.base.slot b o e n hb hx
    obtain ⟨sl', e2⟩ := slot b _ (neL b o e) hb (neC b o e hx) e1 (I.base.free b o e n hx)
    exact ⟨sl', e2⟩
  · obtain ⟨o', e1⟩ := I.base.there b o e hx
    exact free b o' (neC b o e hx) e1 (I.base.free b o e n hx)
  · obtain ⟨o', e1⟩ := I.base.there b o e hx
    exact there b o' (neC b o e hx) e1
  · obtain ⟨m1, e1⟩ := I.base.tbls b ps e
    obtain ⟨m2, e2⟩ := tbls b _ e1
    exact ⟨m1 ++ m2, by rw [e2, Array.append_assoc]⟩
  · obtain ⟨m, hn, hl⟩ := I.loc
    refine ⟨m, ns m hn, fun i x v e1 e2 e3 => ?_⟩
    obtain ⟨u, r, l⟩ := hl i x v e1 e2 e3
    refine ⟨u, r, ?_⟩
    rcases l with l | ⟨k, c, e, z⟩
    · exact .inl l
    · exact .inr ⟨k, c, e, cellK x c e _ z⟩
  · obtain ⟨v, z⟩ := I.cell x c e
    exact ⟨v, cellK x c e v z⟩
  · obtain ⟨m, ⟨o, _, _, ho, _⟩, _⟩ := I.loc
    exact free _ o (fun z => (hch _ z).2.1 rfl) ho I.free
  · obtain ⟨v, o, ho, hd⟩ := I.cell x c e
    exact free c o (fun z => (hch c z).2.2.1 x c e rfl) ho (I.freeC x c e)
  · obtain ⟨e, n, ne, nf, d⟩ := I.pin p hp
    have nch : p.1 ∉ ch := fun z => (hch p.1 z).2.2.2 p hp rfl
    exact ⟨keep p.1 p.2 ne nf nch e n, free p.1 p.2 nch e n, ne, nf, d⟩
theorem Inv.un {t' : Nat} (I : Inv X pins σ H s) (u : Un X.fs [] H H' s.heap h') (hok : HOk X.prog X.w H' h') : Inv X pins σ H' { s with heap := h', toks := t' } := by
  obtain ⟨m, ⟨o, es, ep, ho, r⟩, _⟩ := id I.loc
  obtain ⟨sl, hL⟩ := u.any ho I.free (by simp)
  exact I.step (g' := s.gens) (d' := s.drawn) (ch := []) (fun _ z => nomatch z) (fun b o _ hb _ e n => u.keep b o e n hb (by simp)) (fun b o _ hb _ e n => u.slot b o e n hb (by simp)) (fun b o _ e n => u.free b o e n (by simp)) (fun b o _ e => u.there b o e (by simp)) u.tups u.frzs u.tbls (fun m' hm => by
    obtain ⟨o', es', ep', ho', r'⟩ := hm
    rw [ho] at ho'; cases ho'
    exact ⟨_, es', ep', hL, r'⟩) hok I.bare
theorem Inv.call {g' : Array GenState} {t' : Nat} {d' : Drawn} {ch : List Addr} (I : Inv X pins σ H s) (u : Un (frs X.stack) ch H H' s.heap h') (hok : HOk X.prog X.w H' h') (hg : AllBare g')
    (hch : ∀ b ∈ ch, (b ∈ X.ex ∨ X.s₀.heap.objs.size ≤ b) ∧ b ≠ X.env.locals ∧ (∀ x c, X.env.cells.lookup x = some c → c ≠ b) ∧ ∀ p ∈ X.pn ++ pins, p.1 ≠ b) :
    Inv X pins σ H' { s with heap := h', gens := g', drawn := d', toks := t' } := by
  obtain ⟨m, ⟨o, es, ep, ho, r⟩, _⟩ := id I.loc
  obtain ⟨sl, hL⟩ := u.any ho I.free fun z => (hch _ z).2.1 rfl
  exact I.step (ch := ch) hch (fun b o hL hb hc e n => u.keep b o e n (fun z => (List.mem_cons.mp (I.stkSub b z)).elim hL hb) hc) (fun b o _ _ hc e n => u.any e n hc) (fun b o hc e n => u.free b o e n hc) (fun b o hc e => u.there b o e hc) u.tups u.frzs u.tbls (fun m' hm => by
    obtain ⟨o', es', ep', ho', r'⟩ := hm
    rw [ho] at ho'; cases ho'
    exact ⟨_, es', ep', hL, r'⟩) hok hg
theorem Inv.turned {t' : Nat} {it : Addr} (I : Inv X pins σ H s) (k : ∀ b o, b ≠ it → s.heap.get? b = some o → h'.get? b = some o) (hn : H it = none) (hL : it ≠ X.env.locals)
    (h1 : it ∈ X.ex ∨ X.s₀.heap.objs.size ≤ it) (h2 : ∀ x c, X.env.cells.lookup x = some c → c ≠ it) (h3 : ∀ p ∈ X.pn ++ pins, p.1 ≠ it) : Inv X pins σ H { s with heap := h', toks := t' } := by
  have nit : ∀ b u, H b = some u → b ≠ it := fun b u e z => by rw [z, hn] at e; cases e
  refine I.step (g' := s.gens) (d' := s.drawn) (ch := [it]) (fun b hb => ?_) (fun b o _ _ hc e _ => k b o (fun z => hc (by simp [z])) e) (fun b o _ _ hc e _ => ⟨o.slots, k b o (fun z => hc (by simp [z])) e⟩) (fun _ _ _ _ n => n)
    (fun b o hc e => ⟨o, k b o (fun z => hc (by simp [z])) e⟩) (fun _ _ e => e) (fun _ _ _ e => e) (fun b ps e => ⟨#[], by rw [e]; simp⟩) (fun m hm => ?_) (fun b u e => ?_) I.bare
  · have e : b = it := by simpa using hb
    subst e
    exact ⟨h1, hL, h2, h3⟩
  · obtain ⟨o, es, ep, ho, r⟩ := hm
    exact ⟨o, es, ep, k _ o (Ne.symm hL) ho, r⟩
  · refine (I.hok b u e).stay (fun c v hc q => k c v ?_ q) (fun _ q => q) fun _ _ q => q
    rcases hc with z | z
    · rw [z]; exact nit b u e
    · exact nit c _ z
theorem Inv.tok (I : Inv X pins σ H s) (t : Nat) : Inv X pins σ H { s with toks := t } := I.un (h' := s.heap) (t' := t) Un.refl I.hok
theorem Inv.kept {t' : Nat} (I : Inv X pins σ H s) (k : ∀ b u, s.heap.get? b = some u → h'.get? b = some u) : Inv X pins σ H { s with heap := h', toks := t' } := I.un (Un.kept k) (I.hok.kept k)
theorem Inv.laid {a : Addr} {o : HO} {t' : Nat} (I : Inv X pins σ H s) (k : ∀ b u, s.heap.get? b = some u → h'.get? b = some u) (hp : s.heap.objs.size ≤ a) (new : ObjOk X.prog X.w (upd H a o) h' a o) :
    Inv X pins σ (upd H a o) { s with heap := h', toks := t' } := I.un (Un.laid k hp (I.hok.fresh hp)) (I.hok.laid k hp new)
theorem Inv.write {x e : Addr} {o : HO} {t' : Nat} (I : Inv X pins σ H s) (mu : Mut (H x)) (he : e = x ∨ H e = some (.own x)) (k : ∀ b u, b ≠ e → s.heap.get? b = some u → h'.get? b = some u) (heo : ∃ u, h'.get? e = some u)
    (new : ObjOk X.prog X.w (upd H x o) h' x o) : Inv X pins σ (upd H x o) { s with heap := h', toks := t' } := I.un (Un.write mu he k heo) (I.hok.write mu he k heo new)
theorem Inv.pins_of {pins' : List (Addr × Obj)} (I : Inv X pins σ H s) (h : ∀ p ∈ pins', s.heap.get? p.1 = some p.2 ∧ H p.1 = none ∧ p.1 ≠ X.env.locals ∧ p.1 ∉ X.fs ∧ ∀ v, p.2.data ≠ .cell v) : Inv X pins' σ H s :=
  ⟨I.ok, I.os, I.bare, I.base, I.loc, I.cell, I.free, I.freeC, fun p hp => (List.mem_append.mp hp).elim (fun z => I.pin p (List.mem_append_left _ z)) (h p), I.hok, I.len⟩
theorem nodup_ix {N : List Str} (hN : N.Nodup) {i j : Nat} {x : Str} (a : N[i]? = some x) (b : N[j]? = some x) : i = j := by
  obtain ⟨h1, e1⟩ := List.getElem?_eq_some_iff.mp a
  obtain ⟨h2, e2⟩ := List.getElem?_eq_some_iff.mp b
  exact (List.getElem_inj hN).mp (e1.trans e2.symm)
theorem store_ok2 {M : Model} {A : Around} {E : Value → Shared → Prop} {i : Nat} {x : Str} {v : V} {u : Value} {Q : Unit → Shared → Prop} (I : Inv X pins σ H s) (hN : X.N.Nodup) (hi : X.N[i]? = some x) (hx : Loc X.env.scope x) (r : RelV v u)
    (h : ∀ s', Inv X pins (σ.set i (some v)) H s' → (∃ a, Heap.SameBut a s.heap s'.heap ∧ (a = X.env.locals ∨ X.env.cells.lookup x = some a)) → Q () s') (hf : X.fn x = true ∨ X.env.scope.names.lookup x = some .local := by first | exact .inl rfl | exact .inr rfl | assumption) : wpAny M A (storeName X.env x u) Q E s := by
  obtain ⟨m, hn, hl⟩ := id I.loc
  have hcls : (X.env.scope.kind == .class || (X.env.scope.kind == .module && X.env.locals != X.env.globals)) = false := by rw [I.ok.kind]; rfl
  have hiσ : i < σ.length := by rw [I.len]; exact (List.getElem?_eq_some_iff.mp hi).1
  have cne := I.cne
  have tracked : ∀ {a : Addr} {h' : Heap}, (∃ o, s.heap.get? a = some o ∧ H a = none) → Heap.SameBut a s.heap h' → HOk X.prog X.w H h' := fun {a h'} ha hs b ob e => by
    obtain ⟨_, _, hfree⟩ := ha
    refine (I.hok b ob e).stay (fun c w' hc q => (hs.2 c ?_).trans q) (fun _ q => q) fun _ _ q => q
    rintro rfl
    rcases hc with rfl | hc
    · rw [hfree] at e; cases e
    · rw [hfree] at hc; cases hc
  rcases hx with hk | hk
  · refine wpAny_storeName_local hk hn (fun h' hn' hs => ?_) hcls
    obtain ⟨oL, _, _, hoL, _⟩ := id hn
    refine h _ ⟨I.ok, I.os, I.bare, ⟨fun b o e n hb hx => ?_, fun b o e n hb hx => ?_, I.base.free, fun b o e hx => ?_, I.base.tups, I.base.frzs, I.base.tbls⟩, ⟨_, hn', fun j y v' e1 e2 e3 => ?_⟩, fun y c e => ?_, I.free, I.freeC, fun p hp => ?_, tracked ⟨oL, hoL, I.free⟩ hs, by simpa using I.len⟩ ⟨_, hs, .inl rfl⟩
    · exact (hs.2 b (Nat.ne_of_lt (Nat.lt_of_lt_of_le (Heap.lt_size e) I.ok.above))).trans (I.base.keep b o e n hb hx)
    · obtain ⟨sl, e1⟩ := I.base.slot b o e n hb hx
      exact ⟨sl, (hs.2 b (Nat.ne_of_lt (Nat.lt_of_lt_of_le (Heap.lt_size e) I.ok.above))).trans e1⟩
    · obtain ⟨o', e1⟩ := I.base.there b o e hx
      exact ⟨o', (hs.2 b (Nat.ne_of_lt (Nat.lt_of_lt_of_le (Heap.lt_size e) I.ok.above))).trans e1⟩
    · by_cases hj : j = i
      · subst hj
        rw [hi] at e1; cases e1
        rw [List.getElem?_set_self hiσ] at e2
        cases e2
        exact ⟨u, r, .inl ⟨hk, by simp⟩⟩
      · rw [List.getElem?_set_ne (Ne.symm hj)] at e2
        obtain ⟨u', r', q⟩ := hl j y v' e1 e2 e3
        refine ⟨u', r', ?_⟩
        rcases q with ⟨k, e⟩ | ⟨k, c, e, z⟩
        · refine .inl ⟨k, ?_⟩
          have : y ≠ x := fun e => hj (nodup_ix hN e1 (e ▸ hi))
          simp [this, e]
        · exact .inr ⟨k, c, e, z.sameBut hs (cne y c e)⟩
    · obtain ⟨w', z⟩ := I.cell y c e
      exact ⟨w', z.sameBut hs (cne y c e)⟩
    · obtain ⟨e, n, ne, nf, d⟩ := I.pin p hp
      exact ⟨(hs.2 p.1 ne).trans e, n, ne, nf, d⟩
  · have hfn : X.fn x = true := by
      rcases hf with z | z
      · exact z
      · rw [z] at hk; cases hk
    obtain ⟨c, hc⟩ := I.ok.has x (.inl hk)
    obtain ⟨w', z⟩ := I.cell x c hc
    refine wpAny_storeName_cell I.ok.kind hk hc z (fun h' hc' hs => ?_)
    obtain ⟨oc, hoc, hocd⟩ := id z
    refine h { s with heap := h' } ⟨I.ok, I.os, I.bare, ⟨fun b o e n hb hx => ?_, fun b o e n hb hx => ?_, I.base.free, fun b o e hx => ?_, I.base.tups, I.base.frzs, I.base.tbls⟩, ⟨m, hn.sameBut hs (Ne.symm (cne x c hc)), fun j y v' e1 e2 e3 => ?_⟩, fun y c' e => ?_, I.free, I.freeC, fun p hp => ?_, tracked ⟨oc, hoc, I.freeC x c hc⟩ hs, by simpa using I.len⟩ ⟨c, hs, .inr hc⟩
    · exact (hs.2 b (Nat.ne_of_lt (Nat.lt_of_lt_of_le (Heap.lt_size e) (I.ok.cab x c hfn hc)))).trans (I.base.keep b o e n hb hx)
    · obtain ⟨sl, e1⟩ := I.base.slot b o e n hb hx
      exact ⟨sl, (hs.2 b (Nat.ne_of_lt (Nat.lt_of_lt_of_le (Heap.lt_size e) (I.ok.cab x c hfn hc)))).trans e1⟩
    · obtain ⟨o', e1⟩ := I.base.there b o e hx
      exact ⟨o', (hs.2 b (Nat.ne_of_lt (Nat.lt_of_lt_of_le (Heap.lt_size e) (I.ok.cab x c hfn hc)))).trans e1⟩
    · by_cases hj : j = i
      · subst hj
        rw [hi] at e1; cases e1
        rw [List.getElem?_set_self hiσ] at e2
        cases e2
        exact ⟨u, r, .inr ⟨.inl hk, c, hc, hc'⟩⟩
      · rw [List.getElem?_set_ne (Ne.symm hj)] at e2
        obtain ⟨u', r', q⟩ := hl j y v' e1 e2 e3
        refine ⟨u', r', ?_⟩
        rcases q with q | ⟨k, c', e, z'⟩
        · exact .inl q
        · refine .inr ⟨k, c', e, z'.sameBut hs ?_⟩
          rintro rfl
          exact hj (nodup_ix hN e1 (I.ok.inj _ _ _ e hc ▸ hi))
    · by_cases hcc : c' = c
      · subst hcc; exact ⟨_, hc'⟩
      · obtain ⟨w2, z2⟩ := I.cell y c' e
        exact ⟨w2, z2.sameBut hs hcc⟩
    · obtain ⟨e, n, ne, nf, d⟩ := I.pin p hp
      refine ⟨(hs.2 p.1 ?_).trans e, n, ne, nf, d⟩
      intro q
      rw [q, hoc] at e
      have q' : oc = p.2 := Option.some.inj e
      exact d w' (by rw [← q']; exact hocd)
theorem store_ok {M : Model} {A : Around} {E : Value → Shared → Prop} {i : Nat} {x : Str} {v : V} {u : Value} {Q : Unit → Shared → Prop} (I : Inv X pins σ H s) (hN : X.N.Nodup) (hi : X.N[i]? = some x) (hx : Loc X.env.scope x) (r : RelV v u)
    (h : ∀ s', Inv X pins (σ.set i (some v)) H s' → Q () s') (hf : X.fn x = true ∨ X.env.scope.names.lookup x = some .local := by first | exact .inl rfl | exact .inr rfl | assumption) : wpAny M A (storeName X.env x u) Q E s :=
  store_ok2 I hN hi hx r (fun s' I' _ => h s' I') hf
theorem Inv.call' {s' : Shared} {ch : List Addr} (I : Inv X pins σ H s) (ho : s'.os = s.os) (u : Un (frs X.stack) ch H H' s.heap s'.heap) (hok : HOk X.prog X.w H' s'.heap) (hg : AllBare s'.gens)
    (hch : ∀ b ∈ ch, (b ∈ X.ex ∨ X.s₀.heap.objs.size ≤ b) ∧ b ≠ X.env.locals ∧ (∀ x c, X.env.cells.lookup x = some c → c ≠ b) ∧ ∀ p ∈ X.pn ++ pins, p.1 ≠ b) : Inv X pins σ H' s' := by
  obtain ⟨h', g', d', t', o'⟩ := s'
  have e : o' = s.os := ho
  subst e
  exact I.call (g' := g') (t' := t') (d' := d') u hok hg hch
end
abbrev XK := Value → Option Addr → Hp → Prop
abbrev St := List (Option V)
abbrev VK := V → Hp → Prop
abbrev TE := St → Hp → VK → Prop
abbrev TT := St → Hp → (Bool → Hp → Prop) → Prop
abbrev TA := St → Hp → (List V → Hp → Prop) → Prop
structure Ends where
  nx : St → Hp → Prop
  rt : VK
  bk : St → Hp → Prop := fun _ _ => False
  ct : St → Hp → Prop := fun _ _ => False
abbrev Ends.to (D : Ends) (c : St → Hp → Prop) : Ends := { D with nx := c }
abbrev Ends.loop (D : Ends) (N : St → Hp → Prop) : Ends := { D with nx := N, ct := N, bk := D.nx }
abbrev Ends.fin (Q : VK) : Ends := { nx := (fun _ H' => Q .non H'), rt := Q }
abbrev TS := Ends → St → Hp → Prop
def EP (X : Cx) (pins : List (Addr × Obj)) (σ : St) (Q : VK) (u : Value) (s' : Shared) : Prop := ∃ v H', Inv X pins σ H' s' ∧ RelV v u ∧ Q v H'
def TP (X : Cx) (pins : List (Addr × Obj)) (σ : St) (Q : Bool → Hp → Prop) (b : Bool) (s' : Shared) : Prop := ∃ H', Inv X pins σ H' s' ∧ Q b H'
def AP (X : Cx) (pins : List (Addr × Obj)) (σ : St) (Q : List V → Hp → Prop) (us : List Value) (s' : Shared) : Prop := ∃ vs H', Inv X pins σ H' s' ∧ Vals vs us ∧ Q vs H'
def SP (X : Cx) (pins : List (Addr × Obj)) (D : Ends) (f : Flow) (s' : Shared) : Prop :=
  match f with
  | .next => ∃ σ' H', Inv X pins σ' H' s' ∧ D.nx σ' H'
  | .brk => ∃ σ' H', Inv X pins σ' H' s' ∧ D.bk σ' H'
  | .cont => ∃ σ' H', Inv X pins σ' H' s' ∧ D.ct σ' H'
  | .ret u => ∃ v σ' H', Inv X pins σ' H' s' ∧ RelV v u ∧ D.rt v H'
def PE (X : Cx) (e : Expr) (t : TE) : Prop :=
  ∀ (pins : List (Addr × Obj)) (s : Shared) (σ : St) (H : Hp) (Q : VK), Inv X pins σ H s → t σ H Q → wpAny (model X.prog X.w) X.A (eval e X.env) (EP X pins σ Q) X.xe s
def PT (X : Cx) (e : Expr) (t : TT) : Prop :=
  ∀ (pins : List (Addr × Obj)) (s : Shared) (σ : St) (H : Hp) (Q : Bool → Hp → Prop), Inv X pins σ H s → t σ H Q → wpAny (model X.prog X.w) X.A (isTrue e X.env (eval e X.env)) (TP X pins σ Q) X.xe s
def PW (X : Cx) (e : Expr) (t : TT) : Prop :=
  ∀ (whole : Sem Value) (pins : List (Addr × Obj)) (s : Shared) (σ : St) (H : Hp) (Q : Bool → Hp → Prop), Inv X pins σ H s → t σ H Q → wpAny (model X.prog X.w) X.A (isTrue e X.env whole) (TP X pins σ Q) X.xe s
theorem PW.pt {X : Cx} {e : Expr} {t : TT} (h : PW X e t) : PT X e t := h _
def PA (X : Cx) (es : List Expr) (t : TA) : Prop :=
  ∀ (pos : Pos) (pins : List (Addr × Obj)) (s : Shared) (σ : St) (H : Hp) (Q : List V → Hp → Prop), Inv X pins σ H s → t σ H Q → wpAny (model X.prog X.w) X.A (spliced (backTo pos (starEach es X.env))) (AP X pins σ Q) X.xe s
def PS (X : Cx) (st : Stmt) (t : TS) : Prop :=
  ∀ (pins : List (Addr × Obj)) (s : Shared) (σ : St) (H : Hp) (D : Ends), Inv X pins σ H s → t D σ H → wpAny (model X.prog X.w) X.A (exec st X.env) (SP X pins D) X.xe s
def PSs (X : Cx) (st : List Stmt) (t : TS) : Prop :=
  ∀ (pins : List (Addr × Obj)) (s : Shared) (σ : St) (H : Hp) (D : Ends), Inv X pins σ H s → t D σ H → wpAny (model X.prog X.w) X.A (execs st X.env) (SP X pins D) X.xe s
theorem thn {α : Type} {t : Sem α} {Q Q' : α → Shared → Prop} {M : Model} {A : Around} {E : Value → Shared → Prop} {s : Shared} (h : wpAny M A t Q E s) (hQ : ∀ a s, Q a s → Q' a s) : wpAny M A t Q' E s := wpAny_mono h hQ fun _ _ x => x
end L2
namespace L2
open PySem PySem.Spec PyProof.Rows
section
variable {X : Cx}
inductive HasV (o : Option (Option V)) (Q : V → Prop) : Prop
  | mk (v : V) (h : o = some (some v)) (q : Q v)
inductive IsBl (x : V) (Q : Bool → Prop) : Prop
  | mk (c : Bool) (h : x = .bl c) (q : Q c)
inductive IsInt (x : V) (Q : Int → Prop) : Prop
  | mk (i : Int) (h : x = .int i) (q : Q i)
inductive Int2 (x y : V) (Q : Int → Int → Prop) : Prop
  | mk (i j : Int) (h1 : x = .int i) (h2 : y = .int j) (q : Q i j)
inductive Int2C (x y : V) (C : Int → Int → Prop) (Q : Int → Int → Prop) : Prop
  | mk (i j : Int) (h1 : x = .int i) (h2 : y = .int j) (c : C i j) (q : Q i j)
def tVar (i : Nat) : TE := fun σ H Q => HasV σ[i]? fun v => Q v H
def tC (v : V) : TE := fun _ H Q => Q v H
theorem pe_var {i : Nat} {x : Str} {pos : Pos} (hN : X.N[i]? = some x) (hv : Vis X.env.scope x) (hd : (x == ("__debug__" : Str)) = false := by decide) (hcd : (x == ("__classdict__" : Str)) = false := by decide) : PE X (.Name x pos) (tVar i) := by
  intro pins s σ H Q I h
  obtain ⟨v, e, h⟩ := h
  obtain ⟨m, hn, hl⟩ := I.loc
  obtain ⟨u, r, l⟩ := hl i x v hN e hv
  have fin : EP X pins σ Q u s := ⟨v, H, I, r, h⟩
  rcases l with ⟨hk, hm⟩ | ⟨hk, c, hc, hcell⟩
  · exact wpAny_Name (wpAny_loadName_local I.ok.kind hk hn hm fin) hd
  · rcases hk with hk | hk
    · exact wpAny_Name (wpAny_loadName_cell I.ok.kind hk hc hcell fin) hd
    · exact wpAny_Name (wpAny_loadName_free I.ok.kind hk hc hcell fin hcd) hd
theorem pe_int {i j pos} : PE X (.Constant (.int i) j pos) (tC (.int i)) := fun _ _ _ H _ I h => wpAny_Constant_int ⟨.int i, H, I.tok _, ⟨_, rfl⟩, h⟩
theorem pe_bl {b j pos} : PE X (.Constant (.bool b) j pos) (tC (.bl b)) := fun _ _ _ H _ I h => Constant_bool ⟨.bl b, H, I, rfl, h⟩
theorem pe_non {j pos} : PE X (.Constant .none j pos) (tC .non) := fun _ _ _ H _ I h => Constant_none ⟨.non, H, I, rfl, h⟩
theorem pe_str {x j pos} : PE X (.Constant (.str x) j pos) (tC (.str x)) := fun _ _ _ H _ I h => Calls.Constant_str ⟨.str x, H, I.tok _, ⟨_, rfl⟩, h⟩
def Gl (X : Cx) (x : Str) : Prop := X.env.kindOf x = some .globalImplicit
theorem ld_glob {E : Value → Shared → Prop} {pins : List (Addr × Obj)} {s : Shared} {σ : St} {H : Hp} {x : Str} {u : Value} {pos : Pos} {Q : Value → Shared → Prop} (I : Inv X pins σ H s) (hg : Gl X x) (hm : X.mg x = some u) (h : Q u s)
    (hd : (x == ("__debug__" : Str)) = false := by decide) : wpAny (model X.prog X.w) X.A (eval (.Name x pos) X.env) Q E s :=
  Calls.Name_function_global I.ok.kind hg (Calls.loadGlobal_global (by rw [I.ok.glob]; exact I.mod.glob.keeps I.bk) hm h) hd
theorem ld_blt {E : Value → Shared → Prop} {pins : List (Addr × Obj)} {s : Shared} {σ : St} {H : Hp} {x : Str} {u : Value} {pos : Pos} {Q : Value → Shared → Prop} (I : Inv X pins σ H s) (hg : Gl X x) (hm : X.mg x = none) (hv : bootBuiltins x = some u) (h : Q u s)
    (hn : x ≠ "__name__" := by decide) (hd : (x == ("__debug__" : Str)) = false := by decide) : wpAny (model X.prog X.w) X.A (eval (.Name x pos) X.env) Q E s := by
  obtain ⟨mb, h1, h2⟩ := I.mod.blt
  exact Calls.Name_function_global I.ok.kind hg (Calls.loadGlobal_builtin (by rw [I.ok.glob]; exact I.mod.glob.keeps I.bk) hm (by rw [I.ok.blt]; exact h1.keeps I.bk) ((h2 x hn).trans hv) h) hd
theorem pe_bltn {x : Str} {v : V} {u : Value} {pos : Pos} (hg : Gl X x) (hm : X.mg x = none) (hv : bootBuiltins x = some u) (r : RelV v u) (hn : x ≠ "__name__" := by decide) (hd : (x == ("__debug__" : Str)) = false := by decide) : PE X (.Name x pos) (tC v) :=
  fun _ _ _ H _ I h => ld_blt I hg hm hv ⟨v, H, I, r, h⟩ hn hd
variable {a b : Expr} {ta tb : TE} {pos : Pos}
def PC (X : Cx) (op : CmpOp) (a b : Expr) (t : TE) : Prop :=
  ∀ (pins : List (Addr × Obj)) (s : Shared) (σ : St) (H : Hp) (Q : VK), Inv X pins σ H s → t σ H Q →
    wpAny (model X.prog X.w) X.A (eval a X.env) (fun v s₁ => wpAny (model X.prog X.w) X.A (eval b X.env) (fun u s₂ => wpAny (model X.prog X.w) X.A (compareOp op v u) (EP X pins σ Q) X.xe s₂) X.xe s₁) X.xe s
theorem nobehind (b : Expr) {op : CmpOp} (h : op ≠ .In) (h2 : op ≠ .NotIn) : behindInMarks op b = false := by
  have e1 : (op == CmpOp.In) = false := by cases op <;> first | rfl | exact absurd rfl h
  have e2 : (op == CmpOp.NotIn) = false := by cases op <;> first | rfl | exact absurd rfl h2
  cases b <;> simp [behindInMarks, e1, e2]
def tIsN (ta : TE) : TE := fun σ H Q => ta σ H fun x H1 => Q (.bl (decide (x = .non))) H1
def tNotN (ta : TE) : TE := fun σ H Q => ta σ H fun x H1 => Q (.bl (!decide (x = .non))) H1
theorem RelV.none_iff {x : V} {v : Value} (r : RelV x v) : (v == Value.none) = decide (x = .non) := by
  cases x with
  | non => cases r; rfl
  | bl _ => cases r; rfl
  | int _ => obtain ⟨t, rfl⟩ := r; rfl
  | str _ => obtain ⟨t, rfl⟩ := r; rfl
  | byt _ => obtain ⟨t, rfl⟩ := r; rfl
  | flt _ => obtain ⟨t, rfl⟩ := r; rfl
  | ref _ => cases r; rfl
  | ty _ => cases r; rfl
theorem pc_isN {j pos'} (ha : PE X a ta) : PC X .Is a (.Constant .none j pos') (tIsN ta) := by
  intro pins s σ H Q I h
  refine thn (ha pins s σ H _ I h) fun v s1 ⟨x, H1, I1, r1, q1⟩ => ?_
  exact Constant_none (is_none_gen ⟨.bl _, H1, I1, by rw [r1.none_iff]; rfl, q1⟩)
theorem pc_notN {j pos'} (ha : PE X a ta) : PC X .IsNot a (.Constant .none j pos') (tNotN ta) := by
  intro pins s σ H Q I h
  refine thn (ha pins s σ H _ I h) fun v s1 ⟨x, H1, I1, r1, q1⟩ => ?_
  exact Constant_none (isnot_none_gen ⟨.bl _, H1, I1, by rw [r1.none_iff]; rfl, q1⟩)
def tB (t : TE) : TT := fun σ H Q => t σ H fun x H1 => IsBl x fun c => Q c H1
theorem pt_cmp {op : CmpOp} {t : TE} (h : PC X op a b t) (h1 : behindInMarks op b = false := by first | exact nobehind _ (by decide) (by decide) | rfl) : PT X (.Compare a [op] [b] pos) (tB t) := by
  intro pins s σ H Q I hw
  refine wpAny_isTrue_Compare1 (thn (h pins s σ H _ I hw) fun v s1 h1 => thn h1 fun u s2 h2 => thn h2 fun c s3 ⟨x, H1, I1, r1, q1⟩ => ?_) h1
  obtain ⟨d, rfl, q⟩ := q1
  cases r1
  exact wpAny_truthy_bool ⟨H1, I1, q⟩
theorem pt_val {e : Expr} {t : TE} (h : PE X e t) (he : ∀ whole, isTrue e X.env whole = (do let v ← whole; standAt e.pos; holding [v] (truthy v)) := by intro _; rfl) : PT X e (tB t) := by
  intro pins s σ H Q I hw
  refine isTrue_plain (thn (h pins s σ H _ I hw) fun v s1 ⟨x, H1, I1, r1, q1⟩ => ?_) (he _)
  obtain ⟨d, rfl, q⟩ := q1
  cases r1
  exact wpAny_truthy_bool ⟨H1, I1, q⟩
variable {tA tB' : TT} {rest : List Expr}
def tOr (t u : TT) : TT := fun σ H Q => t σ H fun c H1 => if c = true then Q true H1 else u σ H1 Q
def tNot (t : TT) : TT := fun σ H Q => t σ H fun c H1 => Q (!c) H1
theorem pw_or1 (ha : PT X a tA) : PW X (.BoolOp .Or [a] pos) tA := by
  intro wh pins s σ H Q I h
  refine isTrue_or (thn (ha pins s σ H Q I h) fun c s1 e => ?_)
  cases c with
  | false => exact isTrue_or_nil e
  | true => exact e
theorem pw_or (ha : PT X a tA) (hb : PW X (.BoolOp .Or (b :: rest) pos) tB') : PW X (.BoolOp .Or (a :: b :: rest) pos) (tOr tA tB') := by
  intro wh pins s σ H Q I h
  refine isTrue_or (thn (ha pins s σ H _ I h) fun c s1 ⟨H1, I1, q1⟩ => ?_)
  cases c with
  | true => exact ⟨H1, I1, q1⟩
  | false => exact hb wh pins s1 σ H1 Q I1 q1
theorem pt_not (ha : PT X a tA) : PT X (.UnaryOp .Not a pos) (tNot tA) := by
  intro pins s σ H Q I h
  exact isTrue_not (ha pins s σ H (fun c H1 => Q (!c) H1) I h)
def tAndV (ta tb : TE) : TE := fun σ H Q => ta σ H fun x H1 => ∃ c, x = .bl c ∧ if c = true then tb σ H1 Q else Q (.bl false) H1
def tOrV (ta tb : TE) : TE := fun σ H Q => ta σ H fun x H1 => ∃ c, x = .bl c ∧ if c = true then Q (.bl true) H1 else tb σ H1 Q
theorem pe_one {op} {t : TE} (h : PE X a t) : PE X (.BoolOp op [a] pos) t := fun pins s σ H Q I hw => BoolOp_one (h pins s σ H Q I hw)
theorem pe_and (ha : PE X a ta) (hb : PE X (.BoolOp .And (b :: rest) pos) tb) : PE X (.BoolOp .And (a :: b :: rest) pos) (tAndV ta tb) := by
  intro pins s σ H Q I h
  refine BoolOp_and (thn (ha pins s σ H _ I h) fun v s1 ⟨x, H1, I1, r1, q1⟩ => ?_)
  obtain ⟨c, rfl, q1⟩ := q1
  cases r1
  refine wpAny_truthy_bool ?_
  cases c with
  | true => exact hb pins s1 σ H1 Q I1 q1
  | false => exact ⟨.bl false, H1, I1, rfl, q1⟩
theorem pe_or (ha : PE X a ta) (hb : PE X (.BoolOp .Or (b :: rest) pos) tb) : PE X (.BoolOp .Or (a :: b :: rest) pos) (tOrV ta tb) := by
  intro pins s σ H Q I h
  refine BoolOp_or (thn (ha pins s σ H _ I h) fun v s1 ⟨x, H1, I1, r1, q1⟩ => ?_)
  obtain ⟨c, rfl, q1⟩ := q1
  cases r1
  refine wpAny_truthy_bool ?_
  cases c with
  | false => exact hb pins s1 σ H1 Q I1 q1
  | true => exact ⟨.bl true, H1, I1, rfl, q1⟩
end
end L2
namespace L2
open PySem PySem.Spec PyProof.Rows
def SqL (K : PySem.W.Frag) (H : Hp) (a : Addr) (xs : List V) : Prop :=
  Rd H a (.lst xs) ∨
    ∃ (o : Obj) (its : Array Value) (n : Nat), K.lookup a = some o ∧ o.cls = .type "list" ∧ o.dict = none ∧ o.data = .seq its n ∧ its.size ≤ sizeLine ∧ Vals xs its.toList
def SqT (K : PySem.W.Frag) (H : Hp) (a : Addr) (xs : List V) : Prop :=
  Rd H a (.tup xs) ∨
    ∃ (o : Obj) (its : Array Value) (n : Nat), K.lookup a = some o ∧ o.cls = .type "tuple" ∧ o.data = .seq its n ∧ its.size ≤ sizeLine ∧ Vals xs its.toList
def absV : Value → Option V
  | .none => some .non
  | .bool b => some (.bl b)
  | .int i _ => some (.int i)
  | .str x _ => some (.str x)
  | .bytes b _ => some (.byt b)
  | .float b _ => some (.flt b)
  | .ref a => some (.ref a)
  | .type n => some (.ty n)
  | _ => none
theorem RelV.abs {x : V} {u : Value} (r : RelV x u) : absV u = some x := by
  cases x with
  | non => cases r; rfl
  | bl _ => cases r; rfl
  | int _ => obtain ⟨t, rfl⟩ := r; rfl
  | str _ => obtain ⟨t, rfl⟩ := r; rfl
  | byt _ => obtain ⟨t, rfl⟩ := r; rfl
  | flt _ => obtain ⟨t, rfl⟩ := r; rfl
  | ref _ => cases r; rfl
  | ty _ => cases r; rfl
theorem RelV.inj {x y : V} {u : Value} (r : RelV x u) (q : RelV y u) : x = y := Option.some.inj (r.abs.symm.trans q.abs)
theorem Vals.inj : ∀ {xs ys : List V} {us : List Value}, Vals xs us → Vals ys us → xs = ys
  | _, _, _, .nil, .nil => rfl
  | _, _, _, .cons r t, .cons r' t' => by rw [r.inj r', Vals.inj t t']
section
variable {X : Cx} {pins : List (Addr × Obj)} {σ : St} {H : Hp} {s : Shared} {a : Addr} {xs ys : List V}
theorem SqL.of {K : PySem.W.Frag} (h : H a = some (.lst xs)) : SqL K H a xs := .inl (.inl h)
theorem SqT.of {K : PySem.W.Frag} (h : H a = some (.tup xs)) : SqT K H a xs := .inl (.inl h)
theorem Inv.list (I : Inv X pins σ H s) (h : SqL X.K H a xs) : ∃ its : List Value, Vals xs its ∧ PlainL s.heap a its.toArray ∧ xs.length ≤ sizeLine := by
  rcases h with h | ⟨o, its, n, hk, hc, hd, hs, hz, r⟩
  · obtain ⟨z, its, n, r, e⟩ := h.ok I.hok
    exact ⟨its, r, ⟨_, n, e, rfl, rfl, rfl⟩, z⟩
  · refine ⟨its.toList, r, ⟨o, n, I.kIn a o hk, hc, hd, by simpa using hs⟩, ?_⟩
    have e := r.length
    simp only [Array.length_toList] at e
    omega
theorem Inv.tuple (I : Inv X pins σ H s) (h : SqT X.K H a xs) : ∃ its : List Value, Vals xs its ∧ IsTup s.heap a its.toArray ∧ xs.length ≤ sizeLine := by
  rcases h with h | ⟨o, its, n, hk, hc, hs, hz, r⟩
  · obtain ⟨z, its, r, p⟩ := h.ok I.hok
    exact ⟨its, r, p, z⟩
  · refine ⟨its.toList, r, ⟨o, I.kIn a o hk, hc, n, by simpa using hs⟩, ?_⟩
    have e := r.length
    simp only [Array.length_toList] at e
    omega
theorem Inv.list_inj (I : Inv X pins σ H s) (h : SqL X.K H a xs) (h' : SqL X.K H a ys) : xs = ys := by
  obtain ⟨its, r, ⟨o, n, e, _, _, d⟩, _⟩ := I.list h
  obtain ⟨its', r', ⟨o', n', e', _, _, d'⟩, _⟩ := I.list h'
  rw [e] at e'; cases e'
  rw [d] at d'
  injection d' with d1 _
  have : its = its' := by simpa using congrArg Array.toList d1
  subst this
  exact r.inj r'
end
abbrev Cx.wish (X : Cx) (E : Value → Shared → Prop) : Cx := { X with xe := E }
abbrev Cx.nox (X : Cx) : Cx := X.wish fun _ _ => False
theorem Cx.Ok.wish {X : Cx} (ok : X.Ok) (E : Value → Shared → Prop) : (X.wish E).Ok :=
  ⟨ok.mod, ok.kind, ok.glob, ok.blt, ok.above, ok.inj, ok.has, ok.cab, ok.hd, ok.frames, ok.stk, ok.exf, ok.bs, ok.bsz, ok.noex, ok.exfs, ok.funs, ok.frf⟩
theorem Cx.Ok.unwish {X : Cx} {E : Value → Shared → Prop} (ok : (X.wish E).Ok) : X.Ok :=
  ⟨ok.mod, ok.kind, ok.glob, ok.blt, ok.above, ok.inj, ok.has, ok.cab, ok.hd, ok.frames, ok.stk, ok.exf, ok.bs, ok.bsz, ok.noex, ok.exfs, ok.funs, ok.frf⟩
section
variable {X : Cx} {pins : List (Addr × Obj)} {σ : St} {H : Hp} {s : Shared} {E : Value → Shared → Prop}
theorem Inv.wish (I : Inv X pins σ H s) (E : Value → Shared → Prop) : Inv (X.wish E) pins σ H s := ⟨I.ok.wish E, I.os, I.bare, I.base, I.loc, I.cell, I.free, I.freeC, I.pin, I.hok, I.len⟩
theorem Inv.unwish (I : Inv (X.wish E) pins σ H s) : Inv X pins σ H s := ⟨I.ok.unwish, I.os, I.bare, I.base, I.loc, I.cell, I.free, I.freeC, I.pin, I.hok, I.len⟩
theorem SP.unwish {D : Ends} {f : Flow} {s' : Shared} (h : SP (X.wish E) pins D f s') : SP X pins D f s' := by
  cases f with
  | next => obtain ⟨σ', H', I, q⟩ := h; exact ⟨σ', H', I.unwish, q⟩
  | brk => obtain ⟨σ', H', I, q⟩ := h; exact ⟨σ', H', I.unwish, q⟩
  | cont => obtain ⟨σ', H', I, q⟩ := h; exact ⟨σ', H', I.unwish, q⟩
  | ret u => obtain ⟨v, σ', H', I, r, q⟩ := h; exact ⟨v, σ', H', I.unwish, r, q⟩
theorem PSs.nox {st : List Stmt} {t : TS} (h : PSs X.nox st t) : PSs X st t := fun pins s σ H D I hw =>
  wpAny_mono (h pins s σ H D (I.wish _) hw) (fun _ _ q => q.unwish) fun _ _ z => False.elim z
end
section
variable {X : Cx} {st : Stmt} {rest : List Stmt} {t u : TS} {e : Expr} {te : TE} {pos : Pos}
def tNext : TS := fun D σ H => D.nx σ H
def tSeq (t u : TS) : TS := fun D σ H => t (D.to (u D)) σ H
theorem pss_nil : PSs X [] tNext := fun _ _ σ H _ I h => wpAny_execs_nil ⟨σ, H, I, h⟩
theorem pss_cons (h1 : PS X st t) (h2 : PSs X rest u) : PSs X (st :: rest) (tSeq t u) := by
  intro pins s σ H D I h
  refine wpAny_execs_cons (thn (h1 pins s σ H (D.to (u D)) I h) fun f s1 q => ?_)
  cases f with
  | next =>
    obtain ⟨σ', H', I', q⟩ := q
    exact h2 pins s1 σ' H' D I' q
  | ret v => exact q
  | brk => exact q
  | cont => exact q
theorem pss_one (h1 : PS X st t) : PSs X [st] t := by
  intro pins s σ H D I h
  refine wpAny_execs_cons (thn (h1 pins s σ H D I h) fun f s1 q => ?_)
  cases f with
  | next => exact wpAny_execs_nil q
  | ret v => exact q
  | brk => exact q
  | cont => exact q
theorem Inv.quiet {pins : List (Addr × Obj)} {σ : St} {H : Hp} {s : Shared} (I : Inv X pins σ H s) : interactive X.env = false := by simp [interactive, I.ok.kind]
def tDrop (te : TE) : TS := fun D σ H => te σ H fun _ H1 => D.nx σ H1
theorem ps_expr (he : PE X e te) (hs : swapsWith e none pos.line X.env = pure false := by rfl) : PS X (.Expr e pos) (tDrop te) := by
  intro pins s σ H D I h
  exact wpAny_Expr_any (thn (he pins s σ H _ I h) fun v s1 ⟨x, H1, I1, r1, q1⟩ => ⟨σ, H1, I1, q1⟩) I.quiet hs
def tRet (te : TE) : TS := fun D σ H => te σ H D.rt
theorem ps_ret (he : PE X e te) : PS X (.Return (some e) pos) (tRet te) := by
  intro pins s σ H D I h
  exact wpAny_Return_some (thn (he pins s σ H _ I h) fun v s1 ⟨x, H1, I1, r1, q1⟩ => ⟨x, σ, H1, I1, r1, q1⟩)
def tIfS (c : TT) (t u : TS) : TS := fun D σ H => c σ H fun b H1 => if b = true then t D σ H1 else u D σ H1
theorem ps_if {c : Expr} {a b : List Stmt} {tc : TT} (hc : PT X c tc) (ha : PSs X a t) (hb : PSs X b u) : PS X (.If c a b pos) (tIfS tc t u) := by
  intro pins s σ H D I h
  refine wpAny_If (thn (hc pins s σ H _ I h) fun d s1 ⟨H1, I1, q1⟩ => ?_)
  cases d with
  | true => exact ha pins s1 σ H1 D I1 q1
  | false => exact hb pins s1 σ H1 D I1 q1
end
abbrev TG := V → St → Hp → (St → Hp → Prop) → Prop
abbrev TGs := List V → St → Hp → (St → Hp → Prop) → Prop
def PG (X : Cx) (target : Expr) (t : TG) : Prop :=
  ∀ (pins : List (Addr × Obj)) (s : Shared) (σ : St) (H : Hp) (v : V) (u : Value) (Q : St → Hp → Prop), Inv X pins σ H s → RelV v u → t v σ H Q →
    wpAny (model X.prog X.w) X.A (assign target X.env u) (fun _ s' => ∃ σ' H', Inv X pins σ' H' s' ∧ Q σ' H') X.xe s
def PGs (X : Cx) (ts : List Expr) (t : TGs) : Prop :=
  ∀ (pins : List (Addr × Obj)) (s : Shared) (σ : St) (H : Hp) (vs : List V) (us : List Value) (Q : St → Hp → Prop), Inv X pins σ H s → Vals vs us → t vs σ H Q →
    wpAny (model X.prog X.w) X.A (assignInOrder ((assignEach ts X.env).map (·.2)) us) (fun _ s' => ∃ σ' H', Inv X pins σ' H' s' ∧ Q σ' H') X.xe s
abbrev TSet := V → V → V → Hp → (Hp → Prop) → Prop
def PSet (X : Cx) (t : TSet) : Prop :=
  ∀ (pins : List (Addr × Obj)) (s : Shared) (σ : St) (H : Hp) (o i v : V) (ov iv u : Value) (Q : Hp → Prop), Inv X pins σ H s → RelV o ov → RelV i iv → RelV v u → t o i v H Q →
    wpAny (model X.prog X.w) X.A (setItem ov iv u) (fun _ s' => ∃ H', Inv X pins σ H' s' ∧ Q H') X.xe s
abbrev TIp := V → V → Hp → VK → Prop
section
variable {X : Cx} {pos : Pos}
def gName (i : Nat) : TG := fun v σ H Q => Q (σ.set i (some v)) H
theorem pg_name {i : Nat} {x : Str} (hN : X.N.Nodup) (hi : X.N[i]? = some x) (hx : Loc X.env.scope x) (hf : X.fn x = true ∨ X.env.scope.names.lookup x = some .local := by first | exact .inl rfl | exact .inr rfl | assumption) : PG X (.Name x pos) (gName i) := by
  intro pins s σ H v u Q I r h
  exact wpAny_assign_Name (store_ok I hN hi hx r (fun s' I' => ⟨_, H, I', h⟩) hf)
structure I_gNil  (vs : List V) (σ : St) (H : Hp) (Q : St → Hp → Prop) : Prop where
  mk :: (q1 : vs = []) (q2 : Q σ H)
def gNil : TGs := fun vs σ H Q => I_gNil  vs σ H Q
inductive I_gCons (t : TG) (u : TGs) (vs : List V) (σ : St) (H : Hp) (Q : St → Hp → Prop) : Prop
  | mk (v : _) (r : _) (q1 : vs = v :: r) (q2 : t v σ H fun σ' H' => u r σ' H' Q)
def gCons (t : TG) (u : TGs) : TGs := fun vs σ H Q => I_gCons t u vs σ H Q
theorem pgs_nil : PGs X [] gNil := by
  intro pins s σ H vs us Q I r h
  obtain ⟨e, h⟩ := h
  subst e
  cases r
  exact assignInOrder_nil ⟨σ, H, I, h⟩
theorem pgs_cons {e : Expr} {es : List Expr} {t : TG} {u : TGs} (h1 : PG X e t) (h2 : PGs X es u)
    (hs : (assignEach (e :: es) X.env).map (·.2) = assign e X.env :: (assignEach es X.env).map (·.2) := by rfl) : PGs X (e :: es) (gCons t u) := by
  intro pins s σ H vs us Q I r h
  obtain ⟨v, vr, e1, h⟩ := h
  subst e1
  cases r with
  | cons r rr =>
    rw [hs]
    refine assignInOrder_cons (thn (h1 pins s σ H _ _ _ I r h) fun _ s1 ⟨σ1, H1, I1, q1⟩ => ?_)
    exact h2 pins s1 σ1 H1 _ _ Q I1 rr q1
inductive Tupd (K : PySem.W.Frag) (H : Hp) (v : V) (n : Nat) (Q : List V → Prop) : Prop
  | mk (a : Addr) (xs : List V) (h : v = .ref a) (s : SqT K H a xs) (l : xs.length = n) (q : Q xs)
def gTup (K : PySem.W.Frag) (n : Nat) (t : TGs) : TG := fun v σ H Q => Tupd K H v n fun xs => t xs σ H Q
theorem pg_tup {es : List Expr} {k : Nat} {t : TGs} {n : Nat} (hc : X.calm = true) (h : PGs X es t)
    (hn : (assignEach es X.env).length = n := by rfl) (hst : (assignEach es X.env).findIdx? (·.1) = none := by rfl) : PG X (.Tuple es k pos) (gTup X.K n t) := by
  intro pins s σ H v u Q I r hw
  obtain ⟨a, xs, e1, hq, hl, hw⟩ := hw
  subst e1
  cases r
  obtain ⟨its, rv, ht, hz⟩ := I.tuple hq
  refine assign_Tuple_tuple (I.ok.hd hc) ht (by simp [hn, ← hl, rv.length]) hst fun h' hx => ?_
  have I1 : Inv X pins σ H { s with heap := h' } := I.kept (t' := s.toks) fun b o e => hx b o (Nat.ne_of_lt (Heap.lt_size e)) e
  exact h pins _ σ H xs _ Q I1 (by simpa using rv) hw
def gSub (to ti : TE) (t : TSet) : TG := fun v σ H Q => to σ H fun o H1 => ti σ H1 fun i H2 => t o i v H2 fun H3 => Q σ H3
theorem pg_sub {o i : Expr} {to ti : TE} {t : TSet} (ho : PE X o to) (hi : PE X i ti) (hs : PSet X t)
    (ha : ∀ v, assign (.Subscript o i pos) X.env v = (do
      let ov ← holding [v] (eval o X.env)
      let iv ← holding [v, ov] (eval i X.env)
      standAt pos
      holding [v, ov, iv] (setItem ov iv v)
      release [v, ov, iv] []) := by intro _; rfl) : PG X (.Subscript o i pos) (gSub to ti t) := by
  intro pins s σ H v u Q I r h
  rw [ha]
  refine wpAny_bind (wpAny_holding (thn (ho pins s σ H _ I h) fun ov s1 ⟨x, H1, I1, r1, q1⟩ => ?_))
  refine wpAny_bind (wpAny_holding (thn (hi pins s1 σ H1 _ I1 q1) fun iv s2 ⟨y, H2, I2, r2, q2⟩ => ?_))
  refine wpAny_bind (wpAny_standAt (wpAny_bind (wpAny_holding (thn (hs pins s2 σ H2 x y v ov iv u _ I2 r1 r2 r q2) fun _ s3 ⟨H3, I3, q3⟩ => ?_))))
  exact wpAny_release ⟨σ, H3, I3, q3⟩
def tAsg (te : TE) (g : TG) : TS := fun D σ H => te σ H fun x H1 => g x σ H1 D.nx
theorem ps_asg {tg e : Expr} {te : TE} {g : TG} (he : PE X e te) (hg : PG X tg g) (hs : swapsWithSole [tg] e pos.line X.env = pure false := by rfl) (hw : swappedStores [tg] e X.env = pure none := by rfl)
    (h1 : (assignEach [tg] X.env).map (·.2) = [assign tg X.env] := by rfl) : PS X (.Assign [tg] e pos) (tAsg te g) := by
  intro pins s σ H D I h
  refine wpAny_Assign_stores (thn (he pins s σ H _ I h) fun v s1 ⟨x, H1, I1, r1, q1⟩ => ?_) hs hw
  rw [h1]
  exact thn (hg pins s1 σ H1 x v _ I1 r1 q1) fun _ s2 q => q
theorem ps_set {i : Nat} {x : Str} {e : Expr} {te : TE} {pos' : Pos} (hN : X.N.Nodup) (hi : X.N[i]? = some x) (hx : Loc X.env.scope x) (he : PE X e te) (hs : swapsWith e (some (.Name x pos')) pos.line X.env = pure false := by rfl) (hf : X.fn x = true ∨ X.env.scope.names.lookup x = some .local := by first | exact .inl rfl | exact .inr rfl | assumption) :
    PS X (.Assign [.Name x pos'] e pos) (tAsg te (gName i)) := by
  intro pins s σ H D I h
  refine wpAny_Assign_Name (thn (he pins s σ H _ I h) fun v s1 ⟨y, H1, I1, r1, q1⟩ => ?_) hs
  exact store_ok I1 hN hi hx r1 (fun s2 I2 => ⟨_, H1, I2, q1⟩) hf
inductive I_tPar (i : Nat) (j : Nat) (D : Ends) (σ : St) (vs : List V) (H1 : Hp) : Prop
  | mk (v : _) (w : _) (q1 : vs = [v, w]) (q2 : D.nx ((σ.set i (some v)).set j (some w)) H1)
inductive I_tAug (i : Nat) (te : TE) (ti : TIp) (D : Ends) (σ : St) (H : Hp) : Prop
  | mk (x : _) (q1 : σ[i]? = some (some x)) (q2 : te σ H fun y H1 => ti x y H1 fun z H2 => D.nx (σ.set i (some z)) H2)
inductive I_ipI (f : Int → Int → Int) (x : V) (y : V) (H : Hp) (Q : VK) : Prop
  | mk (i : _) (j : _) (q1 : x = .int i) (q2 : y = .int j) (q3 : Q (.int (f i j)) H)
end
section
variable {X : Cx} {pos : Pos}
def tWhile (c : TT) (tb : TS) : TS := fun D σ H => ∃ W : Nat → St → Hp → Prop, (∃ m, W m σ H) ∧ ∀ m σ H, W m σ H →
  c σ H fun b H1 => if b = true then ∃ N : St → Hp → Prop, (∀ σ' H', N σ' H' → ∃ m', m' < m ∧ W m' σ' H') ∧ tb (D.loop N) σ H1 else D.nx σ H1
theorem ps_while {c : Expr} {body : List Stmt} {tc : TT} {tb : TS} (hp : PassesOwn (model X.prog X.w) X.A X.env X.xe) (hc : PT X c tc) (hb : PSs X body tb) : PS X (.While c body [] pos) (tWhile tc tb) := by
  intro pins s σ H D I h
  obtain ⟨W, ⟨m0, w0⟩, turn⟩ := h
  refine wpAny_While (codeAny_whileLoop (fun n s' => ∃ σ' H', Inv X pins σ' H' s' ∧ W n σ' H') ?_ m0 ⟨σ, H, I, w0⟩)
  rintro n s1 ⟨σ1, H1, I1, w1⟩
  refine wpAny_passesOwn hp (thn (hc pins s1 σ1 H1 _ I1 (turn n σ1 H1 w1)) fun b s2 ⟨H2, I2, q2⟩ => ?_)
  cases b with
  | true =>
    obtain ⟨N, hN, q2⟩ := q2
    rw [if_pos rfl]
    refine wpAny_passesOwn hp (thn (hb pins s2 σ1 H2 _ I2 q2) fun f s3 q3 => ?_)
    cases f with
    | next =>
      obtain ⟨σ3, H3, I3, n3⟩ := q3
      obtain ⟨m', hm, w3⟩ := hN σ3 H3 n3
      exact ⟨m', hm, σ3, H3, I3, w3⟩
    | cont =>
      obtain ⟨σ3, H3, I3, n3⟩ := q3
      obtain ⟨m', hm, w3⟩ := hN σ3 H3 n3
      exact ⟨m', hm, σ3, H3, I3, w3⟩
    | brk => exact q3
    | ret v => exact q3
  | false =>
    rw [if_neg Bool.false_ne_true]
    exact wpAny_execs_nil ⟨σ1, H2, I2, q2⟩
end
structure It where
  go : Nat → Hp → Prop
  yld : Nat → Hp → V → Hp → Prop
  stop : Nat → Hp → Prop
def FpOk (X : Cx) (pins : List (Addr × Obj)) (H : Hp) (b : Addr) : Prop :=
  H b = none ∧ b ≠ X.env.locals ∧ b ∉ X.fs ∧ (b ∈ X.ex ∨ X.s₀.heap.objs.size ≤ b) ∧ (∀ x c, X.env.cells.lookup x = some c → c ≠ b) ∧ ∀ p ∈ X.pn ++ pins, p.1 ≠ b
theorem Inv.fpOk {X : Cx} {pins : List (Addr × Obj)} {σ : St} {H H' : Hp} {s : Shared} {b : Addr} (I : Inv X pins σ H s) (hb : s.heap.objs.size ≤ b) (hn : H' b = none) : FpOk X pins H' b := by
  refine ⟨hn, Nat.ne_of_gt (Nat.lt_of_lt_of_le I.lt hb), I.nofs hb, .inr (Nat.le_trans I.sz hb), fun x c e z => ?_, fun p hp z => ?_⟩
  · obtain ⟨v, q⟩ := I.cell x c e
    exact absurd (Nat.lt_of_lt_of_le q.lt (by rw [z]; exact hb)) (Nat.lt_irrefl _)
  · exact absurd (Nat.lt_of_lt_of_le (Heap.lt_size (I.pin p hp).1) (by rw [z]; exact hb)) (Nat.lt_irrefl _)
structure Turn (P : Program) (w : World) (K : PySem.W.Frag) (tg : Expr) (J : It) (fp : List Addr) (it : Addr) (tn : Nat → Heap → Prop) : Prop where
  mem : it ∈ fp
  obj : ∀ i h, tn i h → ∀ b ∈ fp, ∃ o, h.get? b = some o ∧ ∀ v, o.data ≠ .cell v
  keep : ∀ i h h', tn i h → (∀ b ∈ fp, ∀ o, h.get? b = some o → h'.get? b = some o) → tn i h'
  item : ∀ (X : Cx), X.prog = P → X.w = w → X.K = K → X.calm = true → ∀ (i : Nat) (pins : List (Addr × Obj)) (s : Shared) (σ : St) (H : Hp) (E : Value → Shared → Prop), Inv X pins σ H s → (∀ b ∈ fp, FpOk X pins H b) → tn i s.heap → J.go i H →
    wpAny (model P w) X.A (pyNext (.ref it)) (fun r s1 => ∃ u, r = some u ∧
      wpAny (model P w) X.A (letOwnedTupleGo tg (.ref it) u) (fun _ s2 => ∃ x H', Inv X pins σ H' s2 ∧ RelV x u ∧ J.yld i H x H' ∧ tn (i + 1) s2.heap ∧ ∀ b ∈ fp, H' b = none) E s1) E s
  done : ∀ (X : Cx), X.prog = P → X.w = w → X.K = K → X.calm = true → ∀ (i : Nat) (pins : List (Addr × Obj)) (s : Shared) (σ : St) (H : Hp) (E : Value → Shared → Prop), Inv X pins σ H s → (∀ b ∈ fp, FpOk X pins H b) → tn i s.heap → J.stop i H →
    wpAny (model P w) X.A (pyNext (.ref it)) (fun r s1 => r = none ∧ Inv X pins σ H s1) E s
  self : ∀ (A : Around) (i : Nat) (s : Shared) (Q : Value → Shared → Prop) (E : Value → Shared → Prop), tn i s.heap → Q (.ref it) s → wpAny (model P w) A (pyIter (.ref it)) Q E s
abbrev TI := St → Hp → (It → Hp → Prop) → Prop
def PIE (X : Cx) (pins : List (Addr × Obj)) (σ : St) (tg : Expr) (R : It → Hp → Prop) (itv : Value) (s2 : Shared) : Prop :=
  ∃ (it : Addr) (fp : List Addr) (tn : Nat → Heap → Prop) (J : It) (H' : Hp), itv = .ref it ∧ Inv X pins σ H' s2 ∧ Turn X.prog X.w X.K tg J fp it tn ∧ tn 0 s2.heap ∧ (∀ b ∈ fp, FpOk X pins H' b) ∧ R J H'
def PI (X : Cx) (tg iter : Expr) (wi : TI) : Prop :=
  ∀ (pins : List (Addr × Obj)) (s : Shared) (σ : St) (H : Hp) (R : It → Hp → Prop), Inv X pins σ H s → wi σ H R →
    wpAny (model X.prog X.w) X.A (eval iter X.env) (fun v s1 => wpAny (model X.prog X.w) X.A (pyIter v) (PIE X pins σ tg R) X.xe s1) X.xe s
theorem go_of {M : Model} {A : Around} {E : Value → Shared → Prop} {s : Shared} {tg : Expr} {it : Addr} {u : Value} {o : Obj} {n : String} {vs : Array Value} {Q : Unit → Shared → Prop} (ho : s.heap.get? it = some o) (hc : o.cls = .type n) (hd : o.data = .fields vs)
    (hn : ["enumerate", "zip", "dict_itemiterator", "dict_reverseitemiterator", "odict_iterator", "itertools.zip_longest", "itertools.pairwise"].contains n = false) (hQ : Q () s) : wpAny M A (letOwnedTupleGo tg (.ref it) u) Q E s := by
  unfold letOwnedTupleGo
  cases tg <;> first
    | exact wpAny_pure hQ
    | (cases u <;> first
        | exact wpAny_pure hQ
        | (refine wpAny_bind (wpAny_load ho ?_)
           rw [hc, hd]
           show wpAny M A (if (["enumerate", "zip", "dict_itemiterator", "dict_reverseitemiterator", "odict_iterator", "itertools.zip_longest", "itertools.pairwise"].contains n && vs[0]? == some (rawInt _)) = true then _ else _) Q E s
           rw [if_neg (by intro h; rw [hn, Bool.false_and] at h; cases h)]
           exact wpAny_pure hQ))
def Itl (K : PySem.W.Frag) (a : Addr) : It :=
  ⟨fun i H => ∃ xs x, SqL K H a xs ∧ xs[i]? = some x, fun i H x H' => H' = H ∧ ∀ xs, SqL K H a xs → xs[i]? = some x, fun i H => ∃ xs, SqL K H a xs ∧ xs.length ≤ i⟩
def Itt (K : PySem.W.Frag) (a : Addr) : It :=
  ⟨fun i H => ∃ xs x, SqT K H a xs ∧ xs[i]? = some x, fun i H x H' => H' = H ∧ ∀ xs, SqT K H a xs → xs[i]? = some x, fun i H => ∃ xs, SqT K H a xs ∧ xs.length ≤ i⟩
def Itr (lo : Int) (n : Nat) : It := ⟨fun i _ => i < n, fun i H x H' => H' = H ∧ x = .int (lo + i), fun i _ => n ≤ i⟩
theorem turn_list {P : Program} {w : World} {K : PySem.W.Frag} {tg : Expr} (a it : Addr) : Turn P w K tg (Itl K a) [it] it (fun i h => h.IsListIter it a i) where
  mem := by simp
  obj := fun i h st b hb => by
    have e : b = it := by simpa using hb
    subst e
    obtain ⟨o, e, c, d⟩ := st
    exact ⟨o, e, fun v z => by rw [d] at z; cases z⟩
  keep := fun i h h' st k => st.at fun o e => k it (by simp) o e
  item := by
    intro X hP hw hK hc i pins s σ H E I hf st hg
    subst hP hw hK
    obtain ⟨xs, x, hq, hx⟩ := hg
    obtain ⟨its, rv, p, hz⟩ := I.list hq
    obtain ⟨u, hu, ru⟩ := rv.get hx
    obtain ⟨f0, f1, f2, f3, f4, f5⟩ := hf it (by simp)
    refine wpAny_pyNext_list_item st p.isList (x := u) (by simpa using hu) fun h' st' sb => ?_
    have I1 : Inv X pins σ H { s with heap := h' } := I.turned (t' := s.toks) (fun b o hb e => (sb.2 b hb).trans e) f0 f1 f3 f4 f5
    obtain ⟨o, e, c, d⟩ := id st'
    exact ⟨u, rfl, go_of (s := { s with heap := h' }) e c d (by decide) ⟨x, H, I1, ru, ⟨rfl, fun ys hy => by rw [I.list_inj hy hq]; exact hx⟩, st', fun b hb => (hf b hb).1⟩⟩
  done := by
    intro X hP hw hK hc i pins s σ H E I hf st hg
    subst hP hw hK
    obtain ⟨xs, hq, hx⟩ := hg
    obtain ⟨its, rv, p, hz⟩ := I.list hq
    obtain ⟨f0, f1, f2, f3, f4, f5⟩ := hf it (by simp)
    have hl := rv.length
    exact wpAny_pyNext_list_end (I.ok.hd hc) st p.isList (by simp; omega) fun h' eb => ⟨rfl, I.turned (t' := s.toks) (fun b o hb e => eb b o hb e) f0 f1 f3 f4 f5⟩
  self := fun _ _ _ _ _ st h => wpAny_pyIter_listiter st h
end L2
namespace L2
open PySem PySem.Spec PyProof.Rows
section
variable {X : Cx} {tg : Expr}
inductive I_iList (K : PySem.W.Frag) (x : V) (H1 : Hp) (R : It → Hp → Prop) : Prop
  | mk (a : _) (q1 : x = .ref a) (q2 : (∃ xs, SqL K H1 a xs)) (q3 : R (Itl K a) H1)
def iList (K : PySem.W.Frag) (tl : TE) : TI := fun σ H R => tl σ H fun x H1 => I_iList K x H1 R
inductive I_iTup (K : PySem.W.Frag) (x : V) (H1 : Hp) (R : It → Hp → Prop) : Prop
  | mk (a : _) (q1 : x = .ref a) (q2 : (∃ xs, SqT K H1 a xs)) (q3 : R (Itt K a) H1)
theorem pi_list {l : Expr} {tl : TE} (hl : PE X l tl) : PI X tg l (iList X.K tl) := by
  intro pins s σ H R I h
  refine thn (hl pins s σ H _ I h) fun v s1 ⟨x, H1, I1, r1, q1⟩ => ?_
  obtain ⟨a, e, ⟨xs, hq⟩, q⟩ := q1
  subst e
  cases r1
  obtain ⟨its, rv, p, hz⟩ := I1.list hq
  refine wpAny_pyIter_list p.isList ?_
  refine ⟨s1.heap.objs.size, [s1.heap.objs.size], _, _, H1, rfl, I1.kept (t' := s1.toks) fun b o e => Heap.get?_push_of_some _ e, turn_list a _, ⟨_, Heap.get?_push_size _ rfl, rfl, rfl⟩, fun b hb => ?_, q⟩
  have e : b = s1.heap.objs.size := by simpa using hb
  subst e
  exact I1.fpOk (Nat.le_refl _) (I1.hok.fresh (Nat.le_refl _))
inductive I_iRng1 (vs : List V) (H1 : Hp) (R : It → Hp → Prop) : Prop
  | mk (j : Int) (q1 : vs = [.int j]) (q2 : -(2 ^ 62) ≤ j) (q3 : j < 2 ^ 62) (q4 : R (Itr 0 j.toNat) H1)
inductive I_iRng2 (vs : List V) (H1 : Hp) (R : It → Hp → Prop) : Prop
  | mk (i j : Int) (q1 : vs = [.int i, .int j]) (q2 : (-(2 ^ 62) ≤ i ∧ i < 2 ^ 62 ∧ -(2 ^ 62) ≤ j ∧ j < 2 ^ 62)) (q3 : R (Itr i (j - i).toNat) H1)
def ForP (J : It) (g : TG) (tb : TS) (D : Ends) (σ : St) (H1 : Hp) : Prop := ∃ W : Nat → Nat → St → Hp → Prop, (∃ m, W 0 m σ H1) ∧ ∀ i m σ H, W i m σ H →
  (J.stop i H ∧ D.nx σ H) ∨ (J.go i H ∧ ∃ N : St → Hp → Prop, (∀ σ' H', N σ' H' → ∃ m', m' < m ∧ W (i + 1) m' σ' H') ∧ ∀ x H', J.yld i H x H' → g x σ H' fun σ2 H2 => tb (D.loop N) σ2 H2)
def tFor (wi : TI) (g : TG) (tb : TS) : TS := fun D σ H => wi σ H fun J H1 => ForP J g tb D σ H1
def pinsAt (fp : List Addr) (h : Heap) : List (Addr × Obj) := fp.filterMap fun b => (h.get? b).map fun o => (b, o)
theorem mem_pinsAt {fp : List Addr} {h : Heap} {b : Addr} {o : Obj} (hb : b ∈ fp) (e : h.get? b = some o) : (b, o) ∈ pinsAt fp h := List.mem_filterMap.mpr ⟨b, hb, by rw [e]; rfl⟩
theorem of_pinsAt {fp : List Addr} {h : Heap} {p : Addr × Obj} (hp : p ∈ pinsAt fp h) : p.1 ∈ fp ∧ h.get? p.1 = some p.2 := by
  obtain ⟨b, hb, e⟩ := List.mem_filterMap.mp hp
  cases q : h.get? b with
  | none => rw [q] at e; cases e
  | some o =>
    rw [q] at e
    have e' : (b, o) = p := Option.some.inj e
    subst e'
    exact ⟨hb, q⟩
theorem Inv.pinned {pins : List (Addr × Obj)} {σ : St} {H : Hp} {s : Shared} {fp : List Addr} (I : Inv X pins σ H s) (hf : ∀ b ∈ fp, FpOk X pins H b) (ho : ∀ b ∈ fp, ∃ o, s.heap.get? b = some o ∧ ∀ v, o.data ≠ .cell v) : Inv X (pins ++ pinsAt fp s.heap) σ H s :=
  I.pins_of fun p hp => (List.mem_append.mp hp).elim (fun z => I.pin p (List.mem_append_right _ z)) fun z => by
    obtain ⟨hb, e⟩ := of_pinsAt z
    obtain ⟨f0, f1, f2, _⟩ := hf p.1 hb
    obtain ⟨o, e', d⟩ := ho p.1 hb
    rw [e] at e'; cases e'
    exact ⟨e, f0, f1, f2, d⟩
theorem Inv.unpinned {pins pl : List (Addr × Obj)} {σ : St} {H : Hp} {s : Shared} (I : Inv X (pins ++ pl) σ H s) : Inv X pins σ H s := I.pins_of fun p hp => I.pin p (List.mem_append_right _ (List.mem_append_left _ hp))
theorem ps_for {iter : Expr} {body : List Stmt} {wi : TI} {g : TG} {tb : TS} {pos : Pos} (hp : PassesOwn (model X.prog X.w) X.A X.env X.xe) (hc : X.calm = true) (hi : PI X tg iter wi) (hg : PG X tg g) (hb : PSs X body tb)
    (hs : ∀ x, foldedSetIterable iter X.env x = pure x := by intro _; rfl) : PS X (.For tg iter body [] pos) (tFor wi g tb) := by
  intro pins s σ H D I h
  refine wpAny_For (thn (hi pins s σ H _ I h) fun v s1 h1 => thn h1 fun itv s2 h2 => ?_) hs
  obtain ⟨it, fp, tn, J, H2, e, I2, T, st2, f2, W, ⟨m0, w0⟩, turn⟩ := h2
  subst e
  have stat : ∀ {H' : Hp}, (∀ b ∈ fp, H' b = none) → ∀ b ∈ fp, FpOk X pins H' b := fun hn b hb => ⟨hn b hb, (f2 b hb).2⟩
  refine codeAny_forLoop_any (fun n s' => ∃ i σ' H', Inv X pins σ' H' s' ∧ tn i s'.heap ∧ (∀ b ∈ fp, H' b = none) ∧ W i n σ' H') ?_ m0 ⟨0, σ, H2, I2, st2, fun b hb => (f2 b hb).1, w0⟩
  rintro n s3 ⟨i, σ3, H3, I3, st3, fr3, w3⟩
  rcases turn i n σ3 H3 w3 with ⟨stop, qn⟩ | ⟨go, N, hN, step⟩
  · refine wpAny_passesOwn hp (thn (T.done X rfl rfl rfl hc i pins s3 σ3 H3 X.xe I3 (stat fr3) st3 stop) fun r s4 ⟨hr, I4⟩ => ?_)
    subst hr
    exact wpAny_execs_nil ⟨σ3, H3, I4, qn⟩
  · refine wpAny_passesOwn hp (thn (T.item X rfl rfl rfl hc i pins s3 σ3 H3 X.xe I3 (stat fr3) st3 go) fun r s4 ⟨u, hr, h4⟩ => ?_)
    subst hr
    refine wpAny_passesOwn hp (thn h4 fun _ s5 ⟨x, H5, I5, r5, y5, st5, fr5⟩ => ?_)
    have I5' := I5.pinned (stat fr5) (T.obj _ _ st5)
    refine wpAny_passesOwn hp (thn (hg _ s5 σ3 H5 x u _ I5' r5 (step x H5 y5)) fun _ s6 ⟨σ6, H6, I6, q6⟩ => ?_)
    refine wpAny_passesOwn hp (thn (hb _ s6 σ6 H6 _ I6 q6) fun f s7 q7 => ?_)
    have again : ∀ {σ7 : St} {H7 : Hp}, Inv X (pins ++ pinsAt fp s5.heap) σ7 H7 s7 → N σ7 H7 → ∃ m, m < n ∧ ∃ i σ' H', Inv X pins σ' H' s7 ∧ tn i s7.heap ∧ (∀ b ∈ fp, H' b = none) ∧ W i m σ' H' := fun {σ7 H7} I7 n7 => by
      obtain ⟨m', hm, w7⟩ := hN σ7 H7 n7
      refine ⟨m', hm, i + 1, σ7, H7, I7.unpinned, T.keep _ _ _ st5 fun b hb o e => (I7.pin (b, o) (List.mem_append_right _ (List.mem_append_right _ (mem_pinsAt hb e)))).1, fun b hb => ?_, w7⟩
      obtain ⟨o, e, d⟩ := T.obj _ _ st5 b hb
      exact (I7.pin (b, o) (List.mem_append_right _ (List.mem_append_right _ (mem_pinsAt hb e)))).2.1
    cases f with
    | next => obtain ⟨σ7, H7, I7, n7⟩ := q7; exact again I7 n7
    | cont => obtain ⟨σ7, H7, I7, n7⟩ := q7; exact again I7 n7
    | brk => obtain ⟨σ7, H7, I7, q7⟩ := q7; exact ⟨σ7, H7, I7.unpinned, q7⟩
    | ret v => obtain ⟨x7, σ7, H7, I7, r7, q7⟩ := q7; exact ⟨x7, σ7, H7, I7.unpinned, r7, q7⟩
end
theorem for_list {K : PySem.W.Frag} {a : Addr} {xs : List V} {g : TG} {tb : TS} {D : Ends} {σ : St} {H : Hp} (Pv : Nat → St → Hp → Prop) (h0 : Pv 0 σ H) (hl : ∀ i σ H, i ≤ xs.length → Pv i σ H → SqL K H a xs)
    (hs : ∀ i x σ H, xs[i]? = some x → Pv i σ H → g x σ H fun σ2 H2 => tb (D.loop (Pv (i + 1))) σ2 H2) (hd : ∀ σ H, Pv xs.length σ H → D.nx σ H) :
    ForP (Itl K a) g tb D σ H := by
  refine ⟨fun i m σ H => m = xs.length - i ∧ i ≤ xs.length ∧ Pv i σ H, ⟨xs.length, by simp, Nat.zero_le _, h0⟩, ?_⟩
  rintro i m σ H ⟨rfl, hi, p⟩
  have q := hl i σ H hi p
  by_cases hlt : i < xs.length
  · refine .inr ⟨⟨xs, xs[i], q, by simp [hlt]⟩, Pv (i + 1), fun σ' H' p' => ⟨xs.length - (i + 1), by omega, rfl, hlt, p'⟩, fun x H' y => ?_⟩
    obtain ⟨e, y⟩ := y
    subst e
    exact hs i x σ _ (y xs q) p
  · have e : i = xs.length := by omega
    subst e
    exact .inl ⟨⟨xs, q, Nat.le_refl _⟩, hd σ H p⟩
end L2
namespace L2
open PySem PySem.Spec PyProof.Rows
abbrev R2 := V → V → Hp → VK → Prop
def OpR (X : Cx) (f : Value → Value → Sem Value) (r : R2) : Prop :=
  ∀ (pins : List (Addr × Obj)) (s : Shared) (σ : St) (H : Hp) (x y : V) (v u : Value) (Q : VK), Inv X pins σ H s → RelV x v → RelV y u → r x y H Q →
    wpAny (model X.prog X.w) X.A (f v u) (EP X pins σ Q) X.xe s
def UnR (X : Cx) (f : Value → Sem Value) (r : V → Hp → VK → Prop) : Prop :=
  ∀ (pins : List (Addr × Obj)) (s : Shared) (σ : St) (H : Hp) (x : V) (v : Value) (Q : VK), Inv X pins σ H s → RelV x v → r x H Q →
    wpAny (model X.prog X.w) X.A (f v) (EP X pins σ Q) X.xe s
def CallR (X : Cx) (f : Value) (r : List V → Hp → VK → Prop) : Prop :=
  ∀ (pins : List (Addr × Obj)) (s : Shared) (σ : St) (H : Hp) (xs : List V) (us : List Value) (Q : VK), Inv X pins σ H s → Vals xs us → r xs H Q →
    wpAny (model X.prog X.w) X.A (call f us) (EP X pins σ Q) X.xe s
def tOp (r : R2) (ta tb : TE) : TE := fun σ H Q => ta σ H fun x H1 => tb σ H1 fun y H2 => r x y H2 Q
def tUn (r : V → Hp → VK → Prop) (ta : TE) : TE := fun σ H Q => ta σ H fun x H1 => r x H1 Q
def rI (C : Int → Int → Prop) (g : Int → Int → V) : R2 := fun x y H Q => Int2C x y C fun i j => Q (g i j) H
def rI0 (g : Int → Int → V) : R2 := fun x y H Q => Int2 x y fun i j => Q (g i j) H
def rU (g : Int → V) : V → Hp → VK → Prop := fun x H Q => IsInt x fun i => Q (g i) H
section
variable {X : Cx} {a b c : Expr} {ta tb tc : TE} {pos : Pos}
theorem binT (ha : PE X a ta) (hb : PE X b tb) {pins : List (Addr × Obj)} {s : Shared} {σ : St} {H : Hp} {R : V → V → Hp → Prop} (I : Inv X pins σ H s)
    (h : ta σ H fun x H1 => tb σ H1 fun y H2 => R x y H2) {Q : Value → Shared → Prop} {f : Value → Value → Sem Value}
    (hf : ∀ v u s2 x y H2, Inv X pins σ H2 s2 → RelV x v → RelV y u → R x y H2 → wpAny (model X.prog X.w) X.A (f v u) Q X.xe s2) :
    wpAny (model X.prog X.w) X.A (eval a X.env) (fun v s₁ => wpAny (model X.prog X.w) X.A (eval b X.env) (fun u s₂ => wpAny (model X.prog X.w) X.A (f v u) Q X.xe s₂) X.xe s₁) X.xe s := by
  refine thn (ha pins s σ H _ I h) fun v s1 ⟨x, H1, I1, r1, q1⟩ => ?_
  refine thn (hb pins s1 σ H1 _ I1 q1) fun u s2 ⟨y, H2, I2, r2, q2⟩ => ?_
  exact hf v u s2 x y H2 I2 r1 r2 q2
theorem pe_op {op : Operator} {r : R2} (ho : OpR X (binaryOp op) r) (ha : PE X a ta) (hb : PE X b tb) : PE X (.BinOp a op b pos) (tOp r ta tb) := by
  intro pins s σ H Q I h
  exact wpAny_BinOp (binT ha hb I h fun v u s2 x y H2 I2 rx ry q => ho pins s2 σ H2 x y v u Q I2 rx ry q)
theorem pe_un {op : UnaryOp} {r : V → Hp → VK → Prop} (ho : UnR X (unaryOp op) r) (ha : PE X a ta) : PE X (.UnaryOp op a pos) (tUn r ta) := by
  intro pins s σ H Q I h
  exact UnaryOp_ (thn (ha pins s σ H _ I h) fun v s1 ⟨x, H1, I1, r1, q1⟩ => ho pins s1 σ H1 x v Q I1 r1 q1)
theorem opI {f : Value → Value → Sem Value} {C : Int → Int → Prop} {g : Int → Int → Int}
    (rule : ∀ (i j : Int) (t u : Tok) (s : Shared) (Q : Value → Shared → Prop) (E : Value → Shared → Prop), C i j → Q (.int (g i j) s.toks) { s with toks := s.toks + 1 } → wpAny (model X.prog X.w) X.A (f (.int i t) (.int j u)) Q E s) :
    OpR X f (rI C fun i j => .int (g i j)) := by
  intro pins s σ H x y v u Q I rx ry h
  obtain ⟨i, j, rfl, rfl, hc, q⟩ := h
  obtain ⟨t, rfl⟩ := rx
  obtain ⟨t', rfl⟩ := ry
  exact rule i j t t' s _ _ hc ⟨.int (g i j), H, I.tok _, ⟨_, rfl⟩, q⟩
theorem opI0 {f : Value → Value → Sem Value} {g : Int → Int → Int}
    (rule : ∀ (i j : Int) (t u : Tok) (s : Shared) (Q : Value → Shared → Prop) (E : Value → Shared → Prop), Q (.int (g i j) s.toks) { s with toks := s.toks + 1 } → wpAny (model X.prog X.w) X.A (f (.int i t) (.int j u)) Q E s) :
    OpR X f (rI0 fun i j => .int (g i j)) := by
  intro pins s σ H x y v u Q I rx ry h
  obtain ⟨i, j, rfl, rfl, q⟩ := h
  obtain ⟨t, rfl⟩ := rx
  obtain ⟨t', rfl⟩ := ry
  exact rule i j t t' s _ _ ⟨.int (g i j), H, I.tok _, ⟨_, rfl⟩, q⟩
theorem opB0 {f : Value → Value → Sem Value} {g : Int → Int → Bool}
    (rule : ∀ (i j : Int) (t u : Tok) (s : Shared) (Q : Value → Shared → Prop) (E : Value → Shared → Prop), Q (.bool (g i j)) s → wpAny (model X.prog X.w) X.A (f (.int i t) (.int j u)) Q E s) :
    OpR X f (rI0 fun i j => .bl (g i j)) := by
  intro pins s σ H x y v u Q I rx ry h
  obtain ⟨i, j, rfl, rfl, q⟩ := h
  obtain ⟨t, rfl⟩ := rx
  obtain ⟨t', rfl⟩ := ry
  exact rule i j t t' s _ _ ⟨.bl (g i j), H, I, rfl, q⟩
theorem op_add : OpR X (binaryOp .Add) (rI0 fun i j => .int (i + j)) := opI0 fun _ _ _ _ _ _ _ q => add_int q
theorem op_sub : OpR X (binaryOp .Sub) (rI0 fun i j => .int (i - j)) := opI0 fun _ _ _ _ _ _ _ q => sub_int q
theorem op_mod : OpR X (binaryOp .Mod) (rI (fun _ j => 0 < j) fun i j => .int (i % j)) := opI fun i j _ _ _ _ _ hc q => by
  have h1 : (0 : Int) < j := hc
  exact mod_int' (by omega) (by rw [Int.fmod_eq_emod_of_nonneg i (by omega)]; exact q)
theorem unI {f : Value → Sem Value} {g : Int → Int}
    (rule : ∀ (i : Int) (t : Tok) (s : Shared) (Q : Value → Shared → Prop) (E : Value → Shared → Prop), Q (.int (g i) s.toks) { s with toks := s.toks + 1 } → wpAny (model X.prog X.w) X.A (f (.int i t)) Q E s) :
    UnR X f (rU fun i => .int (g i)) := by
  intro pins s σ H x v Q I rx h
  obtain ⟨i, rfl, q⟩ := h
  obtain ⟨t, rfl⟩ := rx
  exact rule i t s _ _ ⟨.int (g i), H, I.tok _, ⟨_, rfl⟩, q⟩
theorem un_neg : UnR X (unaryOp .USub) (rU fun i => .int (-i)) := unI fun _ _ _ _ _ q => neg_int q
end
def scal : V → V → Bool
  | .non, .non => true | .non, .int _ => true | .int _, .non => true | .non, .bl _ => true | .bl _, .non => true | .non, .str _ => true | .str _, .non => true
  | .int _, .int _ => true | .bl _, .bl _ => true | .str _, .str _ => true | .byt _, .byt _ => true
  | .int _, .str _ => true | .str _, .int _ => true | .bl _, .str _ => true | .str _, .bl _ => true
  | _, _ => false
structure I_rEq  (x : V) (y : V) (H : Hp) (Q : VK) : Prop where
  mk :: (q1 : scal x y = true) (q2 : Q (.bl (decide (x = y))) H)
def rEq : R2 := fun x y H Q => I_rEq  x y H Q
structure I_rNe  (x : V) (y : V) (H : Hp) (Q : VK) : Prop where
  mk :: (q1 : scal x y = true) (q2 : Q (.bl (!decide (x = y))) H)
def rNe : R2 := fun x y H Q => I_rNe  x y H Q
theorem dec_int {i j : Int} : decide (V.int i = V.int j) = (i == j) := by
  rw [Bool.eq_iff_iff]
  simp
theorem dec_bl {i j : Bool} : decide (V.bl i = V.bl j) = (i == j) := by
  rw [Bool.eq_iff_iff]
  simp
theorem dec_str {i j : Str} : decide (V.str i = V.str j) = (i == j) := by
  rw [Bool.eq_iff_iff]
  simp
theorem dec_byt {i j : Array UInt8} : decide (V.byt i = V.byt j) = (i.toList == j.toList) := by
  rw [Bool.eq_iff_iff]
  cases i
  cases j
  simp
section
variable {X : Cx} {a b c : Expr} {ta tb tc : TE} {pos : Pos}
theorem fin_bl {pins : List (Addr × Obj)} {σ : St} {H : Hp} {s : Shared} {Q : VK} {k k' : Bool} (I : Inv X pins σ H s) (q : Q (.bl k) H) (e : k = k') : EP X pins σ Q (.bool k') s := by
  subst e
  exact ⟨.bl k, H, I, rfl, q⟩
theorem op_eq : OpR X (compareOp .Eq) rEq := by
  intro pins s σ H x y v u Q I rx ry h
  obtain ⟨hs, q⟩ := h
  cases x with
  | non =>
    cases rx
    cases y with
    | non => cases ry; exact PySem.EqNone.eq_none_none (fin_bl I q (by simp))
    | bl j => cases ry; exact PySem.EqNone.eq_none_bool (fin_bl I q (by simp))
    | int j => obtain ⟨t', rfl⟩ := ry; exact PySem.EqNone.eq_none_int (fin_bl I q (by simp))
    | str j => obtain ⟨t', rfl⟩ := ry; exact PySem.EqNone.eq_none_str (fin_bl I q (by simp))
    | _ => exact absurd (show false = true from hs) Bool.false_ne_true
  | bl i =>
    cases rx
    cases y with
    | non => cases ry; exact PySem.EqNone.eq_bool_none (fin_bl I q (by simp))
    | bl j => cases ry; exact eq_bool (fin_bl I q dec_bl)
    | str j => obtain ⟨t', rfl⟩ := ry; exact PySem.EqMixed.eq_bool_str (fin_bl I q (by simp))
    | _ => exact absurd (show false = true from hs) Bool.false_ne_true
  | int i =>
    obtain ⟨t, rfl⟩ := rx
    cases y with
    | non => cases ry; exact PySem.EqNone.eq_int_none (fin_bl I q (by simp))
    | int j => obtain ⟨t', rfl⟩ := ry; exact eq_int (fin_bl I q dec_int)
    | str j => obtain ⟨t', rfl⟩ := ry; exact PySem.EqMixed.eq_int_str (fin_bl I q (by simp))
    | _ => exact absurd (show false = true from hs) Bool.false_ne_true
  | str i =>
    obtain ⟨t, rfl⟩ := rx
    cases y with
    | non => cases ry; exact PySem.EqNone.eq_str_none (fin_bl I q (by simp))
    | bl j => cases ry; exact PySem.EqMixed.eq_str_bool (fin_bl I q (by simp))
    | int j => obtain ⟨t', rfl⟩ := ry; exact PySem.EqMixed.eq_str_int (fin_bl I q (by simp))
    | str j => obtain ⟨t', rfl⟩ := ry; exact eq_str (fin_bl I q dec_str)
    | _ => exact absurd (show false = true from hs) Bool.false_ne_true
  | byt i =>
    obtain ⟨t, rfl⟩ := rx
    cases y with
    | byt j => obtain ⟨t', rfl⟩ := ry; exact PySem.W.eq_bytes (fin_bl I q dec_byt)
    | _ => exact absurd (show false = true from hs) Bool.false_ne_true
  | _ => cases y <;> exact absurd (show false = true from hs) Bool.false_ne_true
theorem op_ne : OpR X (compareOp .NotEq) rNe := by
  intro pins s σ H x y v u Q I rx ry h
  obtain ⟨hs, q⟩ := h
  cases x with
  | non =>
    cases rx
    cases y with
    | non => cases ry; exact PySem.EqNone.ne_none_none (fin_bl I q (by simp))
    | bl j => cases ry; exact PySem.EqNone.ne_none_bool (fin_bl I q (by simp))
    | int j => obtain ⟨t', rfl⟩ := ry; exact PySem.EqNone.ne_none_int (fin_bl I q (by simp))
    | str j => obtain ⟨t', rfl⟩ := ry; exact PySem.EqNone.ne_none_str (fin_bl I q (by simp))
    | _ => exact absurd (show false = true from hs) Bool.false_ne_true
  | bl i =>
    cases rx
    cases y with
    | non => cases ry; exact PySem.EqNone.ne_bool_none (fin_bl I q (by simp))
    | bl j => cases ry; exact ne_bool (fin_bl I q (congrArg not dec_bl))
    | str j => obtain ⟨t', rfl⟩ := ry; exact PySem.EqMixed.ne_bool_str (fin_bl I q (by simp))
    | _ => exact absurd (show false = true from hs) Bool.false_ne_true
  | int i =>
    obtain ⟨t, rfl⟩ := rx
    cases y with
    | non => cases ry; exact PySem.EqNone.ne_int_none (fin_bl I q (by simp))
    | int j => obtain ⟨t', rfl⟩ := ry; exact ne_int (fin_bl I q (congrArg not dec_int))
    | str j => obtain ⟨t', rfl⟩ := ry; exact PySem.EqMixed.ne_int_str (fin_bl I q (by simp))
    | _ => exact absurd (show false = true from hs) Bool.false_ne_true
  | str i =>
    obtain ⟨t, rfl⟩ := rx
    cases y with
    | non => cases ry; exact PySem.EqNone.ne_str_none (fin_bl I q (by simp))
    | bl j => cases ry; exact PySem.EqMixed.ne_str_bool (fin_bl I q (by simp))
    | int j => obtain ⟨t', rfl⟩ := ry; exact PySem.EqMixed.ne_str_int (fin_bl I q (by simp))
    | str j => obtain ⟨t', rfl⟩ := ry; exact ne_str (fin_bl I q (congrArg not dec_str))
    | _ => exact absurd (show false = true from hs) Bool.false_ne_true
  | byt i =>
    obtain ⟨t, rfl⟩ := rx
    cases y with
    | byt j => obtain ⟨t', rfl⟩ := ry; exact PySem.W.ne_bytes (fin_bl I q (congrArg not dec_byt))
    | _ => exact absurd (show false = true from hs) Bool.false_ne_true
  | _ => cases y <;> exact absurd (show false = true from hs) Bool.false_ne_true
theorem op_lt : OpR X (compareOp .Lt) (rI0 fun i j => .bl (decide (i < j))) := opB0 fun _ _ _ _ _ _ _ q => lt_int q
theorem nomark (b : Expr) {op : CmpOp} (h : op ≠ .In := by decide) (h2 : op ≠ .NotIn := by decide) : behindInMarks op b = false := by
  have e1 : (op == CmpOp.In) = false := by cases op <;> first | rfl | exact absurd rfl h
  have e2 : (op == CmpOp.NotIn) = false := by cases op <;> first | rfl | exact absurd rfl h2
  cases b <;> simp [behindInMarks, e1, e2]
theorem pe_cmpR {op : CmpOp} {r : R2} (ho : OpR X (compareOp op) r) (ha : PE X a ta) (hb : PE X b tb) (hm : behindInMarks op b = false) : PE X (.Compare a [op] [b] pos) (tOp r ta tb) := by
  intro pins s σ H Q I h
  exact wpAny_Compare1 (binT ha hb I h fun v u s2 x y H2 I2 rx ry q => ho pins s2 σ H2 x y v u Q I2 rx ry q) hm
def tTest (t : TE) : TT := fun σ H Q => t σ H fun x H' => IsBl x fun k => Q k H'
theorem pt_cmpR {op : CmpOp} {r : R2} (ho : OpR X (compareOp op) r) (ha : PE X a ta) (hb : PE X b tb) (hm : behindInMarks op b = false) : PT X (.Compare a [op] [b] pos) (tTest (tOp r ta tb)) := by
  intro pins s σ H Q I h
  refine wpAny_isTrue_Compare1 (thn (ha pins s σ H _ I h) fun v s1 ⟨x, H1, I1, r1, q1⟩ => thn (hb pins s1 σ H1 _ I1 q1) fun u s2 ⟨y, H2, I2, r2, q2⟩ =>
    thn (ho pins s2 σ H2 x y v u _ I2 r1 r2 q2) fun c s3 ⟨z, H3, I3, r3, k, e, q3⟩ => ?_) hm
  subst e
  cases r3
  exact wpAny_truthy_bool ⟨H3, I3, q3⟩
def tChain (r r' : R2) (ta tb tc : TE) : TE := fun σ H Q => ta σ H fun x H1 => tb σ H1 fun y H2 => r x y H2 fun z H3 => ∃ k, z = .bl k ∧
  (if k = true then tc σ H3 fun w' H4 => r' y w' H4 Q else Q (.bl false) H3)
theorem pe_chain {op op' : CmpOp} {r r' : R2} (ho : OpR X (compareOp op) r) (ho' : OpR X (compareOp op') r') (ha : PE X a ta) (hb : PE X b tb) (hc : PE X c tc)
    (hm : lastMarks [op, op'] [b, c] = false := by with_unfolding_all rfl) : PE X (.Compare a [op, op'] [b, c] pos) (tChain r r' ta tb tc) := by
  intro pins s σ H Q I h
  refine Compare_chain (thn (ha pins s σ H _ I h) fun v s1 ⟨x, H1, I1, r1, q1⟩ => chain_link (thn (hb pins s1 σ H1 _ I1 q1) fun u s2 ⟨y, H2, I2, r2, q2⟩ =>
    thn (ho pins s2 σ H2 x y v u _ I2 r1 r2 q2) fun d s3 ⟨z, H3, I3, r3, k, e, q3⟩ => ?_)) hm
  subst e
  cases r3
  refine wpAny_truthy_bool ?_
  cases k with
  | false => exact ite_ff ⟨.bl false, H3, I3, rfl, q3⟩
  | true => exact ite_tt (chain_last (thn (hc pins s3 σ H3 _ I3 q3) fun w' s4 ⟨z', H4, I4, r4, q4⟩ => ho' pins s4 σ H4 y z' u w' Q I4 r2 r4 q4))
theorem line63 : (sizeLine : Nat) < 2 ^ 63 := by rw [sizeLine_eq]; decide
theorem op_add_str : OpR X (binaryOp .Add) (fun x y H Q => ∃ i j, x = .str i ∧ y = .str j ∧ i.length + j.length ≤ sizeLine ∧ Q (.str (i ++ j)) H) := by
  intro pins s σ H x y v u Q I rx ry h
  obtain ⟨i, j, rfl, rfl, hz, q⟩ := h
  obtain ⟨t, rfl⟩ := rx
  obtain ⟨t', rfl⟩ := ry
  exact add_str (fun t' tk => ⟨.str (i ++ j), H, I.tok _, ⟨_, rfl⟩, q⟩) hz
theorem vals1 {x : V} {us : List Value} (r : Vals [x] us) : ∃ u, us = [u] ∧ RelV x u := by
  cases r with
  | cons r1 r2 => cases r2; exact ⟨_, rfl, r1⟩
theorem vals2 {x y : V} {us : List Value} (r : Vals [x, y] us) : ∃ u w', us = [u, w'] ∧ RelV x u ∧ RelV y w' := by
  cases r with
  | cons r1 r2 =>
    cases r2 with
    | cons r3 r4 => cases r4; exact ⟨_, _, rfl, r1, r3⟩
theorem call_min2 (hc : X.calm = true) : CallR X (.builtin "min") (fun xs H Q => ∃ i j, xs = [.int i, .int j] ∧ Q (.int (if j < i then j else i)) H) := by
  intro pins s σ H xs us Q I r h
  obtain ⟨i, j, rfl, q⟩ := h
  obtain ⟨u, w', rfl, ⟨t, rfl⟩, ⟨t', rfl⟩⟩ := vals2 r
  refine min_two_ints (I.ok.hd hc) fun h' tk k => ⟨_, H, I.kept k, ?_, q⟩
  by_cases hj : j < i
  · rw [if_pos hj, if_pos hj]; exact ⟨_, rfl⟩
  · rw [if_neg hj, if_neg hj]; exact ⟨_, rfl⟩
end
end L2
namespace L2
open PySem PySem.Spec PyProof.Rows
structure ObjM (h : Heap) (x dx C : Addr) (mA : Str → Option Value) : Prop where
  obj : h.get? x = some (PySem.W.instObj C dx)
  ns : h.Ns1 dx mA
  ne : dx ≠ x
theorem lookIn_ns {h : Heap} {dx : Addr} {mA : Str → Option Value} (n : h.Ns1 dx mA) : ∃ od, h.get? dx = some od ∧ ∀ name, PySem.W.lookIn name od = some (mA name) := by
  obtain ⟨o, es, ep, ho, hd, hk, _, hm⟩ := n
  refine ⟨o, ho, fun name => ?_⟩
  have e := hm name
  unfold nsFind findBy at e
  rw [← Array.find?_toList] at e
  unfold PySem.W.lookIn
  rw [hd]
  dsimp only
  split
  · rename_i y q
    rw [q] at e
    exact congrArg some e
  · rename_i q
    rw [q] at e
    have a : es.toList.any (·.refKey) = false := by
      rw [List.any_eq_false]
      intro y hy
      obtain ⟨z, t, hkey⟩ := hk y (Array.mem_toList_iff.mp hy)
      simp [DictEntry.refKey, hkey]
    have a' : ¬ es.toList.any (·.refKey) = true := by rw [a]; exact Bool.false_ne_true
    rw [if_neg a']
    exact congrArg some e
theorem ObjM.look {h : Heap} {x dx C : Addr} {mA : Str → Option Value} (I : ObjM h x dx C mA) : ∃ od, PySem.W.InstAt h x (PySem.W.instObj C dx) C (some od) ∧ ∀ name, PySem.W.lookIn name od = some (mA name) :=
  let ⟨od, ho, hl⟩ := lookIn_ns I.ns
  ⟨od, ⟨I.obj, rfl, rfl, ho⟩, hl⟩
section
variable {prog : Program} {w : World} {A : Around} {E : Value → Shared → Prop} {s : Shared} {K : PySem.W.Frag} {x dx C f : Addr} {mA : Str → Option Value} {name : Str} {v : Value}
end
theorem RelO.some_of {v : V} {o : Option Value} (r : RelO (some v) o) : ∃ u, o = some u ∧ RelV v u := by
  cases o with
  | none => exact (show False from r).elim
  | some u => exact ⟨u, rfl, r⟩
section
variable {P : Program} {w : World} {H H' : Hp} {h h' : Heap} {a C dx : Addr} {fs fs' : List (Str × V)}
theorem ins_get (hok : HOk P w H h) (e : H a = some (.ins C dx fs)) : ∃ mA, ObjM h a dx C mA ∧ (∀ f, RelO (fs.lookup f) (mA f)) ∧ PySem.Within mA (fs.map (·.1)) ∧ fs.length ≤ 1000 ∧ H dx = some (.own a) := by
  obtain ⟨d, z, ne, ob, mA, n, r, q⟩ := (show ObjOk P w H h a (.ins C dx fs) from hok a _ e)
  exact ⟨mA, ⟨ob, n, ne⟩, r, q, z, d⟩
end
structure Cls (K : PySem.W.Frag) (C : Addr) : Prop where
  pg : PySem.W.plainGet K C Str.empty = true
  hd : PySem.W.hasDictIn K C = true
  po : PySem.W.plainOver K C = true
  sa : PySem.W.findIn K (.ref C) "__setattr__" = some (some (.builtin "object.__setattr__"))
theorem Cls.get {K : PySem.W.Frag} {C : Addr} (c : Cls K C) (f : Str) : PySem.W.plainGet K C f = true := c.pg
structure Con (K : PySem.W.Frag) (C : Addr) (f : Str) (v : V) (u : Value) : Prop where
  at_ : PySem.W.findIn K (.ref C) f = some (some u)
  rel : RelV v u
  get : PySem.W.specialIn K u "__get__" = some none
  cp : PySem.W.copiedNames.contains f = false
structure Meth (K : PySem.W.Frag) (C : Addr) (m : Str) (f : Addr) : Prop where
  at_ : PySem.W.findIn K (.ref C) m = some (some (.ref f))
  fn : PySem.W.isFn K (.ref f) = true
  kp : PySem.W.keepIn K (.ref f) = true
section
variable {X : Cx} {pins : List (Addr × Obj)} {σ : St} {H : Hp} {s : Shared} {a C dx : Addr} {fs : List (Str × V)} {f : Str} {v : V} {A : Around} {E : Value → Shared → Prop}
end
section
variable {X : Cx} {o e value : Expr} {f : Str} {pos pos' tpos : Pos} {ta tv : TE}
end
section
variable {X : Cx} {pins : List (Addr × Obj)} {σ : St} {H : Hp} {s : Shared} {A : Around} {E : Value → Shared → Prop} {Q : Value → Shared → Prop} {c : Value} {b : Bool}
inductive TyOf (K : PySem.W.Frag) (H : Hp) : V → Value → Prop where
  | non : TyOf K H .non (.type "NoneType")
  | bl (x : Bool) : TyOf K H (.bl x) (.type "bool")
  | int (i : Int) : TyOf K H (.int i) (.type "int")
  | str (x : Str) : TyOf K H (.str x) (.type "str")
  | flt (x : UInt64) : TyOf K H (.flt x) (.type "float")
  | lst {a : Addr} {xs : List V} (e : H a = some (.lst xs)) : TyOf K H (.ref a) (.type "list")
  | frz {a : Addr} {o : Obj} {xs : List V} (e : H a = some (.frz o (.lst xs))) : TyOf K H (.ref a) (.type "list")
  | tup {a : Addr} {xs : List V} (e : H a = some (.tup xs)) : TyOf K H (.ref a) (.type "tuple")
  | dK {a : Addr} {kvs : List (Key × V)} (e : H a = some (.dK kvs)) : TyOf K H (.ref a) (.type "dict")
  | dT {a : Addr} {kvs : List (List Key × V)} (e : H a = some (.dT kvs)) : TyOf K H (.ref a) (.type "dict")
  | ins {a C dx : Addr} {fs : List (Str × V)} (e : H a = some (.ins C dx fs)) (cl : Cls K C) (ha : PySem.W.findIn K (.ref C) "__class__" = some (some (.builtin "object.__class__")))
      (hn : PySem.W.specialIn K (.builtin "object.__class__") "__get__" = some (some (.builtin "getset_descriptor.__get__"))) (htk : PySem.W.takesIn K (.builtin "object.__class__") = some true)
      (hm : PySem.W.mroIn K C (.type "object") = some true) : TyOf K H (.ref a) (.ref C)
theorem isinst_ok {x : V} {u t : Value} (I : Inv X pins σ H s) (rx : RelV x u) (ty : TyOf X.K H x t) (e : PySem.W.kitOne X.K t c = some b) (h : ∀ tk, Q (.bool b) { s with toks := tk }) :
    wpAny (model X.prog X.w) A (call (.builtin "isinstance") [u, c]) Q E s := by
  cases ty with
  | non => cases (show u = Value.none from rx); exact PySem.W.kia_one PySem.W.kitx_none I.kIn True.intro e (fun z => nomatch z) h
  | bl y => cases (show u = Value.bool y from rx); exact PySem.W.kia_one PySem.W.kitx_bool I.kIn True.intro e (fun z => nomatch z) h
  | int i => obtain ⟨t, q⟩ := (show ∃ t, u = Value.int i t from rx); cases q; exact PySem.W.kia_one PySem.W.kitx_int I.kIn True.intro e (fun z => nomatch z) h
  | str y => obtain ⟨t, q⟩ := (show ∃ t, u = Value.str y t from rx); cases q; exact PySem.W.kia_one PySem.W.kitx_str I.kIn True.intro e (fun z => nomatch z) h
  | flt y => obtain ⟨t, q⟩ := (show ∃ t, u = Value.float y t from rx); cases q; exact PySem.W.kia_one PySem.W.kitx_float I.kIn True.intro e (fun z => nomatch z) h
  | @lst a xs ea =>
    cases (show u = Value.ref a from rx)
    obtain ⟨_, _, n, _, h1⟩ := (show ObjOk X.prog X.w H s.heap a (.lst xs) from I.hok a _ ea)
    exact PySem.W.kia_one PySem.W.kitx_list I.kIn ⟨_, h1, rfl⟩ e (fun z => nomatch z) h
  | @frz a ob xs ea =>
    cases (show u = Value.ref a from rx)
    obtain ⟨_, _, _, n, _, h1⟩ := (show ObjOk X.prog X.w H s.heap a (.frz ob (.lst xs)) from I.hok a _ ea)
    exact PySem.W.kia_one PySem.W.kitx_list I.kIn ⟨_, h1, rfl⟩ e (fun z => nomatch z) h
  | @tup a xs ea =>
    cases (show u = Value.ref a from rx)
    obtain ⟨_, _, _, p⟩ := (show ObjOk X.prog X.w H s.heap a (.tup xs) from I.hok a _ ea)
    obtain ⟨o, h1, h2, _⟩ := p
    exact PySem.W.kia_one PySem.W.kitx_tuple I.kIn ⟨o, h1, h2⟩ e (fun z => nomatch z) h
  | @dK a kvs ea =>
    cases (show u = Value.ref a from rx)
    obtain ⟨_, _, vs, _, p⟩ := (show ObjOk X.prog X.w H s.heap a (.dK kvs) from I.hok a _ ea)
    obtain ⟨o, es, ep, h1, h2, _⟩ := p
    exact PySem.W.kia_one PySem.W.kitx_dict I.kIn ⟨o, h1, h2.1⟩ e (fun z => nomatch z) h
  | @dT a kvs ea =>
    cases (show u = Value.ref a from rx)
    obtain ⟨_, _, xs, _, o, es, ep, h1, h2, _⟩ := (show ObjOk X.prog X.w H s.heap a (.dT kvs) from I.hok a _ ea)
    exact PySem.W.kia_one PySem.W.kitx_dict I.kIn ⟨o, h1, h2.1⟩ e (fun z => nomatch z) h
  | @ins a C dx fs ea cl ha hn htk hm =>
    cases (show u = Value.ref a from rx)
    obtain ⟨mA, O, _⟩ := ins_get I.hok ea
    obtain ⟨od, J, _⟩ := O.look
    exact PySem.W.kia_one (PySem.W.kitx_own (cl.get _) cl.hd ha hn htk hm) I.kIn J e (fun z => nomatch z) h
end
end L2
namespace L2
open PySem PySem.Spec PyProof.Rows
structure Room (k : Nat) (A : Around) : Prop where
  hd : A.handled = none
  dp : A.depth + 3 * k + 5 < recursionLimit
  un : A.units + 16 * k + 200 < cLine
theorem Room.mono {j k : Nat} {A : Around} (r : Room k A) (h : j ≤ k) : Room j A := ⟨r.hd, by have := r.dp; omega, by have := r.un; omega⟩
theorem Room.deeper {k : Nat} {A : Around} (r : Room (k + 1) A) (env : Env) : Room k (A.deeper env) :=
  ⟨r.hd, by have := r.dp; show A.depth + 1 + 3 * k + 5 < _; omega, by have := r.un; show A.units + 3 + 16 * k + 200 < _; omega⟩
theorem Room.depth {k : Nat} {A : Around} (r : Room k A) : A.depth < recursionLimit := by have := r.dp; omega
theorem Room.units {k : Nat} {A : Around} (r : Room k A) : A.units + 64 < cLine := by have := r.un; omega
theorem Room.units0 {k : Nat} {A : Around} (r : Room k A) : A.units < cLine := by have := r.un; omega
def tNil : TA := fun _ H Q => Q [] H
def tCons (ta : TE) (tr : TA) : TA := fun σ H Q => ta σ H fun x H1 => tr σ H1 fun xs H2 => Q (x :: xs) H2
section
variable {X : Cx} {e : Expr} {es : List Expr} {te : TE} {t : TA} {pos : Pos}
theorem pa_nil : PA X [] tNil := fun _ _ _ _ H Q I h => Calls.spliced_nil ⟨[], H, I, .nil, h⟩
theorem pa_cons (ha : PE X e te) (hr : PA X es t) (hs : starEach (e :: es) X.env = (false, eval e X.env) :: starEach es X.env := by rfl) : PA X (e :: es) (tCons te t) := by
  intro pos pins s σ H Q I h
  rw [hs]
  show wpAny _ _ (spliced ((false, eval e X.env) :: backTo pos (starEach es X.env))) _ _ s
  refine Calls.spliced_cons (thn (ha pins s σ H _ I h) fun u s1 ⟨x, H1, I1, r1, q1⟩ => ?_)
  exact thn (hr pos pins s1 σ H1 _ I1 q1) fun us s2 ⟨xs, H2, I2, r2, q2⟩ => ⟨x :: xs, H2, I2, .cons r1 r2, q2⟩
structure I_tTup (xs : List V) (H1 : Hp) (Q : VK) : Prop where
  mk :: (q1 : xs.length ≤ sizeLine) (q2 : ∀ p, H1 p = none → Q (.ref p) (upd H1 p (.tup xs)))
def tTup (t : TA) : TE := fun σ H Q => t σ H fun xs H1 => I_tTup xs H1 Q
structure I_tLst (xs : List V) (H1 : Hp) (Q : VK) : Prop where
  mk :: (q1 : xs.length ≤ sizeLine) (q2 : ∀ p, H1 p = none → Q (.ref p) (upd H1 p (.lst xs)))
def tLst (t : TA) : TE := fun σ H Q => t σ H fun xs H1 => I_tLst xs H1 Q
theorem pe_tup {x1} (h : PA X es t) : PE X (.Tuple es x1 pos) (tTup t) := by
  intro pins s σ H Q I hq
  refine wpAny_Tuple_spliced (thn (h pos pins s σ H _ I hq) fun us s1 ⟨xs, H1, I1, r, z, q⟩ => ⟨by rw [← r.length]; exact z, ?_⟩)
  have hf : H1 s1.heap.objs.size = none := I1.hok.fresh (Nat.le_refl _)
  refine ⟨.ref s1.heap.objs.size, upd H1 s1.heap.objs.size (.tup xs), I1.laid (t' := s1.toks) (fun b u e => Heap.get?_push_of_some _ e) (Nat.le_refl _) ?_, rfl, q _ hf⟩
  exact ⟨z, us, r, ⟨_, Heap.get?_push_size _ rfl, rfl, _, rfl⟩⟩
theorem pe_lst (h : PA X es t) : PE X (.List es pos) (tLst t) := by
  intro pins s σ H Q I hq
  refine wpAny_List_spliced (thn (h pos pins s σ H _ I hq) fun us s1 ⟨xs, H1, I1, r, z, q⟩ => ⟨by rw [← r.length]; exact z, ?_⟩)
  have hf : H1 s1.heap.objs.size = none := I1.hok.fresh (Nat.le_refl _)
  refine ⟨.ref s1.heap.objs.size, upd H1 s1.heap.objs.size (.lst xs), I1.laid (t' := s1.toks) (fun b u e => Heap.get?_push_of_some _ e) (Nat.le_refl _) ?_, rfl, q _ hf⟩
  exact ⟨z, us, 0, r, Heap.get?_push_size _ rfl⟩
end
abbrev Sp := List V → Hp → VK → XK → Prop
abbrev CXT := List Env → Hp → Shared → XK → Value → Shared → Prop
structure Env0 (P : Program) (w : World) (K : PySem.W.Frag) (mg : Str → Option Value) (base : Heap) (A : Around) (outer : List Env) (s : Shared) (H : Hp) : Prop where
  frames : A.frames = some outer
  mod : Mod K mg base
  bs : ∀ b o, base.get? b = some o → s.heap.get? b = some o ∧ H b = none
  bsz : base.objs.size ≤ s.heap.objs.size
  funs : s.heap.FunFrames base outer
  frf : ∀ b ∈ frs outer, H b = none
  hok : HOk P w H s.heap
  bare : AllBare s.gens
def CE (outer : List Env) (P : Program) (w : World) (H : Hp) (s : Shared) (Q : VK) (u : Value) (s' : Shared) : Prop :=
  ∃ v H', s'.os = s.os ∧ AllBare s'.gens ∧ Un (frs outer) [] H H' s.heap s'.heap ∧ HOk P w H' s'.heap ∧ RelV v u ∧ Q v H'
def CR (CX : CXT) (outer : List Env) (P : Program) (w : World) (H : Hp) (s : Shared) (Q : VK) (E : XK) (r : Result) (s' : Shared) : Prop :=
  match r with
  | .ok (.ret u) => CE outer P w H s Q u s'
  | .ok _ => False
  | .error e => CX outer H s E e s'
structure FnOk (P : Program) (w : World) (K : PySem.W.Frag) (mg : Str → Option Value) (base : Heap) (CX : CXT) (k : Nat) (f : Addr) (fd : FuncData) (ps : List Str) (sp : Sp) : Prop where
  len : ∀ vs H Q E, sp vs H Q E → vs.length = ps.length
  run : ∀ (A : Around) (outer : List Env) (s : Shared) (H : Hp) (args : Args) (us : List Value) (vs : List V) (Q : VK) (E : XK), Room k A → Env0 P w K mg base A outer s H → BindsTo s fd args (ps.zip us) → Vals vs us → sp vs H Q E →
    codeAny (model P w) A (.call (.ref f) args) (CR CX outer P w H s Q E) s
section
variable {X : Cx} {pins : List (Addr × Obj)} {σ : St} {H : Hp} {s s' : Shared}
theorem Inv.env0 (I : Inv X pins σ H s) : Env0 X.prog X.w X.K X.mg X.base X.A X.stack s H :=
  ⟨I.ok.frames, I.ok.mod, I.bs, Nat.le_trans I.ok.bsz I.sz, I.stack, I.stkFree, I.hok, I.bare⟩
theorem Inv.after {Q : VK} {u : Value} (I : Inv X pins σ H s) (h : CE X.stack X.prog X.w H s Q u s') : EP X pins σ Q u s' := by
  obtain ⟨v, H', os, bare, un, hok, r, q⟩ := h
  obtain ⟨hh, g, d, t, os'⟩ := s'
  obtain rfl : os' = s.os := os
  exact ⟨v, H', I.call (h' := hh) (g' := g) (d' := d) (t' := t) (ch := []) un hok bare (fun b z => absurd z (by simp)), r, q⟩
end
def tCall (sp : Sp) (dvs : List V) (E : XK) (t : TA) : TE := fun σ H Q => t σ H fun vs H1 => sp (vs ++ dvs) H1 Q E
def Binds (K : PySem.W.Frag) (fd : FuncData) (ps : List Str) (ds : List Value) : Prop :=
  ∀ (s : Shared) (us : List Value), K.In s.heap → (us ++ ds).length = ps.length → BindsTo s fd ⟨us, []⟩ (ps.zip (us ++ ds))
theorem Binds.all {K : PySem.W.Frag} {fd : FuncData} {ps : List Str} (h : ∀ us : List Value, us.length = ps.length → bindArgs fd ⟨us, []⟩ = pure (ps.zip us)) : Binds K fd ps [] := fun s us _ hl => by
  rw [List.append_nil] at hl ⊢
  exact .of_eq (h us hl)
def Passes (CX : CXT) (X : Cx) (E : XK) : Prop := ∀ (pins : List (Addr × Obj)) (σ : St) (H : Hp) (s : Shared) (e : Value) (s' : Shared), Inv X pins σ H s → CX X.stack H s E e s' → X.xe e s'
section
variable {X : Cx} {CX : CXT} {k : Nat} {f C : Addr} {fd : FuncData} {ps : List Str} {sp : Sp} {dvs : List V} {ds : List Value} {E : XK} {x m : Str} {p pos apos : Pos} {e o : Expr} {es : List Expr} {ta : TE} {t : TA}
theorem run_fn {pins : List (Addr × Obj)} {σ : St} {H : Hp} {s : Shared} {Q : VK} {us : List Value} {vs : List V} (F : FnOk X.prog X.w X.K X.mg X.base CX k f fd ps sp) (hr : Room k X.A) (hb : Binds X.K fd ps ds) (hd : Vals dvs ds) (hx : Passes CX X E)
    (I : Inv X pins σ H s) (r : Vals vs us) (h : sp (vs ++ dvs) H Q E) : wpAny (model X.prog X.w) X.A (call (.ref f) us) (EP X pins σ Q) X.xe s := by
  have r2 : Vals (vs ++ dvs) (us ++ ds) := r.append hd
  have hl : (us ++ ds).length = ps.length := by rw [← r2.length]; exact F.len _ _ _ _ h
  refine wpAny_call (codeAny_mono (F.run X.A X.stack s H ⟨us, []⟩ (us ++ ds) (vs ++ dvs) Q E hr I.env0 (hb s us I.kIn hl) r2 h) fun r s' hq => ?_)
  cases r with
  | error e => exact hx pins σ H s e s' I hq
  | ok fl =>
    cases fl with
    | ret u => exact I.after hq
    | next => exact False.elim hq
    | brk => exact False.elim hq
    | cont => exact False.elim hq
theorem pe_call (F : FnOk X.prog X.w X.K X.mg X.base CX k f fd ps sp) (hr : Room k X.A) (hg : Gl X x) (hm : X.mg x = some (.ref f)) (hk : PySem.W.keepIn X.K (.ref f) = true) (hb : Binds X.K fd ps ds) (hd : Vals dvs ds) (hx : Passes CX X E)
    (ha : PA X (e :: es) t) (hdb : (x == ("__debug__" : Str)) = false := by decide) (he : starEach (e :: es) X.env = (false, eval e X.env) :: starEach es X.env := by rfl) (hpl : (backTo pos (starEach es X.env)).any (·.1) = false := by rfl) :
    PE X (.Call (.Name x p) (e :: es) [] pos) (tCall sp dvs E t) := by
  intro pins s σ H Q I h
  refine wpAny_Call_Name_kw (ld_glob I hg hm ?_ hdb)
  refine PySem.W.callWith_K (h₀ := X.base) I.ok.mod.kin hk (thn (ha pos pins s σ H _ I h) fun us s1 ⟨vs, H1, I1, r, q⟩ => ⟨I1.kIn, ?_⟩) he hpl
  exact run_fn F hr hb hd hx I1 r q
structure Mk (K : PySem.W.Frag) (C f : Addr) : Prop where
  makes : PySem.W.makesIn K C = true
  init : PySem.W.findIn K (.ref C) "__init__" = some (some (.ref f))
  fn : PySem.W.isFn K (.ref f) = true
  kp : PySem.W.keepIn K (.ref C) = true
end
section
variable {X : Cx} {CX : CXT} {k : Nat} {f C : Addr} {fd : FuncData} {ps ks : List Str} {sp : Sp} {E : XK} {x m : Str} {p pos apos kpos : Pos} {e o : Expr} {es : List Expr} {kws : List Keyword} {te ta : TE} {t tk : TA} {nm : Option Str}
structure KBinds (K : PySem.W.Frag) (fd : FuncData) (ps ks : List Str) (g : List Value → List Value → List Value) (gV : List V → List V → List V) : Prop where
  to : ∀ (s : Shared) (us ws : List Value), K.In s.heap → (g us ws).length = ps.length → BindsTo s fd ⟨us, ks.zip ws⟩ (ps.zip (g us ws))
  rel : ∀ {vs : List V} {us : List Value} {zs : List V} {ws : List Value}, Vals vs us → Vals zs ws → Vals (gV vs zs) (g us ws)
variable {g : List Value → List Value → List Value} {gV : List V → List V → List V}
end
structure FnScope (N P : List Str) (sc : Scope) : Prop where
  kind : sc.kind = .function
  co : sc.isCoroutine = false
  gen : sc.isGenerator = false
  nd : N.Nodup
  pre : N.take P.length = P
  par : ∀ x ∈ P, sc.names.lookup x = some .local ∨ sc.names.lookup x = some .cell
  nofree : ∀ y ∈ sc.names, y.2 ≠ .free
theorem bindL_out {kindOf : Str → Option NameKind} {x : Str} : ∀ {binds : List (Str × Value)} {m : Str → Option Value}, (∀ v, (x, v) ∉ binds) → bindL kindOf binds m x = m x
  | [], _, _ => rfl
  | (n, v) :: r, m, h => by
    unfold bindL
    rw [bindL_out fun w hw => h w (List.mem_cons_of_mem _ hw)]
    split
    · have : x ≠ n := by rintro rfl; exact h v List.mem_cons_self
      simp [this]
    · rfl
theorem bindC_out {kindOf : Str → Option NameKind} {x : Str} : ∀ {binds : List (Str × Value)} {m : Str → Option Value}, (∀ v, (x, v) ∉ binds) → bindC kindOf binds m x = m x
  | [], _, _ => rfl
  | (n, v) :: r, m, h => by
    unfold bindC
    rw [bindC_out fun w hw => h w (List.mem_cons_of_mem _ hw)]
    split
    · rfl
    · have : x ≠ n := by rintro rfl; exact h v List.mem_cons_self
      simp [this]
theorem bindL_get {kindOf : Str → Option NameKind} {x : Str} {v : Value} : ∀ {P : List Str} {vs : List Value} {i : Nat} {m : Str → Option Value}, P.Nodup → P[i]? = some x → vs[i]? = some v → kindOf x = some .local →
    bindL kindOf (P.zip vs) m x = some v
  | [], _, _, _, _, h, _, _ => by simp at h
  | _ :: _, [], _, _, _, _, h, _ => by simp at h
  | p :: P, w :: vs, 0, m, nd, h1, h2, hk => by
    simp at h1 h2; subst h1; subst h2
    show bindL kindOf ((p, w) :: P.zip vs) m p = _
    unfold bindL
    rw [bindL_out fun v hv => (List.nodup_cons.mp nd).1 (List.of_mem_zip hv).1, if_pos hk]
    simp
  | p :: P, w :: vs, i + 1, m, nd, h1, h2, hk => by
    show bindL kindOf ((p, w) :: P.zip vs) m x = _
    unfold bindL
    exact bindL_get (i := i) (List.nodup_cons.mp nd).2 (by simpa using h1) (by simpa using h2) hk
theorem bindC_get {kindOf : Str → Option NameKind} {x : Str} {v : Value} : ∀ {P : List Str} {vs : List Value} {i : Nat} {m : Str → Option Value}, P.Nodup → P[i]? = some x → vs[i]? = some v → kindOf x ≠ some .local →
    bindC kindOf (P.zip vs) m x = some v
  | [], _, _, _, _, h, _, _ => by simp at h
  | _ :: _, [], _, _, _, _, h, _ => by simp at h
  | p :: P, w :: vs, 0, m, nd, h1, h2, hk => by
    simp at h1 h2; subst h1; subst h2
    show bindC kindOf ((p, w) :: P.zip vs) m p = _
    unfold bindC
    rw [bindC_out fun v hv => (List.nodup_cons.mp nd).1 (List.of_mem_zip hv).1, if_neg hk]
    simp
  | p :: P, w :: vs, i + 1, m, nd, h1, h2, hk => by
    show bindC kindOf ((p, w) :: P.zip vs) m x = _
    unfold bindC
    exact bindC_get (i := i) (List.nodup_cons.mp nd).2 (by simpa using h1) (by simpa using h2) hk
def start (N : List Str) (vs : List V) : St := vs.map some ++ List.replicate (N.length - vs.length) none
def cxOf (CX : CXT) (P : Program) (w : World) (K : PySem.W.Frag) (mg : Str → Option Value) (base : Heap) (N : List Str) (qual : Str) (scope : Scope) (f : Addr) (cd : Value) (A : Around) (outer : List Env) (s : Shared) (H : Hp) (E : XK) : Cx where
  prog := P
  w := w
  K := K
  mg := mg
  base := base
  A := A.deeper (envOfC qual scope s.heap.objs.size f cd)
  N := N
  s₀ := s
  H₀ := H
  env := envOfC qual scope s.heap.objs.size f cd
  outer := outer
  stack := envOfC qual scope s.heap.objs.size f cd :: outer
  ex := []
  calm := true
  fn := fun _ => true
  pn := []
  xe := fun e s' => wpAny (model P w) (A.deeper (envOfC qual scope s.heap.objs.size f cd)) (leaving (envOfC qual scope s.heap.objs.size f cd) e) (fun _ s'' => CX outer H s E e s'') (fun e' s'' => CX outer H s E e' s'') s'
theorem cell_has {sc : Scope} {n : Nat} {x : Str} (h : sc.names.lookup x = some .cell) : ∃ c, (cellsFrom n sc.names []).lookup x = some c := by
  have q := PySem.W.cellsFrom_some sc.names n [] (.inl h)
  exact Option.isSome_iff_exists.mp q
theorem inv_start {CX : CXT} {P : Program} {w : World} {K : PySem.W.Frag} {mg : Str → Option Value} {base : Heap} {N ps : List Str} {qual : Str} {scope : Scope} {f : Addr} {cd : Value} {A : Around} {outer : List Env} {s s1 : Shared} {H : Hp} {E : XK} {us : List Value} {vs : List V}
    (S : FnScope N ps scope) (hd : A.handled = none) (e0 : Env0 P w K mg base A outer s H) (hl : vs.length = ps.length) (r : Vals vs us)
    (x : InCallC s s.heap.objs.size (bindL (envOfC qual scope s.heap.objs.size f cd).kindOf (ps.zip us) fun _ => none) (cellsFrom (s.heap.objs.size + 1) scope.names []) (bindC (envOfC qual scope s.heap.objs.size f cd).kindOf (ps.zip us) fun _ => none) s1) :
    Inv (cxOf CX P w K mg base N qual scope f cd A outer s H E) [] (start N vs) H s1 := by
  have hpl : ps.length ≤ N.length := by have := congrArg List.length S.pre; rw [List.length_take] at this; omega
  obtain ⟨h1, tk, rfl, hk⟩ := x.done
  have noA : ∀ b : Addr, b ∉ (cxOf CX P w K mg base N qual scope f cd A outer s H E).ex := fun b z => absurd (show b ∈ ([] : List Addr) from z) (by simp)
  refine ⟨⟨e0.mod, S.kind, rfl, rfl, Nat.le_refl _, fun y z c h1 h2 => ?_, fun y hy => ?_, fun y c _ h => ?_, fun _ => hd, Around.frames_deeper e0.frames, .inr ⟨rfl, rfl⟩, fun b z => absurd z (noA b), e0.bs, e0.bsz, fun b _ _ => noA b, fun b z => absurd z (noA b), e0.funs, e0.frf⟩,
    rfl, e0.bare, Un.kept hk, ⟨_, x.toInCall.ns, fun i y v h1 h2 h3 => ?_⟩, fun y c h => ⟨_, x.cell y c h⟩, e0.hok.fresh (Nat.le_refl _), fun y c h => ?_, fun p hp => absurd (show p ∈ ([] : List (Addr × Obj)) from hp) (by simp), e0.hok.kept hk, ?_⟩
  · exact name_of_addr x.apart (PySem.mem_of_lookup h1) (PySem.mem_of_lookup h2)
  · have hy : scope.names.lookup y = some .cell ∨ scope.names.lookup y = some .free := hy
    rcases hy with hy | hy
    · exact cell_has hy
    · exact absurd rfl (S.nofree _ (PySem.mem_of_lookup hy))
  · exact Nat.le_of_lt (x.above y c (PySem.mem_of_lookup h))
  · have hi : i < vs.length := by
      unfold start at h2
      by_cases hi : i < vs.length
      · exact hi
      · rw [List.getElem?_append_right (by simpa using hi)] at h2
        rw [List.getElem?_replicate] at h2
        split at h2 <;> cases h2
    have ha : vs[i]? = some v := by
      unfold start at h2
      rw [List.getElem?_append_left (by simpa using hi), List.getElem?_map] at h2
      cases e : vs[i]? with
      | none => rw [e] at h2; cases h2
      | some a => rw [e] at h2; cases h2; rfl
    obtain ⟨u, hu, rv⟩ := r.get ha
    have hp : ps[i]? = some y := by
      rw [← S.pre, List.getElem?_take_of_lt (by omega)]; exact h1
    have ndP : ps.Nodup := by rw [← S.pre]; exact S.nd.sublist (List.take_sublist _ _)
    refine ⟨u, rv, ?_⟩
    rcases S.par y (List.mem_of_getElem? hp) with k | k
    · exact .inl ⟨k, bindL_get ndP hp hu k⟩
    · obtain ⟨c, e⟩ := cell_has (n := s.heap.objs.size + 1) k
      refine .inr ⟨.inl k, c, e, ?_⟩
      have q := x.cell y c e
      rw [bindC_get ndP hp hu (by show scope.names.lookup y ≠ _; rw [k]; decide)] at q
      exact q
  · exact e0.hok.fresh (Nat.le_of_lt (x.above y c (PySem.mem_of_lookup h)))
  · unfold start
    show _ = N.length
    rw [List.length_append, List.length_map, List.length_replicate]
    omega
theorem fn_of {CX : CXT} {P : Program} {w : World} {K : PySem.W.Frag} {mg : Str → Option Value} {base : Heap} {k : Nat} {f : Addr} {name qual : Str} {params : Arguments} {body : List Stmt} {scope : Scope} {dV kV doc pm cdv ct oc : Value} {an od : Option Addr}
    {osl : Array (Option Value)} {N ps : List Str} {sp : Sp} (lk : K.lookup f = some ⟨oc, od, .func (PySem.W.fnOf name qual params body scope dV kV doc pm an cdv ct), osl⟩) (hcd : PySem.W.codeIn K cdv qual = true) (S : FnScope N ps scope)
    (len : ∀ vs H Q E, sp vs H Q E → vs.length = ps.length)
    (hbody : ∀ (A : Around) (outer : List Env) (s : Shared) (H : Hp) (vs : List V) (Q : VK) (E : XK), Room k (A.deeper (envOfC qual scope s.heap.objs.size f cdv)) → sp vs H Q E →
      ∃ t, PSs (cxOf CX P w K mg base N qual scope f cdv A outer s H E) body t ∧ t (Ends.fin Q) (start N vs) H) :
    FnOk P w K mg base CX (k + 1) f (PySem.W.fnOf name qual params body scope dV kV doc pm an cdv ct) ps sp := by
  refine ⟨len, fun A outer s H args us vs Q E hr e0 hb r hsp => ?_⟩
  have hl := len _ _ _ _ hsp
  have KX : K.In s.heap := e0.mod.kin.keeps fun b o e => (e0.bs b o e).1
  have lim : s.heap.NoLimit := e0.mod.nolimit.keeps fun b o e => (e0.bs b o e).1
  have hkind : ∀ y ∈ ps.zip us, scope.names.lookup y.1 = some .local ∨ (scope.names.lookup y.1 = some .cell ∧ ((cellsFrom (s.heap.objs.size + 1) scope.names []).lookup y.1).isSome = true) := fun ⟨n, v⟩ hy => by
    rcases S.par n (List.of_mem_zip hy).1 with q | q
    · exact .inl q
    · exact .inr ⟨q, PySem.W.cellsFrom_some _ _ _ (.inl q)⟩
  refine codeAny_call_function hr.depth (KX _ _ lk) rfl S.co S.gen rfl (PySem.W.codeRec_of KX hcd) (hb _ _ _ _ ?_)
  refine wpAny_newFunctionEnv_cells S.kind hkind fun env he s1 x => ?_
  subst he
  refine ⟨lim.keeps x.toInCall.keep, codeAny_func ?_⟩
  obtain ⟨t, ht, hq⟩ := hbody A outer s H vs Q E (hr.deeper _) hsp
  have I : Inv (cxOf CX P w K mg base N qual scope f cdv A outer s H E) [] (start N vs) H s1 := inv_start S hr.hd e0 hl r x
  refine wpAny_mono (ht [] s1 (start N vs) H _ I hq) (fun fl s' hs => ?_) fun e s' hs => hs
  have fin : ∀ {σ' : St} {H' : Hp} {v : V} {u : Value}, Inv (cxOf CX P w K mg base N qual scope f cdv A outer s H E) [] σ' H' s' → RelV v u → Q v H' → CE outer P w H s Q u s' :=
    fun {σ' H' v u} J rv q => ⟨v, H', J.os, J.bare, J.base, J.hok, rv, q⟩
  cases fl with
  | ret u =>
    obtain ⟨v, σ', H', J, rv, q⟩ := hs
    exact fin J rv q
  | next =>
    obtain ⟨σ', H', J, q⟩ := hs
    exact fin (v := V.non) (u := Value.none) J rfl q
  | brk =>
    obtain ⟨_, _, _, q⟩ := hs
    exact False.elim q
  | cont =>
    obtain ⟨_, _, _, q⟩ := hs
    exact False.elim q
end L2
namespace L2
open PySem PySem.Spec PyProof.Rows
section
variable {X : Cx} {x : Str} {p pos : Pos} {e : Expr} {es : List Expr} {t : TA} {id T : String} {r : List V → Hp → VK → Prop}
def tCB (r : List V → Hp → VK → Prop) (t : TA) : TE := fun σ H Q => t σ H fun vs H1 => r vs H1 Q
theorem pe_callB (hc : CallR X (.builtin id) r) (hg : Gl X x) (hm : X.mg x = none) (hv : bootBuiltins x = some (.builtin id)) (ha : PA X (e :: es) t) (hn : x ≠ "__name__" := by decide) (hdb : (x == ("__debug__" : Str)) = false := by decide)
    (he : starEach (e :: es) X.env = (false, eval e X.env) :: starEach es X.env := by rfl) (hpl : (backTo pos (starEach es X.env)).any (·.1) = false := by rfl) : PE X (.Call (.Name x p) (e :: es) [] pos) (tCB r t) := by
  intro pins s σ H Q I h
  refine wpAny_Call_Name_kw (ld_blt I hg hm hv ?_ hn hdb)
  exact PyProof.Rows.callWith_builtin1 (thn (ha pos pins s σ H _ I h) fun us s1 ⟨vs, H1, I1, r1, q1⟩ => hc pins s1 σ H1 vs us Q I1 r1 q1) he hpl
theorem pe_callTy (hc : CallR X (.type T) r) (hg : Gl X x) (hm : X.mg x = none) (hv : bootBuiltins x = some (.type T)) (ha : PA X (e :: es) t) (hn : x ≠ "__name__" := by decide) (hdb : (x == ("__debug__" : Str)) = false := by decide)
    (he : starEach (e :: es) X.env = (false, eval e X.env) :: starEach es X.env := by rfl) (hpl : (backTo pos (starEach es X.env)).any (·.1) = false := by rfl) : PE X (.Call (.Name x p) (e :: es) [] pos) (tCB r t) := by
  intro pins s σ H Q I h
  refine wpAny_Call_Name_kw (ld_blt I hg hm hv ?_ hn hdb)
  exact PyProof.Rows.callWith_type1 (thn (ha pos pins s σ H _ I h) fun us s1 ⟨vs, H1, I1, r1, q1⟩ => hc pins s1 σ H1 vs us Q I1 r1 q1) he hpl
end
end L2
namespace HT
open PySem PyProof.Rows
section
open PySem.SeqAt
open PySem.AutoSeq1 (wpAny_loadPart')
open PySem.MeetsSeq PySem.MeetsSeq2 PySem.MeetsSeq3
end
section
variable {prog : Program} {w : World} {A : Around} {E : Value → Shared → Prop} {s : Shared}
def sIx (n d : Nat) : Option Int → Nat
  | none => d
  | some v => if v < 0 then (v + (n : Int)).toNat else min v.toNat n
theorem sIx_nat (n d k : Nat) : sIx n d (some (k : Int)) = min k n := by
  show (if (k : Int) < 0 then ((k : Int) + (n : Int)).toNat else min (k : Int).toNat n) = min k n
  rw [if_neg (by omega), Int.toNat_natCast]
end
end HT
namespace L2
open PySem PySem.Spec PyProof.Rows
abbrev TO := St → Hp → (Option Int → Hp → Prop) → Prop
def PO (X : Cx) (e : Option Expr) (t : TO) : Prop :=
  ∀ (pins : List (Addr × Obj)) (s : Shared) (σ : St) (H : Hp) (Q : Option Int → Hp → Prop), Inv X pins σ H s → t σ H Q →
    wpAny (model X.prog X.w) X.A (evalPart e X.env) (fun u s' => ∃ o H', Inv X pins σ H' s' ∧ IsPart u o ∧ Q o H') X.xe s
def tNoPart : TO := fun _ H Q => Q none H
def tPart (t : TE) : TO := fun σ H Q => t σ H fun x H1 => IsInt x fun i => Q (some i) H1
section
variable {X : Cx} {e : Expr} {te : TE} {lo hi : Option Expr} {tl th : TO} {pos p2 : Pos}
theorem po_none : PO X none tNoPart := by
  intro pins s σ H Q I h
  rw [evalPart_none]
  exact wpAny_pure ⟨none, H, I, .none, h⟩
theorem po_some (h : PE X e te) : PO X (some e) (tPart te) := by
  intro pins s σ H Q I hw
  rw [evalPart_some]
  refine thn (h pins s σ H _ I hw) fun u s1 ⟨x, H1, I1, r1, q1⟩ => ?_
  obtain ⟨i, rfl, q⟩ := q1
  obtain ⟨t, rfl⟩ := r1
  exact ⟨some i, H1, I1, .int i t, q⟩
def SlR (X : Cx) (r : V → Option Int → Option Int → Hp → VK → Prop) : Prop :=
  ∀ (pins : List (Addr × Obj)) (s : Shared) (σ : St) (H : Hp) (x : V) (v vl vu : Value) (lo hi : Option Int) (sl : Addr) (Q : VK), Inv X pins σ H s → RelV x v → s.heap.IsSliceOf sl vl vu .none → IsPart vl lo → IsPart vu hi → r x lo hi H Q →
    ∃ T id, typeLookup (.type T) "__getitem__" = pure (some (.builtin id)) ∧ s.TypeIs v T ∧ wpAny (model X.prog X.w) X.A (getItem v (.ref sl)) (EP X pins σ Q) X.xe s
def tSl (r : V → Option Int → Option Int → Hp → VK → Prop) (te : TE) (tl th : TO) : TE := fun σ H Q => te σ H fun x H1 => tl σ H1 fun l H2 => th σ H2 fun u H3 => r x l u H3 Q
theorem pe_slice {r : V → Option Int → Option Int → Hp → VK → Prop} (hr : SlR X r) (he : PE X e te) (hl : PO X lo tl) (hu : PO X hi th) : PE X (.Subscript e (.Slice lo hi none p2) pos) (tSl r te tl th) := by
  intro pins s σ H Q I h
  refine Subscript_ (thn (he pins s σ H _ I h) fun v s1 ⟨x, H1, I1, r1, q1⟩ => ?_)
  refine wpAny_Slice (thn (hl pins s1 σ H1 _ I1 q1) fun vl s2 ⟨l, H2, I2, pl, q2⟩ => thn (hu pins s2 σ H2 _ I2 q2) fun vu s3 ⟨u, H3, I3, pu, q3⟩ => ?_)
  rw [evalPart_none]
  refine wpAny_pure ?_
  have I4 : Inv X pins σ H3 { s3 with heap := s3.heap.push { cls := .type "slice", data := .fields #[vl, vu, .none] } } := I3.kept (t' := s3.toks) fun b ob q => Heap.get?_push_of_some _ q
  obtain ⟨T, id, hT, ht, hg⟩ := hr pins { s3 with heap := s3.heap.push { cls := .type "slice", data := .fields #[vl, vu, .none] } } σ H3 x v vl vu l u s3.heap.objs.size Q I4 r1 (Heap.IsSliceOf.new ..) pl pu q3
  show wpAny (model X.prog X.w) X.A (subscriptTail e (.Slice lo hi none p2) v (.ref s3.heap.objs.size)) (EP X pins σ Q) X.xe { s3 with heap := s3.heap.push { cls := .type "slice", data := .fields #[vl, vu, .none] } }
  exact tail_any (ops := [.ref s3.heap.objs.size, v]) ht hT hg (by with_unfolding_all rfl)
def cutV (xs : List V) (lo hi : Option Int) : List V := (xs.drop (HT.sIx xs.length 0 lo)).take (HT.sIx xs.length xs.length hi - HT.sIx xs.length 0 lo)
theorem cutV_length (xs : List V) (lo hi : Option Int) : (cutV xs lo hi).length ≤ xs.length := by
  unfold cutV
  rw [List.length_take, List.length_drop]
  omega
inductive I_rSlT (K : PySem.W.Frag) (x : V) (lo : Option Int) (hi : Option Int) (H : Hp) (Q : VK) : Prop
  | mk (a : _) (xs : _) (q1 : x = .ref a) (q2 : SqT K H a xs) (q3 : ¬ (HT.sIx xs.length 0 lo = 0 ∧ HT.sIx xs.length xs.length hi = xs.length)) (q4 : ∀ p, H p = none → Q (.ref p) (upd H p (.tup (cutV xs lo hi))))
inductive I_rCatT (K : PySem.W.Frag) (x : V) (y : V) (H : Hp) (Q : VK) : Prop
  | mk (a : _) (b : _) (xs : _) (ys : _) (q1 : x = .ref a) (q2 : y = .ref b) (q3 : SqT K H a xs) (q4 : SqT K H b ys) (q5 : xs ≠ []) (q6 : xs.length + ys.length ≤ sizeLine) (q7 : (ys = [] → Q (.ref a) H)) (q8 : (ys ≠ [] → ∀ p, H p = none → Q (.ref p) (upd H p (.tup (xs ++ ys)))))
end
end L2
namespace L2
open PySem PySem.Spec PyProof.Rows
def ixN (n : Nat) (i : Int) : Option Nat := if 0 ≤ i then (if i < n then some i.toNat else none) else if -(n : Int) ≤ i then some (i + n).toNat else none
def atI {α : Type} (xs : List α) (i : Int) : Option α := (ixN xs.length i).bind fun j => xs[j]?
theorem ixN_seq {n : Nat} {i : Int} {j : Nat} (h : ixN n i = some j) : seqIndex? i n = some j ∧ j < n ∧ -(n : Int) ≤ i ∧ i < n := by
  unfold ixN at h
  by_cases h0 : 0 ≤ i
  · rw [if_pos h0] at h
    by_cases h1 : i < n
    · rw [if_pos h1] at h
      have e : i.toNat = j := Option.some.inj h
      exact ⟨by rw [seqIndex_of h0 h1, e], by omega, by omega, h1⟩
    · rw [if_neg h1] at h; cases h
  · rw [if_neg h0] at h
    by_cases h1 : -(n : Int) ≤ i
    · rw [if_pos h1] at h
      have e : (i + n).toNat = j := Option.some.inj h
      exact ⟨by rw [seqIndex_neg (by omega) h1, e], by omega, h1, by omega⟩
    · rw [if_neg h1] at h; cases h
theorem atI_get {α : Type} {xs : List α} {i : Int} {v : α} (h : atI xs i = some v) : ∃ j, seqIndex? i xs.length = some j ∧ xs[j]? = some v ∧ j < xs.length ∧ -(xs.length : Int) ≤ i ∧ i < xs.length := by
  unfold atI at h
  cases e : ixN xs.length i with
  | none => rw [e] at h; cases h
  | some j =>
    rw [e] at h
    obtain ⟨h1, h2, h3, h4⟩ := ixN_seq e
    exact ⟨j, h1, h, h2, h3, h4⟩
theorem atI_nat {α : Type} {xs : List α} {j : Nat} {v : α} (h : xs[j]? = some v) : atI xs (j : Int) = some v := by
  have hj : j < xs.length := (List.getElem?_eq_some_iff.mp h).1
  have e : ixN xs.length (j : Int) = some j := by
    unfold ixN
    rw [if_pos (by omega), if_pos (by omega)]; simp
  unfold atI; rw [e]; exact h
theorem atI_last {α : Type} (xs : List α) (v : α) : atI (xs ++ [v]) (-1) = some v := by
  have hl : (xs ++ [v]).length = xs.length + 1 := by simp
  have e : ixN (xs ++ [v]).length (-1) = some xs.length := by
    unfold ixN
    rw [hl, if_neg (by decide), if_pos (by omega)]
    congr 1
    omega
  unfold atI
  rw [e]
  show (xs ++ [v])[xs.length]? = some v
  simp
def PlainIx (b : Expr) : Prop := ∀ o i, subscripted b false o i = operate [o, i] (getItem o i)
def IxR (X : Cx) (r : R2) : Prop :=
  ∀ (value slice : Expr) (pins : List (Addr × Obj)) (s : Shared) (σ : St) (H : Hp) (x y : V) (v u : Value) (Q : VK), Inv X pins σ H s → RelV x v → RelV y u → r x y H Q →
    subscripted slice false v u = operate [v, u] (getItem v u) → wpAny (model X.prog X.w) X.A (subscriptTail value slice v u) (EP X pins σ Q) X.xe s
def MtR (X : Cx) (id : String) (r : V → List V → Hp → VK → Prop) : Prop :=
  ∀ (pins : List (Addr × Obj)) (s : Shared) (σ : St) (H : Hp) (x : V) (xs : List V) (v : Value) (us : List Value) (Q : VK), Inv X pins σ H s → RelV x v → Vals xs us → r x xs H Q →
    wpAny (model X.prog X.w) X.A (call (.builtin id) (v :: us)) (EP X pins σ Q) X.xe s
section
variable {X : Cx} {a b : Expr} {ta tb : TE} {pos : Pos}
theorem pe_ix {r : R2} (hr : IxR X r) (ha : PE X a ta) (hb : PE X b tb) (hs : PlainIx b) : PE X (.Subscript a b pos) (tOp r ta tb) := by
  intro pins s σ H Q I h
  exact Subscript_ (binT ha hb I h fun v u s2 x y H2 I2 rx ry q => hr a b pins s2 σ H2 x y v u Q I2 rx ry q (hs _ _))
inductive Ixd (S : Addr → List V → Prop) (x y : V) (Q : V → Prop) : Prop
  | mk (p : Addr) (xs : List V) (i : Int) (v : V) (h1 : x = .ref p) (h2 : y = .int i) (s : S p xs) (a : atI xs i = some v) (q : Q v)
def rIxL (K : PySem.W.Frag) : R2 := fun x y H Q => Ixd (SqL K H) x y fun v => Q v H
inductive I_rIxS  (x : V) (y : V) (H : Hp) (Q : VK) : Prop
  | mk (z : _) (i : _) (c : _) (q1 : x = .str z) (q2 : y = .int i) (q3 : z.length ≤ sizeLine) (q4 : atI z.cps.toList i = some c) (q5 : Q (.str ⟨#[c]⟩) H)
def rIxS : R2 := fun x y H Q => I_rIxS  x y H Q
theorem ix_list : IxR X (rIxL X.K) := by
  intro value slice pins s σ H x y v u Q I rx ry h hs
  obtain ⟨p, xs, i, z, rfl, rfl, hq, he, q⟩ := h
  cases rx
  obtain ⟨t, rfl⟩ := ry
  obtain ⟨its, r, pl, hz⟩ := I.list hq
  obtain ⟨j, h1, h2, h3, h4, h5⟩ := atI_get he
  obtain ⟨w, ew, rw'⟩ := r.get h2
  have hl := r.length
  have hn := line63
  have fin : EP X pins σ Q w s := ⟨z, H, I, rw', q⟩
  by_cases h0 : 0 ≤ i
  · have hj : i.toNat = j := by
      rw [seqIndex_of h0 h5] at h1
      exact Option.some.inj h1
    exact item_listR pl.isList h0 (by omega) (by rw [hj]; simpa using ew) fin hs
  · have hj : (i + (its.toArray.size : Int)).toNat = j := by
      rw [seqIndex_neg (by omega) h4] at h1
      rw [List.size_toArray, ← hl]
      exact Option.some.inj h1
    exact subscriptTail_builtinR (x := w) pl.isList.typeIs slot_list_getitem.lookup
      (wpAny_getItem_list_neg (Q := fun r s' => r = w ∧ EP X pins σ Q r s') pl.isList (by omega) (by rw [List.size_toArray] <;> omega) (by omega) (by rw [hj]; simpa using ew) ⟨rfl, fin⟩) hs
theorem ix_str : IxR X rIxS := by
  intro value slice pins s σ H x y v u Q I rx ry h hs
  obtain ⟨z, i, c, rfl, rfl, hz, he, q⟩ := h
  obtain ⟨t, rfl⟩ := rx
  obtain ⟨t', rfl⟩ := ry
  obtain ⟨j, h1, h2, h3, h4, h5⟩ := atI_get he
  have hl : z.cps.toList.length = z.length := by simp [Str.length]
  rw [hl] at h1 h4 h5
  have hn := line63
  exact tail_any (typeIs_str s z t) slot_str_getitem.lookup (getItem_str (c := c) (by
    have e1 : decide (i < -(2 ^ 63 : Int)) = false := decide_eq_false (by omega)
    have e2 : decide (i ≥ 2 ^ 63) = false := decide_eq_false (by omega)
    rw [e1, e2, Bool.or_false]) (by rw [h1]; simpa using h2) ⟨.str ⟨#[c]⟩, H, I.tok _, ⟨_, rfl⟩, q⟩) hs
theorem mapSeq_set (its : List Value) (n j : Nat) (u : Value) : Obj.mapSeq (·.setIfInBounds j u) { cls := .type "list", data := .seq its.toArray n } = { cls := .type "list", data := .seq (its.set j u).toArray n } := by
  simp [Obj.mapSeq]
theorem Inv.lst {pins : List (Addr × Obj)} {σ : St} {H : Hp} {s : Shared} {p : Addr} {xs : List V} (I : Inv X pins σ H s) (h : H p = some (.lst xs)) :
    ∃ (its : List Value) (n : Nat), Vals xs its ∧ s.heap.get? p = some { cls := .type "list", data := .seq its.toArray n } ∧ xs.length ≤ sizeLine := by
  obtain ⟨z, its, n, r, e⟩ := I.hok p _ h
  exact ⟨its, n, r, e, z⟩
theorem Inv.lstUpd {pins : List (Addr × Obj)} {σ : St} {H : Hp} {s : Shared} {p : Addr} {xs ys : List V} {its its' : List Value} {n n' : Nat} {f : Obj → Obj} (I : Inv X pins σ H s) (h : H p = some (.lst xs))
    (ho : s.heap.get? p = some { cls := .type "list", data := .seq its.toArray n }) (hf : f { cls := .type "list", data := .seq its.toArray n } = { cls := .type "list", data := .seq its'.toArray n' }) (r : Vals ys its') (hz : ys.length ≤ sizeLine) (t : Nat) :
    Inv X pins σ (upd H p (.lst ys)) { s with heap := s.heap.update p f, toks := t } := by
  have e : (s.heap.update p f).get? p = some { cls := .type "list", data := .seq its'.toArray n' } := by
    rw [Heap.get?_update_self f ho (by rw [hf] <;> rfl), hf]
  refine I.write (x := p) (e := p) (by rw [h]; trivial) (.inl rfl) (fun b u hb q => (Heap.get?_update_other _ _ (Ne.symm hb)).trans q) ⟨_, e⟩ ?_
  exact ⟨hz, its', n', r, e⟩
inductive I_rSetL  (o : V) (i : V) (v : V) (H : Hp) (Q : Hp → Prop) : Prop
  | mk (p : _) (xs : _) (k : _) (j : _) (q1 : o = .ref p) (q2 : i = .int k) (q3 : H p = some (.lst xs)) (q4 : ixN xs.length k = some j) (q5 : Q (upd H p (.lst (xs.set j v))))
def rSetL : V → V → V → Hp → (Hp → Prop) → Prop := fun o i v H Q => I_rSetL  o i v H Q
theorem set_list : PSet X rSetL := by
  intro pins s σ H o i v ov iv u Q I ro ri rv h
  obtain ⟨p, xs, k, j, rfl, rfl, hp, hj, q⟩ := h
  cases ro
  obtain ⟨t, rfl⟩ := ri
  obtain ⟨its, n, r, ho, hz⟩ := I.lst hp
  obtain ⟨h1, h2, h3, h4⟩ := ixN_seq hj
  have hl := r.length
  have hn := line63
  have I' : Inv X pins σ (upd H p (.lst (xs.set j v))) { s with heap := s.heap.update p (Obj.mapSeq (·.setIfInBounds j u)) } :=
    I.lstUpd hp ho (mapSeq_set its n j u) (r.set rv j) (by rw [List.length_set]; exact hz) s.toks
  by_cases h0 : 0 ≤ k
  · have hk : k.toNat = j := by
      rw [seqIndex_of h0 h4] at h1
      exact Option.some.inj h1
    exact PySem.W.ki_setAt ho h0 (by omega) (by rw [List.size_toArray, ← hl]; exact h4) (by rw [hk]; exact ⟨_, I', q⟩)
  · have hk : (k + (its.toArray.size : Int)).toNat = j := by
      rw [seqIndex_neg (by omega) h3] at h1
      rw [List.size_toArray, ← hl]
      exact Option.some.inj h1
    exact PySem.W.ki_setBack ho (by omega) (by rw [List.size_toArray, ← hl]; exact h3) (by omega) (by rw [hk]; exact ⟨_, I', q⟩)
theorem slice_bounds (lo hi : Option Int) (n : Nat) : (sliceBounds lo hi none n).1 = ((HT.sIx n 0 lo : Nat) : Int) ∧ (sliceBounds lo hi none n).2.1 = ((HT.sIx n n hi : Nat) : Int) ∧ (sliceBounds lo hi none n).2.2 = 1 := by
  refine ⟨?_, ?_, rfl⟩
  · cases lo with
    | none => simp [sliceBounds, HT.sIx]
    | some i =>
      simp only [sliceBounds, HT.sIx, Option.getD_none, show (1 : Int) > 0 by decide, if_true]
      by_cases h : i < 0
      · simp only [h, if_true] <;> omega
      · simp only [h, if_false] <;> omega
  · cases hi with
    | none => simp [sliceBounds, HT.sIx]
    | some i =>
      simp only [sliceBounds, HT.sIx, Option.getD_none, show (1 : Int) > 0 by decide, if_true]
      by_cases h : i < 0
      · simp only [h, if_true] <;> omega
      · simp only [h, if_false] <;> omega
theorem slicePick_cut (its : List Value) (lo hi : Option Int) : slicePick its.toArray lo hi none = ((its.drop (HT.sIx its.length 0 lo)).take (HT.sIx its.length its.length hi - HT.sIx its.length 0 lo)).toArray := by
  obtain ⟨h1, h2, h3⟩ := slice_bounds lo hi its.toArray.size
  unfold slicePick
  rw [h1, h2, h3]
  simp only [sliceRange_one, pick_run, List.size_toArray] <;> rfl
inductive I_rSlL (K : PySem.W.Frag) (x : V) (lo : Option Int) (hi : Option Int) (H : Hp) (Q : VK) : Prop
  | mk (a : _) (xs : _) (q1 : x = .ref a) (q2 : SqL K H a xs) (q3 : ∀ p, H p = none → Q (.ref p) (upd H p (.lst (cutV xs lo hi))))
def rSlL (K : PySem.W.Frag) : V → Option Int → Option Int → Hp → VK → Prop := fun x lo hi H Q => I_rSlL K x lo hi H Q
theorem sl_list : SlR X (rSlL X.K) := by
  intro pins s σ H x v vl vu lo hi sl Q I rx hs pl pu h
  obtain ⟨a, xs, rfl, hx, q⟩ := h
  cases rx
  obtain ⟨its, r, ht, hz⟩ := I.list hx
  have hlen := r.length
  refine ⟨"list", _, slot_list_getitem.lookup, ht.isList.typeIs, ?_⟩
  refine wpAny_getItem_list_slice ht.isList hs pl pu .none (by simp) ?_ (by rw [List.size_toArray] <;> omega)
  rw [slicePick_cut, ← hlen]
  refine ⟨.ref s.heap.objs.size, _, I.laid (t' := s.toks) (o := .lst (cutV xs lo hi)) (fun b ob q => Heap.get?_push_of_some _ q) (Nat.le_refl _) ?_, rfl, q _ (I.hok.fresh (Nat.le_refl _))⟩
  exact ⟨Nat.le_trans (cutV_length xs lo hi) hz, _, 0, (r.drop (HT.sIx xs.length 0 lo)).take (HT.sIx xs.length xs.length hi - HT.sIx xs.length 0 lo), Heap.get?_push_size _ rfl⟩
def flatV : V → Bool
  | .non => true
  | .bl _ => true
  | .int _ => true
  | .str _ => true
  | _ => false
def eqV : V → V → Bool
  | .non, .non => true
  | .bl a, .bl b => a == b
  | .bl a, .int b => (if a then 1 else 0) == b
  | .int a, .bl b => a == (if b then 1 else 0)
  | .int a, .int b => a == b
  | .str a, .str b => a == b
  | _, _ => false
theorem eqAt_V {A : Around} {s : Shared} {y x : V} {u v : Value} (ry : RelV y u) (rx : RelV x v) (fy : flatV y = true) (fx : flatV x = true) : SeqAt.EqAt A s u v (eqV y x) := by
  cases y with
  | non =>
    cases ry
    cases x with
    | non => cases rx; exact SeqAt.EqAt.same _
    | bl b => cases rx; exact SeqAt.EqAt.none_bool b
    | int b => obtain ⟨t, rfl⟩ := rx; exact SeqAt.EqAt.none_int b t
    | str b => obtain ⟨t, rfl⟩ := rx; exact SeqAt.EqAt.none_str b t
    | _ => exact absurd (show false = true from fx) Bool.false_ne_true
  | bl a =>
    cases ry
    cases x with
    | non => cases rx; exact SeqAt.EqAt.bool_none a
    | bl b => cases rx; exact SeqAt.EqAt.bool_bool a b
    | int b => obtain ⟨t, rfl⟩ := rx; exact SeqAt.EqAt.bool_int a b t
    | str b => obtain ⟨t, rfl⟩ := rx; exact SeqAt.EqAt.bool_str a b t
    | _ => exact absurd (show false = true from fx) Bool.false_ne_true
  | int a =>
    obtain ⟨t', rfl⟩ := ry
    cases x with
    | non => cases rx; exact SeqAt.EqAt.int_none a t'
    | bl b => cases rx; exact SeqAt.EqAt.int_bool a t' b
    | int b => obtain ⟨t, rfl⟩ := rx; exact SeqAt.EqAt.int_int a t' b t
    | str b => obtain ⟨t, rfl⟩ := rx; exact SeqAt.EqAt.int_str a t' b t
    | _ => exact absurd (show false = true from fx) Bool.false_ne_true
  | str a =>
    obtain ⟨t', rfl⟩ := ry
    cases x with
    | non => cases rx; exact SeqAt.EqAt.str_none a t'
    | bl b => cases rx; exact SeqAt.EqAt.str_bool a t' b
    | int b => obtain ⟨t, rfl⟩ := rx; exact SeqAt.EqAt.str_int a t' b t
    | str b => obtain ⟨t, rfl⟩ := rx; exact SeqAt.EqAt.str_str a t' b t
    | _ => exact absurd (show false = true from fx) Bool.false_ne_true
  | _ => exact absurd (show false = true from fy) Bool.false_ne_true
def eqU (x : V) (u : Value) : Bool := match u with
  | .none => eqV .non x
  | .bool b => eqV (.bl b) x
  | .int i _ => eqV (.int i) x
  | .str z _ => eqV (.str z) x
  | _ => false
theorem eqU_of {x y : V} {u : Value} (r : RelV y u) (f : flatV y = true) : eqU x u = eqV y x := by
  cases y with
  | non => cases r; rfl
  | bl b => cases r; rfl
  | int i => obtain ⟨t, rfl⟩ := r; rfl
  | str z => obtain ⟨t, rfl⟩ := r; rfl
  | _ => exact absurd (show false = true from f) Bool.false_ne_true
theorem any_eqU {x : V} : ∀ {xs : List V} {us : List Value}, Vals xs us → xs.all flatV = true → us.any (eqU x) = xs.any fun y => eqV y x
  | _, _, .nil, _ => rfl
  | y :: xs, u :: us, .cons r t, f => by
    rw [List.all_cons, Bool.and_eq_true] at f
    rw [List.any_cons, List.any_cons, eqU_of r f.1, any_eqU t f.2]
theorem mem_eqAt {A : Around} {s : Shared} {x : V} {v : Value} (rx : RelV x v) (fx : flatV x = true) : ∀ {xs : List V} {us : List Value}, Vals xs us → xs.all flatV = true → ∀ u ∈ us, SeqAt.EqAt A s u v (eqU x u)
  | _, _, .nil, _ => fun u hu => by cases hu
  | y :: xs, u :: us, .cons r t, f => fun u' hu => by
    rw [List.all_cons, Bool.and_eq_true] at f
    rcases List.mem_cons.mp hu with rfl | hu
    · rw [eqU_of r f.1]; exact eqAt_V r rx f.1 fx
    · exact mem_eqAt rx fx t f.2 u' hu
def inV (x : V) (xs : List V) : Bool := xs.any fun y => eqV y x
inductive I_rIn (K : PySem.W.Frag) (neg : Bool) (x : V) (y : V) (H : Hp) (Q : VK) : Prop
  | mk (p : _) (xs : _) (q1 : y = .ref p) (q2 : (SqL K H p xs ∨ SqT K H p xs)) (q3 : flatV x = true) (q4 : xs.all flatV = true) (q5 : Q (.bl (if neg then !inV x xs else inV x xs)) H)
def rIn (K : PySem.W.Frag) (neg : Bool) : R2 := fun x y H Q => I_rIn K neg x y H Q
theorem op_in_seq : OpR X (compareOp .In) (rIn X.K false) := by
  intro pins s σ H x y v u Q I rx ry h
  obtain ⟨p, xs, rfl, hq, fx, fs, q⟩ := h
  cases ry
  rcases hq with hq | hq
  · obtain ⟨its, r, pl, hz⟩ := I.list hq
    refine SeqAt.in_listAt (eqU x) pl.isList (fun w hw => mem_eqAt rx fx r fs w (by simpa using hw)) ⟨.bl _, H, I, rfl, ?_⟩
    rw [show its.toArray.any (eqU x) = its.any (eqU x) by simp, any_eqU r fs]
    exact q
  · obtain ⟨its, r, pl, hz⟩ := I.tuple hq
    refine SeqAt.in_tupleAt (eqU x) pl (fun w hw => mem_eqAt rx fx r fs w (by simpa using hw)) ⟨.bl _, H, I, rfl, ?_⟩
    rw [show its.toArray.any (eqU x) = its.any (eqU x) by simp, any_eqU r fs]
    exact q
theorem op_notIn_str : OpR X (compareOp .NotIn) (fun x y H Q => ∃ i j, x = .str i ∧ y = .str j ∧ Q (.bl (!(!(Builtin.Str.occurrences j i 0 j.length 1).isEmpty))) H) := by
  intro pins s σ H x y v u Q I rx ry h
  obtain ⟨i, j, rfl, rfl, q⟩ := h
  obtain ⟨t, rfl⟩ := rx
  obtain ⟨t', rfl⟩ := ry
  exact notIn_str ⟨.bl _, H, I, rfl, q⟩
theorem call_len_seq : CallR X (.builtin "len") (fun xs H Q => ∃ p ys, xs = [.ref p] ∧ (SqL X.K H p ys ∨ SqT X.K H p ys) ∧ Q (.int ys.length) H) := by
  intro pins s σ H xs us Q I r h
  obtain ⟨p, ys, rfl, hq, q⟩ := h
  obtain ⟨u, rfl, rx⟩ := vals1 r
  cases rx
  have hn := line63
  rcases hq with hq | hq
  · obtain ⟨its, r', pl, hz⟩ := I.list hq
    have hlen := r'.length
    exact Calls.call_len_list pl.isList (by simp only [List.size_toArray] <;> omega) ⟨.int ys.length, H, I.tok _, ⟨s.toks + 1, by rw [List.size_toArray, hlen]⟩, q⟩
  · obtain ⟨its, r', pl, hz⟩ := I.tuple hq
    have hlen := r'.length
    exact len_tuple pl (by simp only [List.size_toArray] <;> omega) ⟨.int ys.length, H, I.tok _, ⟨s.toks + 1, by rw [List.size_toArray, hlen]⟩, q⟩
theorem call_len_str : CallR X (.builtin "len") (fun xs H Q => ∃ z, xs = [.str z] ∧ z.length ≤ sizeLine ∧ Q (.int z.length) H) := by
  intro pins s σ H xs us Q I r h
  obtain ⟨z, rfl, hz, q⟩ := h
  obtain ⟨u, rfl, t, rfl⟩ := vals1 r
  have hn := line63
  exact len_str (by omega) ⟨.int z.length, H, I.tok _, ⟨_, rfl⟩, q⟩
theorem call_list_of : CallR X (.type "list") (fun xs H Q => ∃ p ys, xs = [.ref p] ∧ (SqL X.K H p ys ∨ SqT X.K H p ys) ∧ ∀ l, H l = none → Q (.ref l) (upd H l (.lst ys))) := by
  intro pins s σ H xs us Q I r h
  obtain ⟨p, ys, rfl, hq, q⟩ := h
  obtain ⟨u, rfl, rx⟩ := vals1 r
  cases rx
  have fin : ∀ (its : List Value), Vals ys its → ys.length ≤ sizeLine → ∀ (h' : Heap) (c' : Nat), (∀ b o', s.heap.get? b = some o' → h'.get? b = some o') →
      h'.get? s.heap.objs.size = some { cls := .type "list", dict := none, data := .seq its.toArray c', slots := #[] } → EP X pins σ Q (.ref s.heap.objs.size) { s with heap := h' } := fun its r' hz h' c' kp e =>
    ⟨.ref s.heap.objs.size, _, I.laid (t' := s.toks) kp (Nat.le_refl _) (show ObjOk X.prog X.w _ h' _ (.lst ys) from ⟨hz, its, c', r', e⟩), rfl, q _ (I.hok.fresh (Nat.le_refl _))⟩
  rcases hq with hq | hq
  · obtain ⟨its, r', pl, hz⟩ := I.list hq
    have hlen := r'.length
    obtain ⟨o, ho, hc, n, hd⟩ := pl.isList
    exact call_list_seq p (.inl rfl) ho hc hd (fun h' c' kp e => fin its r' hz h' c' kp e) (by simp only [List.size_toArray] <;> omega)
  · obtain ⟨its, r', pl, hz⟩ := I.tuple hq
    have hlen := r'.length
    obtain ⟨o, ho, hc, n, hd⟩ := pl
    exact call_list_seq p (.inr rfl) ho hc hd (fun h' c' kp e => fin its r' hz h' c' kp e) (by simp only [List.size_toArray] <;> omega)
def tyV (K : PySem.W.Frag) (T : String) (x : V) (H : Hp) : Prop := match x with
  | .str _ => T = "str"
  | .int _ => T = "int"
  | .ref p => (T = "list" ∧ ∃ xs, SqL K H p xs) ∨ (T = "tuple" ∧ ∃ o, K.lookup p = some o ∧ o.cls = .type "tuple" ∧ o.dict = none) ∨
      (T = "dict" ∧ ((∃ kvs, H p = some (.dK kvs)) ∨ ∃ kvs, H p = some (.dT kvs))) ∨ (T = "set" ∧ ∃ S n, H p = some (.set S n))
  | _ => False
theorem tyV_is {pins : List (Addr × Obj)} {σ : St} {H : Hp} {s : Shared} {T : String} {x : V} {v : Value} (I : Inv X pins σ H s) (r : RelV x v) (ty : tyV X.K T x H) :
    s.TypeIs v T ∧ ∀ a, v = .ref a → ∃ ob, s.heap.get? a = some ob ∧ ob.dict = none := by
  cases x with
  | str z =>
    obtain ⟨t, rfl⟩ := r
    cases (show T = "str" from ty)
    exact ⟨typeIs_str s z t, fun _ e => nomatch e⟩
  | int i =>
    obtain ⟨t, rfl⟩ := r
    cases (show T = "int" from ty)
    exact ⟨typeIs_int s i t, fun _ e => nomatch e⟩
  | ref p =>
    cases r
    rcases ty with ⟨rfl, xs, hq⟩ | ⟨rfl, o, hk, hc, hd⟩ | ⟨rfl, hk⟩ | ⟨rfl, S, n, hk⟩
    · obtain ⟨its, _, pl, _⟩ := I.list hq
      refine ⟨pl.isList.typeIs, fun a e => ?_⟩
      cases e
      obtain ⟨o, n, e, c, hd, _⟩ := pl
      exact ⟨o, e, hd⟩
    · refine ⟨⟨o, I.kIn p o hk, hc⟩, fun a e => ?_⟩
      cases e
      exact ⟨o, I.kIn _ o hk, hd⟩
    · have z : ∃ o, s.heap.get? p = some o ∧ o.ExactDict := by
        rcases hk with ⟨kvs, hk⟩ | ⟨kvs, hk⟩
        · obtain ⟨_, _, _, _, o, _, _, e, ex, _⟩ := I.hok p _ hk
          exact ⟨o, e, ex⟩
        · obtain ⟨_, _, _, _, o, _, _, e, ex, _⟩ := I.hok p _ hk
          exact ⟨o, e, ex⟩
      obtain ⟨o, e, ex⟩ := z
      refine ⟨⟨o, e, ex.1⟩, fun a e2 => ?_⟩
      cases e2
      exact ⟨o, e, ex.2.1⟩
    · obtain ⟨o, _, _, _, e, ex, _⟩ := I.hok p _ hk
      refine ⟨⟨o, e, ex.1⟩, fun a e2 => ?_⟩
      cases e2
      exact ⟨o, e, ex.2.1⟩
  | _ => exact False.elim ty
def tBM0 (K : PySem.W.Frag) (T : String) (r : V → List V → Hp → VK → Prop) (to : TE) : TE := fun σ H Q => to σ H fun x H1 => tyV K T x H1 ∧ r x [] H1 Q
def tBM (K : PySem.W.Frag) (T : String) (r : V → List V → Hp → VK → Prop) (to : TE) (t : TA) : TE := fun σ H Q => to σ H fun x H1 => tyV K T x H1 ∧ t σ H1 fun xs H2 => r x xs H2 Q
variable {o e : Expr} {es : List Expr} {to : TE} {t : TA} {name : Str} {apos cpos : Pos} {T id : String} {r : V → List V → Hp → VK → Prop}
theorem pe_bm0 (pa : PlainAttrs T) (slot : Slot T name id) (hty : typeOf (.builtin id) = pure (.type "method_descriptor")) (hm : MtR X id r) (ho : PE X o to)
    (hbase : attributeBase o name X.env (eval o X.env) = eval o X.env := by rfl) (hline : (apos.endLine == cpos.line) = true := by rfl) : PE X (.Call (.Attribute o name apos) [] [] cpos) (tBM0 X.K T r to) := by
  intro pins s σ H Q I h
  refine wpAny_Call_method0_late hbase hline (thn (ho pins s σ H _ I h) fun v s1 ⟨x, H1, I1, r1, ty, q1⟩ => ?_)
  obtain ⟨h1, h2⟩ := tyV_is I1 r1 ty
  exact ⟨T, id, pa, slot, hty, h1, h2, Calls.callWith_builtin rfl (PySem.evalArgs_none (hm pins s1 σ H1 x [] v [] Q I1 r1 .nil q1))⟩
theorem pe_bm (pa : PlainAttrs T) (slot : Slot T name id) (hty : typeOf (.builtin id) = pure (.type "method_descriptor")) (hm : MtR X id r) (ho : PE X o to) (ha : PA X (e :: es) t)
    (hbase : attributeBase o name X.env (eval o X.env) = eval o X.env := by rfl)
    (hfew : ((backTo cpos (starEach (e :: es) X.env)).all (fun x => !x.1) && (backToKw cpos (keywordEach [] X.env)).all (fun x => x.1.isSome)
      && decide ((e :: es).length + ([] : List Keyword).length + (if ([] : List Keyword).isEmpty then 0 else 1) < 30)) = true := by rfl)
    (hline : (apos.endLine == cpos.line) = true := by rfl) (hs : starEach (e :: es) X.env = (false, eval e X.env) :: starEach es X.env := by rfl) (hplain : (backTo cpos (starEach es X.env)).any (·.1) = false := by rfl) :
    PE X (.Call (.Attribute o name apos) (e :: es) [] cpos) (tBM X.K T r to t) := by
  intro pins s σ H Q I h
  refine wpAny_Call_method_late hbase hfew hline rfl (thn (ho pins s σ H _ I h) fun v s1 ⟨x, H1, I1, r1, ty, q1⟩ => ?_)
  obtain ⟨h1, h2⟩ := tyV_is I1 r1 ty
  refine ⟨T, id, pa, slot, hty, h1, h2, ?_⟩
  have hA := ha cpos pins s1 σ H1 _ I1 q1
  rw [hs] at hA ⊢
  refine Calls.callWith_builtin (by show (false || (backTo cpos (starEach es X.env)).any (·.1)) = false; rw [hplain] <;> rfl) (Calls.evalArgs_plain ?_)
  exact thn hA fun us s2 ⟨vs, H2, I2, r2, q2⟩ => hm pins s2 σ H2 x vs v us Q I2 r1 r2 q2
end
end L2
namespace L2
open PySem PySem.Spec PyProof.Rows
def MtM (X : Cx) (id : String) (r : V → List V → Hp → VK → Prop) : Prop :=
  ∀ (pins : List (Addr × Obj)) (s : Shared) (σ : St) (H : Hp) (x : V) (xs : List V) (v : Value) (us : List Value) (Q : VK), Inv X pins σ H s → RelV x v → Vals xs us → r x xs H Q →
    wpAny (model X.prog X.w) X.A (call (.builtin id) (v :: us)) (EP X pins σ Q) X.xe s
theorem Vals.one : ∀ {x : V} {us : List Value}, Vals [x] us → ∃ u, us = [u] ∧ RelV x u
  | _, _, .cons r .nil => ⟨_, rfl, r⟩
theorem Vals.zero : ∀ {us : List Value}, Vals [] us → us = []
  | _, .nil => rfl
theorem Vals.dropLast {xs : List V} {us : List Value} (h : Vals xs us) : Vals xs.dropLast us.dropLast := by
  induction h with
  | nil => exact .nil
  | cons r t ih =>
    cases t with
    | nil => exact .nil
    | cons q t' => exact .cons r ih
theorem Vals.rep {xs : List V} {us : List Value} (h : Vals xs us) : ∀ k : Nat, Vals (List.replicate k xs).flatten (List.replicate k us).flatten
  | 0 => .nil
  | k + 1 => by
    rw [List.replicate_succ, List.replicate_succ, List.flatten_cons, List.flatten_cons]
    exact Vals.append h (Vals.rep h k)
theorem erase_last {α : Type} (l : List α) : l.eraseIdx (l.length - 1) = l.dropLast := by
  induction l with
  | nil => rfl
  | cons a r ih =>
    cases r with
    | nil => rfl
    | cons b r =>
      have e : (a :: b :: r).length - 1 = ((b :: r).length - 1) + 1 := by
        have h1 : (a :: b :: r).length = r.length + 2 := rfl
        have h2 : (b :: r).length = r.length + 1 := rfl
        omega
      rw [e, List.eraseIdx_cons_succ, ih]
      all_goals rfl
theorem foldl_rep (its : List Value) : ∀ (k : Nat) (acc : List Value),
    List.foldl (fun x1 x2 => x1 ++ x2) acc.toArray (List.replicate k its.toArray) = (acc ++ (List.replicate k its).flatten).toArray
  | 0, acc => by simp
  | k + 1, acc => by
    have e : acc.toArray ++ its.toArray = (acc ++ its).toArray := by simp
    have e2 : (acc ++ its) ++ (List.replicate k its).flatten = acc ++ (List.replicate (k + 1) its).flatten := by
      rw [List.replicate_succ, List.flatten_cons, List.append_assoc]
    rw [← e2, ← foldl_rep its k (acc ++ its), ← e, List.replicate_succ, List.foldl_cons]
section
variable {X : Cx} {pins : List (Addr × Obj)} {σ : St} {H : Hp} {s : Shared} {l b : Addr} {xs ys zs : List V}
theorem Inv.lset {its its' : List Value} {n : Nat} {f : Array Value → Array Value} {t' : Nat} (I : Inv X pins σ H s) (hH : H l = some (.lst xs))
    (e : s.heap.get? l = some { cls := .type "list", data := .seq its.toArray n }) (hf : f its.toArray = its'.toArray) (hv : Vals ys its') (hz : ys.length ≤ sizeLine) :
    Inv X pins σ (upd H l (.lst ys)) { s with heap := s.heap.update l (Obj.mapSeq f), toks := t' } := by
  have q := PySem.IsL.update e f
  rw [hf] at q
  refine I.write (x := l) (e := l) (by rw [hH]; exact trivial) (.inl rfl) (fun b' u hb hu => (Heap.get?_update_other s.heap (Obj.mapSeq f) (Ne.symm hb)).trans hu) ⟨_, q⟩ ?_
  exact ⟨hz, its', _, hv, q⟩
theorem Inv.lnew {its : List Value} {t' : Nat} (I : Inv X pins σ H s) (hv : Vals ys its) (hz : ys.length ≤ sizeLine) :
    Inv X pins σ (upd H s.heap.objs.size (.lst ys)) { s with heap := s.heap.push { cls := .type "list", data := .seq its.toArray }, toks := t' } :=
  I.laid (fun _ _ q => Heap.get?_push_of_some _ q) (Nat.le_refl _) ⟨hz, its, 0, hv, Heap.get?_push_size _ rfl⟩
theorem Inv.fresh (I : Inv X pins σ H s) : H s.heap.objs.size = none := I.hok.fresh (Nat.le_refl _)
theorem Inv.lstM (I : Inv X pins σ H s) (hH : H l = some (.lst xs)) : xs.length ≤ sizeLine ∧ ∃ (its : List Value) (n : Nat), Vals xs its ∧ xs.length = its.length ∧ s.heap.get? l = some { cls := .type "list", data := .seq its.toArray n } := by
  obtain ⟨z, its, n, r, e⟩ := I.hok l _ hH
  exact ⟨z, its, n, r, r.length, e⟩
theorem notLongL {n : Nat} (h : n ≤ sizeLine) : Builtin.List.listTooLong n = false := by
  unfold Builtin.List.listTooLong
  exact decide_eq_false (by omega)
end
section
variable {X : Cx}
inductive I_rAppend  (x : V) (vs : List V) (H : Hp) (Q : VK) : Prop
  | mk (l : _) (xs : _) (y : _) (q1 : x = .ref l) (q2 : vs = [y]) (q3 : H l = some (.lst xs)) (q4 : xs.length < sizeLine) (q5 : Q .non (upd H l (.lst (xs ++ [y]))))
def rAppend : V → List V → Hp → VK → Prop := fun x vs H Q => I_rAppend  x vs H Q
theorem mt_append : MtM X "list.append" rAppend := by
  intro pins s σ H x vs v us Q I rx rv h
  obtain ⟨l, xs, y, rfl, rfl, hH, hz, q⟩ := h
  cases rx
  obtain ⟨u, rfl, ru⟩ := rv.one
  obtain ⟨z, its, n, r, hl, e⟩ := I.lstM hH
  refine call_meets F.slot_list_append ⟨_, e, rfl⟩ F.entry_list_append (F.args_list_append_2 _ _) (PySem.list_append l its.toArray n u (by rw [List.size_toArray]; omega)) ⟨e, ?_⟩
  refine ⟨.non, _, I.lset (its' := its ++ [u]) hH e (by simp) (r.append (.cons ru .nil)) ?_, rfl, q⟩
  rw [List.length_append, List.length_singleton]
  omega
inductive I_rExtend  (x : V) (vs : List V) (H : Hp) (Q : VK) : Prop
  | mk (l : _) (b : _) (xs : _) (zs : _) (q1 : x = .ref l) (q2 : vs = [.ref b]) (q3 : H l = some (.lst xs)) (q4 : H b = some (.lst zs)) (q5 : xs.length + zs.length ≤ sizeLine) (q6 : Q .non (upd H l (.lst (xs ++ zs))))
def rExtend : V → List V → Hp → VK → Prop := fun x vs H Q => I_rExtend  x vs H Q
theorem mt_extend : MtM X "list.extend" rExtend := by
  intro pins s σ H x vs v us Q I rx rv h
  obtain ⟨l, b, xs, zs, rfl, rfl, hH, hB, hz, q⟩ := h
  cases rx
  obtain ⟨u, rfl, ru⟩ := rv.one
  cases ru
  obtain ⟨z, its, n, r, hl, e⟩ := I.lstM hH
  obtain ⟨z2, its2, n2, r2, hl2, e2⟩ := I.lstM hB
  have hsz : its.toArray.size + its2.toArray.size ≤ sizeLine := by rw [List.size_toArray, List.size_toArray]; omega
  have hlong : ¬ (!its.toArray.isEmpty && Builtin.List.listTooLong (its.toArray.size + its2.toArray.size)) = true := by
    rw [notLongL hsz, Bool.and_false]
    exact Bool.false_ne_true
  refine call_meets F.slot_list_extend ⟨_, e, rfl⟩ F.entry_list_extend (F.args_list_extend_2 _ _)
    (AutoSeq1.list_extend_list_list_0 l its.toArray n b its2.toArray n2 hlong (by rw [List.size_toArray]; omega) (by omega)) ⟨e, e2, ?_⟩
  refine ⟨.non, _, I.lset (its' := its ++ its2) hH e (by simp) (r.append r2) ?_, rfl, q⟩
  rw [List.length_append]
  omega
inductive I_rPop  (x : V) (vs : List V) (H : Hp) (Q : VK) : Prop
  | mk (l : _) (xs : _) (y : _) (q1 : x = .ref l) (q2 : vs = []) (q3 : H l = some (.lst xs)) (q4 : xs[xs.length - 1]? = some y) (q5 : Q y (upd H l (.lst xs.dropLast)))
def rPop : V → List V → Hp → VK → Prop := fun x vs H Q => I_rPop  x vs H Q
theorem mt_pop : MtM X "list.pop" rPop := by
  intro pins s σ H x vs v us Q I rx rv h
  obtain ⟨l, xs, y, rfl, rfl, hH, hy, q⟩ := h
  cases rx
  have hus := rv.zero
  subst hus
  obtain ⟨z, its, n, r, hl, e⟩ := I.lstM hH
  obtain ⟨u, hu, ru⟩ := r.get hy
  have hy' : its.toArray[its.toArray.size - 1]? = some u := by
    show its.toArray[its.length - 1]? = some u
    rw [← Array.getElem?_toList, ← hl]
    exact hu
  refine call_meets F.slot_list_pop ⟨_, e, rfl⟩ F.entry_list_pop (F.args_list_pop_1 _) (MeetsSeq.list_pop_last l its.toArray n u hy' (by rw [List.size_toArray]; omega)) ⟨e, ?_⟩
  refine ⟨y, _, I.lset (its' := its.dropLast) hH e ?_ r.dropLast ?_, ru, q⟩
  · show its.toArray.eraseIdxIfInBounds (its.toArray.size - 1) = its.dropLast.toArray
    rw [List.size_toArray, List.eraseIdxIfInBounds_toArray, erase_last]
  · rw [List.length_dropLast]
    omega
inductive I_rCat  (x : V) (y : V) (H : Hp) (Q : VK) : Prop
  | mk (l : _) (b : _) (xs : _) (zs : _) (q1 : x = .ref l) (q2 : y = .ref b) (q3 : H l = some (.lst xs)) (q4 : H b = some (.lst zs)) (q5 : xs.length + zs.length ≤ sizeLine) (q6 : ∀ p, H p = none → Q (.ref p) (upd H p (.lst (xs ++ zs))))
inductive I_rRep  (x : V) (y : V) (H : Hp) (Q : VK) : Prop
  | mk (l : _) (k : _) (xs : _) (q1 : x = .ref l) (q2 : y = .int k) (q3 : H l = some (.lst xs)) (q4 : -(2 ^ 63) ≤ k) (q5 : k < 2 ^ 63) (q6 : xs.length * k.toNat ≤ sizeLine) (q7 : ∀ p, H p = none → Q (.ref p) (upd H p (.lst (List.replicate k.toNat xs).flatten)))
def rRep : R2 := fun x y H Q => I_rRep  x y H Q
theorem len_rep {α : Type} (xs : List α) (k : Nat) : (List.replicate k xs).flatten.length = k * xs.length := by
  induction k with
  | zero => simp
  | succ k ih => rw [List.replicate_succ, List.flatten_cons, List.length_append, ih, Nat.succ_mul, Nat.add_comm]
theorem op_rep : OpR X (binaryOp .Mult) rRep := by
  intro pins s σ H x y v u Q I rx ry h
  obtain ⟨l, k, xs, rfl, rfl, hH, h1, h2, hz, q⟩ := h
  cases rx
  obtain ⟨t, rfl⟩ := ry
  obtain ⟨z, its, n, r, hl, e⟩ := I.lstM hH
  have hlen : its.toArray.size * k.toNat ≤ sizeLine := by rw [List.size_toArray, ← hl]; exact hz
  have hcap : ¬ its.toArray.size * k.toNat > (2 ^ 63 - 1) / 8 := by
    have : (sizeLine : Nat) ≤ (2 ^ 63 - 1) / 8 := by decide
    omega
  have hfit : ¬ (!Builtin.List.listFitsIndex k) = true := by
    rw [fitsIndex_both h1 h2]
    exact Bool.false_ne_true
  have hlong : ¬ Builtin.List.listTooLong (its.toArray.size * k.toNat) = true := by
    rw [notLongL hlen]
    exact Bool.false_ne_true
  have hnew : List.foldl (fun x1 x2 => x1 ++ x2) #[] (List.replicate (if its.toArray.isEmpty = true then 0 else k.toNat) its.toArray) = (List.replicate k.toNat its).flatten.toArray := by
    have f0 : ∀ m : Nat, List.foldl (fun x1 x2 => x1 ++ x2) #[] (List.replicate m its.toArray) = (List.replicate m its).flatten.toArray := fun m => by
      have := foldl_rep its m []
      rw [List.nil_append] at this
      exact this
    rw [f0]
    cases its with
    | nil => simp
    | cons a r' => rw [if_neg (by simp)]
  refine wpAny_binaryOp_repeat_ref (T := "list") (U := "int") (by decide) ⟨_, e, rfl⟩ (fun s' => typeIs_int s' k t) noFill_list_mul F.fills_int_mul F.slot_int_rmul repeat_list F.slot_int_index.lookup
    (call_meets F.slot_int_rmul (typeIs_int s k t) F.entry_int_rmul (F.args_int_rmul_2 _ _) (int___rmul___int_list k t l its.toArray n)
      ⟨e, rfl, ⟨_, e, rfl⟩, call_meets F.slot_list_mul ⟨_, e, rfl⟩ F.entry_list_mul (F.args_list_mul_2 _ _) (AutoListH.list___mul___list_int_3 l its.toArray n k t hfit hcap hlong) ⟨e, ?_⟩⟩)
  rw [hnew]
  exact ⟨.ref _, _, I.lnew (t' := s.toks) (r.rep k.toNat) (by rw [len_rep, Nat.mul_comm]; exact hz), rfl, q _ I.fresh⟩
end
section
variable {prog : Program} {w : World} {A : Around} {E : Value → Shared → Prop} {s : Shared}
set_option maxRecDepth 100000 in
end
section
variable {X : Cx}
end
end L2
namespace Att
open PySem PySem.W PySem.Calls PyProof.Rows
theorem ints_of_wellAll {P : Params} {h : Heap} : ∀ (ns : List Int) (vs : List Value), WellAll P h vs (ns.map WData.int) → IntsAre vs ns := by
  intro ns
  induction ns with
  | nil =>
    intro vs w
    rw [List.map_nil] at w
    cases w
    exact .nil
  | cons n ns ih =>
    intro vs w
    rw [List.map_cons] at w
    cases w with
    | cons a b =>
      cases a
      exact .cons _ _ (ih _ b)
theorem script_of {l : OpenLaw} {n : Nat} (hn : l.most = some n) {P : Params} {h : Heap} {args : List WData} {vals : List Value}
    (hpre : l.row.toRowW.claim.pre args = true) (hwl : WellAll P h vals args) :
    ∃ a vs ns, vals = [Value.ref a] ∧ args = [WData.list (ns.map WData.int)] ∧ h.get? a = some { cls := .type "list", data := .seq vs.toArray } ∧ IntsAre vs ns ∧ ns.length ≤ n := by
  have hsh : WShape.hasAll [] args [.list .int] = true := (pre_splitW hpre).1
  have hc : l.pre.holds [] { args := args } = true := (pre_splitW hpre).2
  obtain ⟨d, r, rfl, h1, h2⟩ := hasAllW_cons hsh
  obtain rfl := hasAllW_nil h2
  obtain ⟨xs, rfl, h3⟩ := hasW_list h1
  obtain ⟨ns, rfl⟩ := items_int h3
  have hlen : ns.length ≤ n := by
    unfold OpenLaw.pre at hc
    have h4 : (WTm.not (.lt (.lit (.int (n : Int))) (.len (.arg 0)))).holds [] { args := [.list (ns.map .int)] } = true := by
      have h4 := (holds_andW hc).1
      rw [hn] at h4
      exact h4
    have h5 := condW_of h4 (w_not (w_lt w_lit (w_len_list (w_arg rfl))))
    rw [List.length_map] at h5
    refine Nat.le_of_not_lt fun q => ?_
    have q' : (n : Int) < ((ns.length : Nat) : Int) := by omega
    first
      | (rw [decide_eq_true q'] at h5; exact absurd h5 (by decide))
      | (simp at h5; omega)
  cases hwl with
  | cons w1 w2 =>
    cases w2
    cases w1 with
    | list ho hall => exact ⟨_, _, ns, rfl, rfl, ho, ints_of_wellAll ns _ hall, hlen⟩
theorem post_true (l : OpenLaw) (args : List WData) : l.row.toRowW.claim.post args (.bool true) args = true :=
  postW_of (r := l.row.toRowW) (X := (true == true))
    (show WShape.has [] (.bool true) .bool = true by first | rfl | decide | simp [WShape.has, WShape.arms, WShape.armsAll])
    (show (WTm.eq .res (.lit (.bool true))).value [] { args := args, res := some (.bool true), after := args } = some (.bool (true == true)) from w_eq_bool (w_res rfl) w_lit) rfl
theorem attach_call {l : OpenLaw} {n : Nat} {q : Program} {loose : List Str} {XP : (Str → Option Value) → Heap → Prop} {YP : World → Heap → Prop} {d : DefRec}
    (hn : l.most = some n) (hdf : d.params.defaults = [])
    (call : ∀ (w : World) (s₀ s₁ : Shared) (mg mb : Str → Option Value) (fa : Addr) (o : Obj) (pm cd doc : Value) (a : Addr) (vs : List Value) (ns : List Int),
      Ground q loose [] XP w s₀ mg mb s₁.heap → YP w s₁.heap →
      s₁.heap.get? fa = some o → o.data = .func (docDef d.name d.params d.body d.scope pm cd doc) → s₁.heap.CodeRec cd d.name → mg d.name = some (.ref fa) →
      s₁.heap.get? a = some { cls := .type "list", data := .seq vs.toArray } → IntsAre vs ns → ns.length ≤ n → s₁.gens = #[] →
      codeAny (model l.prog w) callerA (.call (.ref fa) ⟨[.ref a], []⟩) (fun r s' => r = .ok (.ret (.bool true)) ∧ OldK s₁.heap s'.heap ∧ s'.os = s₁.os ∧ AllBare s'.gens) s₁) :
    WalkO q loose XP YP l.row.toRowW d [] (fun f vs => PySem.call f vs) := by
  intro w s₀ s₁ mg mb G Y fa o pm cd doc dV kV ho hd hcd hD hmg hg args vals as hpre hlay hrd hwl hlo
  obtain rfl : dV = .none := Dflts.none hD hdf
  obtain rfl : kV = .none := Dflts.noKw hD
  obtain ⟨a, vs, ns, rfl, rfl, hobj, hints, hlen⟩ := script_of hn hpre hwl
  refine enter_call (codeAny_mono (call w s₀ s₁ mg mb fa o pm cd doc a vs ns G Y ho (fd_plain hd) hcd hmg hobj hints hlen hg) fun r s' hq => ?_)
  obtain ⟨rfl, h2, h3, h4⟩ := hq
  exact ⟨.inl ⟨.bool true, .bool true, [], rfl, fun _ => rfl, .bool true, post_true l _, fun _ => ⟨List.Pairwise.nil, fun _ hm => (nomatch hm)⟩⟩, h2, h3, h4⟩
section
variable {prog : Program} {w : World} {A : Around} {E : Value → Shared → Prop} {s : Shared} {K : Frag}
def ledger (h : Heap) (L d : Addr) : List (Addr × Obj) := (List.range h.objs.size).filterMap fun a => if a = L ∨ a = d then none else (h.get? a).map fun o => (a, o)
end
end Att
namespace L2
open PySem PySem.Spec PyProof.Rows
theorem vals_ints : ∀ {vs : List Value} {ns : List Int}, IntsAre vs ns → Vals (ns.map V.int) vs
  | _, _, .nil => .nil
  | _, _, .cons n t h => .cons ⟨t, rfl⟩ (vals_ints h)
def Only (H : Hp) : Prop := ∀ b, H b = none ∨ ∃ o xs, H b = some (.frz o (.lst xs))
theorem law_call {P : Program} {w : World} {K : PySem.W.Frag} {mg mb : Str → Option Value} {CX : CXT} {k : Nat} {fa a : Addr} {fd : FuncData} {x : Str} {sp : Sp} {s₁ : Shared} {vs : List Value} {ns : List Int}
    (KX : K.In s₁.heap) (hns : s₁.heap.Ns mainGlobals mg) (hb : s₁.heap.Ns builtinsNs mb) (hbb : ∀ x : Str, x ≠ "__name__" → mb x = bootBuiltins x) (hlim : s₁.heap.NoLimit) (hg : s₁.gens = #[])
    (ha : s₁.heap.get? a = some { cls := .type "list", data := .seq vs.toArray }) (hi : IntsAre vs ns) (hl : ns.length ≤ sizeLine) (hr : Room k callerA)
    (F : ∀ base : Heap, K.In base → base.Ns mainGlobals mg → FnOk P w K mg base CX k fa fd [x] sp) (hbind : ∀ (s : Shared) (u : Value), BindsTo s fd ⟨[u], []⟩ [(x, u)])
    (hsp : ∀ H : Hp, Only H → SqL K H a (ns.map V.int) → sp [.ref a] H (fun v _ => v = .bl true) fun _ _ _ => False)
    (hCX : ∀ H e s', CX [] H s₁ (fun _ _ _ => False) e s' → False) :
    codeAny (model P w) callerA (.call (.ref fa) ⟨[.ref a], []⟩) (fun r s' => r = .ok (.ret (.bool true)) ∧ OldK s₁.heap s'.heap ∧ s'.os = s₁.os ∧ AllBare s'.gens) s₁ := by
  have rv := vals_ints hi
  have lenV := hi.length
  have core : ∀ H : Hp, Only H → SqL K H a (ns.map V.int) → HOk P w H s₁.heap → (∀ b, H b ≠ none → b = a) → (H a ≠ none → K.lookup a = none) →
      codeAny (model P w) callerA (.call (.ref fa) ⟨[.ref a], []⟩) (fun r s' => r = .ok (.ret (.bool true)) ∧ OldK s₁.heap s'.heap ∧ s'.os = s₁.os ∧ AllBare s'.gens) s₁ := by
    intro H hO hS hok hA hK
    have base_of : ∀ {b : Addr} {o : Obj}, s₁.heap.get? b = some o → H b = none → (hidT s₁.heap H).get? b = some o := fun e n => hidT_get e n
    have noA : ∀ {b : Addr} {o : Obj} {es : Array DictEntry} {ep : Nat}, s₁.heap.get? b = some o → o.data = .dict es ep → H b = none := fun {b o es ep} e d => by
      cases q : H b with
      | none => rfl
      | some u =>
        have e' : b = a := hA b (by rw [q]; simp)
        subst e'
        rw [ha] at e; cases e
        have d' : Data.seq vs.toArray _ = Data.dict es ep := d
        cases d'
    have nsK : ∀ {b : Addr} {m : Str → Option Value}, s₁.heap.Ns b m → (hidT s₁.heap H).Ns b m := fun {b m} ⟨o, es, ep, e, d, r⟩ => ⟨o, es, ep, base_of e (noA e d), d, r⟩
    have hKb : K.In (hidT s₁.heap H) := fun b o e => base_of (KX b o e) (by
      cases q : H b with
      | none => rfl
      | some u =>
        have e' : b = a := hA b (by rw [q]; simp)
        subst e'
        rw [hK (by rw [q]; simp)] at e; cases e)
    have hM : Mod K mg (hidT s₁.heap H) := ⟨hKb, nsK hns, ⟨mb, nsK hb, hbb⟩, let ⟨mc, h1, h2⟩ := hlim; ⟨mc, nsK h1, h2⟩⟩
    have e0 : Env0 P w K mg (hidT s₁.heap H) callerA [] s₁ H := ⟨rfl, hM, fun b o e => of_hidT e, Nat.le_of_eq (hidT_size _ _), trivial, fun b hb => absurd (show b ∈ ([] : List Addr) from hb) (by simp), hok, .of_eq hg⟩
    refine codeAny_mono ((F _ hKb (nsK hns)).run callerA [] s₁ H ⟨[.ref a], []⟩ [.ref a] [.ref a] _ _ hr e0 (hbind s₁ (.ref a)) (.cons rfl .nil) (hsp H hO hS)) fun r s' h => ?_
    cases r with
    | error e => exact (hCX H e s' h).elim
    | ok fl =>
      cases fl with
      | next => exact False.elim h
      | brk => exact False.elim h
      | cont => exact False.elim h
      | ret u =>
        obtain ⟨v, H', os, bare, un, hok', r', q⟩ := h
        have q' : v = .bl true := q
        subst q'
        obtain rfl : u = Value.bool true := r'
        refine ⟨rfl, OldK.of_keep fun b o e => ?_, os, bare⟩
        cases q : H b with
        | none => exact un.keep b o e q (by intro z; exact absurd (show b ∈ ([] : List Addr) from z) (by simp)) (by simp)
        | some u =>
          rcases hO b with z | ⟨ob, xs, z⟩
          · rw [q] at z; cases z
          · have z2 := un.frzs b ob _ z
            obtain ⟨e1, _⟩ := hok b _ z
            obtain ⟨e2, _⟩ := hok' b _ z2
            rw [e] at e1; cases e1
            exact e2
  cases hk : K.lookup a with
  | some o =>
    have e := KX a o hk
    rw [ha] at e
    cases e
    refine core (fun _ => none) (fun _ => .inl rfl) (.inr ⟨_, vs.toArray, _, hk, rfl, rfl, rfl, by rw [List.size_toArray, lenV]; exact hl, by simpa using rv⟩) (fun b u z => by have z' : (none : Option HO) = some u := z; cases z') (fun b z => absurd rfl z) fun z => absurd rfl z
  | none =>
    refine core (fun b => if b = a then some (.frz { cls := .type "list", data := .seq vs.toArray } (.lst (ns.map V.int))) else none) (fun b => ?_) (.inl (.inr ⟨{ cls := .type "list", data := .seq vs.toArray }, if_pos rfl⟩)) (fun b u z => ?_) (fun b z => ?_) fun _ => hk
    · by_cases hb : b = a
      · exact .inr ⟨_, _, if_pos hb⟩
      · exact .inl (if_neg hb)
    · by_cases hb : b = a
      · have z' := (if_pos hb).symm.trans z
        cases z'
        subst hb
        exact ⟨ha, by rw [List.length_map]; exact hl, vs, _, rv, ha⟩
      · have z' := (if_neg hb).symm.trans z
        cases z'
    · by_cases hb : b = a
      · exact hb
      · exact absurd (if_neg hb) z
end L2
namespace L2
open PySem PySem.Spec PyProof.Rows
abbrev KOf {K : PySem.W.Frag} {h : Heap} (_ : K.In h) : PySem.W.Frag := K
theorem walk_of {l : PySem.W.OpenLaw} {n k : Nat} {q : Program} {loose : List Str} {XP : (Str → Option Value) → Heap → Prop} {YP : World → Heap → Prop} {d : DefRec} {K : Params → PySem.W.Frag} {CX : World → CXT} {sp : World → Sp} {x : Str}
    (hn : l.most = some n) (hn2 : n ≤ sizeLine) (hdf : d.params.defaults = []) (hr : Room k callerA)
    (hY : ∀ (w : World) (h : Heap), YP w h → (K w.params).In h)
    (F : ∀ (w : World) (mg : Str → Option Value) (fa : Addr) (h : Heap), (K w.params).In h → h.Ns mainGlobals mg → mg d.name = some (.ref fa) →
      ∃ fd : FuncData, (∀ (s : Shared) (u : Value), BindsTo s fd ⟨[u], []⟩ [(x, u)]) ∧
        ∀ base : Heap, (K w.params).In base → base.Ns mainGlobals mg → FnOk l.prog w (K w.params) mg base (CX w) k fa fd [x] (sp w))
    (hsp : ∀ (w : World) (H : Hp) (a : Addr) (ns : List Int), ns.length ≤ n → Only H → SqL (K w.params) H a (ns.map V.int) → sp w [.ref a] H (fun v _ => v = .bl true) fun _ _ _ => False)
    (hCX : ∀ (w : World) (H : Hp) (s : Shared) (e : Value) (s' : Shared), CX w [] H s (fun _ _ _ => False) e s' → False) :
    PySem.W.WalkO q loose XP YP l.row.toRowW d [] (fun f vs => PySem.call f vs) := by
  refine Att.attach_call hn hdf fun w s₀ s₁ mg mb fa o pm cd doc a vs ns G Y ho hd hcd hmg hobj hints hlen hg => ?_
  have KX := hY w _ Y
  obtain ⟨fd, hb, hF⟩ := F w mg fa _ KX G.T.g hmg
  exact law_call KX G.T.g G.T.b G.T.builtins G.T.nolimit hg hobj hints (Nat.le_trans hlen hn2) hr hF hb (fun H hO hS => hsp w H a ns hlen hO hS) fun H e s' => hCX w H s₁ e s'
end L2
namespace L2
open PySem PySem.Spec PyProof.Rows
def defArgs (s : Stmt) : Arguments := match s with
  | .FunctionDef _ a _ _ _ _ _ _ _ _ => a
  | _ => { posonlyargs := [], args := [], vararg := none, kwonlyargs := [], kw_defaults := [], kwarg := none, defaults := [] }
def defBody (s : Stmt) : List Stmt := match s with
  | .FunctionDef _ _ b _ _ _ _ _ _ _ => b
  | _ => []
def defScope (s : Stmt) : Scope := match s with
  | .FunctionDef _ _ _ _ _ _ sc _ _ _ => sc
  | _ => { kind := .function, names := [], isGenerator := false, isCoroutine := false }
abbrev CX0 : CXT := fun _ _ _ _ _ _ => False
abbrev E0 : XK := fun _ _ _ => False
theorem pass0 {X : Cx} : Passes CX0 X E0 := fun _ _ _ _ _ _ _ h => h.elim
structure Fun (K : PySem.W.Frag) (x qual : Str) (st : Stmt) (f : Addr) (fd : FuncData) : Prop where
  ex : ∃ (oc : Value) (od : Option Addr) (kV doc pm : Value) (an : Option Addr) (cdv ct : Value) (osl : Array (Option Value)),
    fd = PySem.W.fnOf x qual (defArgs st) (defBody st) (defScope st) .none kV doc pm an cdv ct ∧ K.lookup f = some ⟨oc, od, .func fd, osl⟩ ∧ PySem.W.codeIn K cdv qual = true
  kp : PySem.W.keepIn K (.ref f) = true
section
variable {P : Program} {w : World} {K : PySem.W.Frag} {mg : Str → Option Value} {base : Heap}
theorem Fun.ok {x qual : Str} {st : Stmt} {f : Addr} {fd : FuncData} {N ps : List Str} {k : Nat} {sp : Sp} (F : Fun K x qual st f fd) (S : FnScope N ps (defScope st)) (len : ∀ vs H Q E, sp vs H Q E → vs.length = ps.length)
    (hbody : ∀ (cdv : Value) (A : Around) (outer : List Env) (s : Shared) (H : Hp) (vs : List V) (Q : VK) (E : XK), Room k (A.deeper (envOfC qual (defScope st) s.heap.objs.size f cdv)) → sp vs H Q E →
      ∃ t, PSs (cxOf CX0 P w K mg base N qual (defScope st) f cdv A outer s H E).nox (defBody st) t ∧ t (Ends.fin Q) (start N vs) H) : FnOk P w K mg base CX0 (k + 1) f fd ps sp := by
  obtain ⟨oc, od, kV, doc, pm, an, cdv, ct, osl, rfl, lk, hcd⟩ := F.ex
  refine fn_of lk hcd S len fun A outer s H vs Q E hr hsp => ?_
  obtain ⟨t, h, q⟩ := hbody cdv A outer s H vs Q E hr hsp
  exact ⟨t, h.nox, q⟩
theorem Fun.binds {x qual : Str} {st : Stmt} {f : Addr} {fd : FuncData} {ps : List Str} (F : Fun K x qual st f fd)
    (h : ∀ (kV doc pm : Value) (an : Option Addr) (cdv ct : Value) (us : List Value), us.length = ps.length → bindArgs (PySem.W.fnOf x qual (defArgs st) (defBody st) (defScope st) .none kV doc pm an cdv ct) ⟨us, []⟩ = pure (ps.zip us)) : Binds K fd ps [] := by
  obtain ⟨oc, od, kV, doc, pm, an, cdv, ct, osl, rfl, lk, hcd⟩ := F.ex
  exact .all (h kV doc pm an cdv ct)
theorem fun_mk {x qual : Str} {st : Stmt} {f : Addr} {oc : Value} {od an : Option Addr} {osl : Array (Option Value)} {kV doc pm cdv ct : Value} (l : K.lookup f = some ⟨oc, od, .func (PySem.W.fnOf x qual (defArgs st) (defBody st) (defScope st) .none kV doc pm an cdv ct), osl⟩)
    (c : PySem.W.codeIn K cdv qual = true) (k : PySem.W.keepIn K (.ref f) = true) : Fun K x qual st f (PySem.W.fnOf x qual (defArgs st) (defBody st) (defScope st) .none kV doc pm an cdv ct) := ⟨⟨oc, od, kV, doc, pm, an, cdv, ct, osl, rfl, l, c⟩, k⟩
end
theorem hu_of {A : Around} {k : Nat} (hr : Room k A) : A.units + 1 < cLine := Nat.lt_of_le_of_lt (Nat.add_le_add_left (by decide : 1 ≤ 64) _) hr.units
theorem small1000 {n : Nat} (h : n ≤ 1000) : n < sizeLine := Nat.lt_of_le_of_lt h (by decide)
section
variable {X : Cx}
theorem pv (i : Nat) {x : Str} {pos : Pos} (hN : X.N[i]? = some x := by rfl) (hv : Vis X.env.scope x := by first | exact Or.inl rfl | exact Or.inr (Or.inl rfl) | exact Or.inr (Or.inr rfl)) (hd : (x == ("__debug__" : Str)) = false := by decide)
    (hcd : (x == ("__classdict__" : Str)) = false := by decide) : PE X (.Name x pos) (tVar i) := pe_var hN hv hd hcd
end
theorem iteF {A B : Prop} (h : B) : if false = true then A else B := by
  rw [if_neg Bool.false_ne_true]
  exact h
theorem iteT {A B : Prop} (h : A) : if true = true then A else B := by
  rw [if_pos rfl]
  exact h
def Same (H H' : Hp) : Prop := ∀ b o, H b = some o → H' b = some o
theorem Same.refl (H : Hp) : Same H H := fun _ _ h => h
theorem Same.trans {H H1 H2 : Hp} (a : Same H H1) (b : Same H1 H2) : Same H H2 := fun c o h => b c o (a c o h)
theorem Same.seq {K : PySem.W.Frag} {H H' : Hp} {a : Addr} {xs : List V} (e : Same H H') (h : SqL K H a xs) : SqL K H' a xs := by
  rcases h with (h | ⟨o, h⟩) | h
  · exact .inl (.inl (e _ _ h))
  · exact .inl (.inr ⟨o, e _ _ h⟩)
  · exact .inr h
end L2
namespace L2
open PySem PySem.Spec PyProof.Rows
section
variable {κ : Type} [DecidableEq κ]
def valV (kvs : List (κ × V)) (k : κ) : Option V := (kvs.find? fun kv => decide (kv.1 = k)).map (·.2)
def putK (kvs : List (κ × V)) (k : κ) (v : V) : List (κ × V) :=
  if (kvs.any fun kv => decide (kv.1 = k)) = true then kvs.map (fun kv => if kv.1 = k then (kv.1, v) else kv) else kvs ++ [(k, v)]
theorem valV_pos {p : κ × V} {r : List (κ × V)} {k : κ} (e : p.1 = k) : valV (p :: r) k = some p.2 := by simp [valV, List.find?_cons, e]
theorem valV_neg {p : κ × V} {r : List (κ × V)} {k : κ} (e : ¬ p.1 = k) : valV (p :: r) k = valV r k := by simp [valV, List.find?_cons, e]
theorem valV_any (k : κ) : ∀ kvs : List (κ × V), (kvs.any fun kv => decide (kv.1 = k)) = (valV kvs k).isSome
  | [] => rfl
  | p :: r => by
    rw [List.any_cons]
    by_cases e : p.1 = k
    · simp only [valV_pos e, decide_eq_true e, Bool.true_or, Option.isSome_some]
    · rw [valV_neg e, decide_eq_false e, Bool.false_or]; exact valV_any k r
theorem length_putK (kvs : List (κ × V)) (k : κ) (v : V) : (putK kvs k v).length ≤ kvs.length + 1 := by
  unfold putK
  split
  · rw [List.length_map]; omega
  · rw [List.length_append, List.length_cons, List.length_nil]; omega
theorem putK_new {kvs : List (κ × V)} {k : κ} (v : V) (h : valV kvs k = none) : putK kvs k v = kvs ++ [(k, v)] := by
  unfold putK
  rw [valV_any, h]
  exact if_neg (by decide)
theorem RelO.isSome_eq {o : Option V} {u : Option Value} (r : RelO o u) : o.isSome = u.isSome := by
  cases o with
  | none => cases u with
    | none => rfl
    | some _ => exact (show False from r).elim
  | some _ => cases u with
    | none => exact (show False from r).elim
    | some _ => rfl
theorem RelO.getD {o : Option V} {u : Option Value} {d : V} {d' : Value} (r : RelO o u) (rd : RelV d d') : RelV (o.getD d) (u.getD d') := by
  cases o with
  | none => cases u with
    | none => exact rd
    | some _ => exact (show False from r).elim
  | some _ => cases u with
    | none => exact (show False from r).elim
    | some _ => exact r
theorem KV.val {kvs : List (κ × V)} {vs : List (κ × Value)} (r : KV kvs vs) (k : κ) : RelO (valV kvs k) (valueAt vs k) := by
  unfold KV at r
  induction r with
  | nil => exact True.intro
  | @cons p q ps qs h t ih =>
    obtain ⟨h1, h2⟩ := h
    by_cases e : p.1 = k
    · have e' : q.1 = k := h1.symm.trans e
      have b : valueAt (q :: qs) k = some q.2 := by simp [valueAt, List.find?_cons, e']
      rw [valV_pos e, b]; exact h2
    · have e' : ¬ q.1 = k := fun z => e (h1.trans z)
      have b : valueAt (q :: qs) k = valueAt qs k := by simp [valueAt, List.find?_cons, e']
      rw [valV_neg e, b]; exact ih
theorem KV.any {kvs : List (κ × V)} {vs : List (κ × Value)} (r : KV kvs vs) (k : κ) : (kvs.any fun kv => decide (kv.1 = k)) = vs.any fun kv => decide (kv.1 = k) := by
  unfold KV at r
  induction r with
  | nil => rfl
  | cons h t ih => rw [List.any_cons, List.any_cons, ih, h.1]
theorem KV.repl {kvs : List (κ × V)} {vs : List (κ × Value)} (r : KV kvs vs) (k : κ) {y : V} {u : Value} (ry : RelV y u) :
    KV (kvs.map fun kv => if kv.1 = k then (kv.1, y) else kv) (vs.map fun kv => if kv.1 = k then (kv.1, u) else kv) := by
  unfold KV at r ⊢
  induction r with
  | nil => exact .nil
  | @cons p q ps qs h t ih =>
    rw [List.map_cons, List.map_cons]
    refine .cons ?_ ih
    obtain ⟨h1, h2⟩ := h
    by_cases e : p.1 = k
    · rw [if_pos e, if_pos (h1.symm.trans e)]; exact ⟨h1, ry⟩
    · rw [if_neg e, if_neg (fun z => e (h1.trans z))]; exact ⟨h1, h2⟩
theorem KV.put {kvs : List (κ × V)} {vs : List (κ × Value)} (r : KV kvs vs) (k : κ) {y : V} {u : Value} (ry : RelV y u) : KV (putK kvs k y) (stored vs k u) := by
  unfold putK stored
  rw [r.any k]
  by_cases e : (vs.any fun kv => decide (kv.1 = k)) = true
  · rw [if_pos e, if_pos e]; exact r.repl k ry
  · rw [if_neg e, if_neg e]; exact Paired.snoc r ⟨rfl, ry⟩
theorem KV.keys {kvs : List (κ × V)} {vs : List (κ × Value)} (r : KV kvs vs) : kvs.map (·.1) = vs.map (·.1) := by
  unfold KV at r
  induction r with
  | nil => rfl
  | cons h t ih => rw [List.map_cons, List.map_cons, ih, h.1]
theorem KV.length {kvs : List (κ × V)} {vs : List (κ × Value)} (r : KV kvs vs) : kvs.length = vs.length := Paired.length r
end
theorem kV_is {P : Program} {w : World} {k : Key} {u : Value} (r : RelV (kV k) u) : (mixKind P w).is k u = true := by
  cases k with
  | inl i => obtain ⟨t, e⟩ := (show ∃ t, u = Value.int i t from r); subst e; exact mixKind_int P w i t
  | inr x => obtain ⟨t, e⟩ := (show ∃ t, u = Value.str x t from r); subst e; exact mixKind_str P w x t
theorem items_are {P : Program} {w : World} : ∀ {ks : List Key} {us : List Value}, Vals (ks.map kV) us → ItemsAre (mixKind P w) ks us
  | [], _, r => by rw [List.map_nil] at r; cases r; exact .nil
  | k :: ks, _, r => by
    rw [List.map_cons] at r
    cases r with
    | cons h t => exact .cons (kV_is h) (items_are t)
abbrev KT (H : Hp) : List (List Key × V) → List (List Key × Addr × Value) → Prop := Paired fun p q => p.1 = q.1 ∧ H q.2.1 = some (.tup (p.1.map kV)) ∧ RelV p.2 q.2.2
theorem KT.val {H : Hp} {kvs : List (List Key × V)} {xs : List (List Key × Addr × Value)} (r : KT H kvs xs) (k : List Key) : RelO (valV kvs k) ((atKey xs k).map (·.2)) := by
  induction r with
  | nil => exact True.intro
  | @cons p q ps qs h t ih =>
    obtain ⟨h1, _, h2⟩ := h
    by_cases e : p.1 = k
    · have e' : q.1 = k := h1.symm.trans e
      have b : atKey (q :: qs) k = some q.2 := by simp [atKey, List.find?_cons, e']
      rw [valV_pos e, b]; exact h2
    · have e' : ¬ q.1 = k := fun z => e (h1.trans z)
      have b : atKey (q :: qs) k = atKey qs k := by simp [atKey, List.find?_cons, e']
      rw [valV_neg e, b]; exact ih
theorem KT.repl {H : Hp} {kvs : List (List Key × V)} {xs : List (List Key × Addr × Value)} (r : KT H kvs xs) (k : List Key) {y : V} {u : Value} (ry : RelV y u) :
    KT H (kvs.map fun kv => if kv.1 = k then (kv.1, y) else kv) (xs.map (putAt k u)) := by
  induction r with
  | nil => exact .nil
  | @cons p q ps qs h t ih =>
    rw [List.map_cons, List.map_cons]
    refine .cons ?_ ih
    obtain ⟨h1, h2, h3⟩ := h
    unfold putAt
    by_cases e : p.1 = k
    · rw [if_pos e, if_pos (h1.symm.trans e)]; exact ⟨h1, h2, ry⟩
    · rw [if_neg e, if_neg (fun z => e (h1.trans z))]; exact ⟨h1, h2, h3⟩
theorem KT.put {H : Hp} {kvs : List (List Key × V)} {xs : List (List Key × Addr × Value)} (r : KT H kvs xs) (k : List Key) {b : Addr} {y : V} {u : Value} (hb : H b = some (.tup (k.map kV))) (ry : RelV y u) :
    KT H (putK kvs k y) (storedH xs k b u) := by
  have e : (kvs.any fun kv => decide (kv.1 = k)) = (atKey xs k).isSome := by
    rw [valV_any, (r.val k).isSome_eq, Option.isSome_map]
  unfold putK storedH
  rw [e]
  by_cases q : (atKey xs k).isSome = true
  · rw [if_pos q, if_pos q]; exact r.repl k ry
  · rw [if_neg q, if_neg q]; exact Paired.snoc r ⟨rfl, hb, ry⟩
theorem KT.keeps {H H' : Hp} {kvs : List (List Key × V)} {xs : List (List Key × Addr × Value)} (r : KT H kvs xs) (ht : ∀ b ys, H b = some (.tup ys) → H' b = some (.tup ys)) : KT H' kvs xs :=
  Paired.mapP r fun _ _ z => ⟨z.1, ht _ _ z.2.1, z.2.2⟩
section
variable {P : Program} {w : World} {H : Hp} {h : Heap} {a : Addr}
theorem rd_of {u : HO} (ok : HOk P w H h) (e : Rd H a u) : ObjOk P w H h a u := e.ok ok
theorem dk_rd {kvs : List (Key × V)} (ok : HOk P w H h) (e : Rd H a (.dK kvs)) : kvs.length ≤ sizeLine ∧ (a == sysModules) = false ∧ ∃ vs, KV kvs vs ∧ h.DictOf (mixKind P w) a vs :=
  show ObjOk P w H h a (.dK kvs) from rd_of ok e
theorem dk_of {kvs : List (Key × V)} (ok : HOk P w H h) (e : H a = some (.dK kvs)) : kvs.length ≤ sizeLine ∧ (a == sysModules) = false ∧ ∃ vs, KV kvs vs ∧ h.DictOf (mixKind P w) a vs := dk_rd ok (.inl e)
theorem key_of {ks : List Key} (ok : HOk P w H h) (e : H a = some (.tup (ks.map kV))) : (tupleKind (mixKind P w)).is h ks a := by
  obtain ⟨_, its, r, o, h1, h2, n, h3⟩ := (show ObjOk P w H h a (.tup (ks.map kV)) from ok a _ e)
  exact ⟨o, its.toArray, n, h1, h2, h3, by simpa using items_are r⟩
theorem dt_rd {kvs : List (List Key × V)} (ok : HOk P w H h) (e : Rd H a (.dT kvs)) : kvs.length ≤ sizeLine ∧ (a == sysModules) = false ∧
    ∃ xs, KT H kvs xs ∧ h.DictOfH (tupleKind (mixKind P w)) a xs := by
  obtain ⟨z, y, xs, r, o, es, ep, h1, h2, h3, h4, h5⟩ := (show ObjOk P w H h a (.dT kvs) from rd_of ok e)
  refine ⟨z, y, xs, r, o, es, ep, h1, h2, h3, h4, fun x hx => ?_, h5⟩
  have all : ∀ {l : List (List Key × V)} {m : List (List Key × Addr × Value)}, KT H l m → ∀ x ∈ m, (tupleKind (mixKind P w)).is h x.1 x.2.1 := by
    intro l m q
    induction q with
    | nil => intro x hx; exact nomatch hx
    | @cons p q ps qs hq t ih =>
      intro x hx
      rcases List.mem_cons.mp hx with e | hx
      · subst e
        exact key_of ok (by rw [← hq.1]; exact hq.2.1)
      · exact ih x hx
  exact all r x hx
theorem dt_of {kvs : List (List Key × V)} (ok : HOk P w H h) (e : H a = some (.dT kvs)) : kvs.length ≤ sizeLine ∧ (a == sysModules) = false ∧
    ∃ xs, KT H kvs xs ∧ h.DictOfH (tupleKind (mixKind P w)) a xs := dt_rd ok (.inl e)
end
def DGet (H : Hp) (a : Addr) (y : V) (r : Option V) : Prop :=
  (∃ kvs k, Rd H a (.dK kvs) ∧ y = kV k ∧ r = valV kvs k) ∨ ∃ kvs k b, Rd H a (.dT kvs) ∧ y = .ref b ∧ H b = some (.tup (k.map kV)) ∧ r = valV kvs k
def DPut (H : Hp) (a : Addr) (y v : V) (H' : Hp) : Prop :=
  (∃ kvs k, H a = some (.dK kvs) ∧ y = kV k ∧ kvs.length < sizeLine ∧ H' = upd H a (.dK (putK kvs k v))) ∨
  ∃ kvs k b, H a = some (.dT kvs) ∧ y = .ref b ∧ H b = some (.tup (k.map kV)) ∧ kvs.length < sizeLine ∧ H' = upd H a (.dT (putK kvs k v))
theorem DGet.k {H : Hp} {a : Addr} {kvs : List (Key × V)} {k : Key} (e : H a = some (.dK kvs)) : DGet H a (kV k) (valV kvs k) := .inl ⟨kvs, k, .inl e, rfl, rfl⟩
theorem DPut.k {H : Hp} {a : Addr} {kvs : List (Key × V)} {k : Key} {v : V} (e : H a = some (.dK kvs)) (hl : kvs.length < sizeLine) : DPut H a (kV k) v (upd H a (.dK (putK kvs k v))) := .inl ⟨kvs, k, e, rfl, hl, rfl⟩
section
variable {X : Cx} {pins : List (Addr × Obj)} {σ : St} {H : Hp} {s : Shared} {a : Addr} {y v : V} {u r : Value} {o : Option V} {A : Around} {E : Value → Shared → Prop}
theorem Inv.big (I : Inv X pins σ H s) : sysModules < s.heap.objs.size := by
  have h : mainGlobals < s.heap.objs.size := (I.mod.glob.keeps I.bk).lt
  exact Nat.lt_trans (by decide) h
theorem d_getItem {Q : Value → Shared → Prop} (hu : A.units + 1 < cLine) (I : Inv X pins σ H s) (g : DGet H a y (some v)) (ry : RelV y u) (h : ∀ w' s', Inv X pins σ H s' → RelV v w' → Q w' s') :
    wpAny (model X.prog X.w) A (getItem (.ref a) u) Q E s := by
  rcases g with ⟨kvs, k, e, ey, l⟩ | ⟨kvs, k, b, e, ey, eb, l⟩
  · subst ey
    obtain ⟨z, hd, vs, rel, dd⟩ := dk_rd I.hok e
    obtain ⟨w', hw, rw'⟩ := RelO.some_of (v := v) (o := valueAt vs k) (by rw [l]; exact rel.val k)
    exact wpAny_getItem_of (kV_is ry) dd.mapOf hw (h w' _ (I.tok _) rw')
  · subst ey
    cases (show u = Value.ref b from ry)
    obtain ⟨z, hd, xs, rel, dd⟩ := dt_rd I.hok e
    obtain ⟨w', hw, rw'⟩ := RelO.some_of (v := v) (o := (atKey xs k).map (·.2)) (by rw [l]; exact rel.val k)
    obtain ⟨p, hp, hp2⟩ := Option.map_eq_some_iff.mp hw
    refine wpAny_getItem_heap (tupleKind_room_in1 hu) (key_of I.hok eb) dd hp ?_
    rw [hp2]
    exact h w' _ (I.tok _) rw'
theorem d_write {h' : Heap} {t' : Nat} {ob : HO} (I : Inv X pins σ H s) (mu : Mut (H a)) (hs : Heap.SameBut a s.heap h') (he : ∃ q, h'.get? a = some q) (new : ObjOk X.prog X.w (upd H a ob) h' a ob) :
    Inv X pins σ (upd H a ob) { s with heap := h', toks := t' } :=
  I.write (x := a) (e := a) mu (.inl rfl) (fun b q hb z => (hs.2 b hb).trans z) he new
theorem dk_new {P : Program} {w : World} {H' : Hp} {h' : Heap} {kvs : List (Key × V)} {vs : List (Key × Value)} (z : kvs.length ≤ sizeLine) (hd : (a == sysModules) = false) (rel : KV kvs vs) (dd : h'.DictOf (mixKind P w) a vs) :
    ObjOk P w H' h' a (.dK kvs) := ⟨z, hd, vs, rel, dd⟩
theorem d_setItem {H' : Hp} {Q : Unit → Shared → Prop} (hu : A.units + 1 < cLine) (I : Inv X pins σ H s) (g : DPut H a y v H') (ry : RelV y u) (rv : RelV v r) (h : ∀ s', Inv X pins σ H' s' → Q () s') :
    wpAny (model X.prog X.w) A (setItem (.ref a) u r) Q E s := by
  rcases g with ⟨kvs, k, e, ey, l, eH⟩ | ⟨kvs, k, b, e, ey, eb, l, eH⟩
  · subst ey eH
    obtain ⟨z, hd, vs, rel, dd⟩ := dk_of I.hok e
    have hz : vs.length ≤ sizeLine := by rw [← rel.length]; exact z
    have hl : (putK kvs k v).length ≤ sizeLine := by have := length_putK kvs k v; omega
    refine wpAny_setItem_pairs (hsz := hz) (kV_is ry) dd fun h' dd' hs => h _ ?_
    have he : ∃ q, h'.get? a = some q := let ⟨q, _, _, hq, _⟩ := dd'; ⟨q, hq⟩
    exact d_write I (by rw [e]; exact True.intro) hs he (dk_new hl hd (rel.put k rv) dd')
  · subst ey eH
    cases (show u = Value.ref b from ry)
    obtain ⟨z, hd, xs, rel, dd⟩ := dt_of I.hok e
    have hz : xs.length ≤ sizeLine := by rw [← Paired.length rel]; exact z
    have hl : (putK kvs k v).length ≤ sizeLine := by have := length_putK kvs k v; omega
    refine wpAny_setItem_heap (hsz := hz) (tupleKind_room_in1 hu) (key_of I.hok eb) dd fun h' dd' hs => h _ ?_
    obtain ⟨q, es, ep, hq, h2, h3, h4, _, h5⟩ := dd'
    refine d_write I (by rw [e]; exact True.intro) hs ⟨q, hq⟩ ⟨hl, hd, _, (rel.put k eb rv).keeps fun c ys ec => ?_, q, es, ep, hq, h2, h3, h4, h5⟩
    rw [upd_ne (ne_of ec e (fun z => nomatch z))]
    exact ec
end
section
variable {X : Cx} {pins : List (Addr × Obj)} {σ : St} {H : Hp} {s : Shared} {a : Addr} {kvs : List (Key × V)} {k : Key} {u : Value} {A : Around} {E : Value → Shared → Prop}
theorem d_len {Q : Value → Shared → Prop} (I : Inv X pins σ H s) (e : Rd H a (.dK kvs)) (h : ∀ t s', Inv X pins σ H s' → Q (.int kvs.length t) s') : wpAny (model X.prog X.w) A (call (.builtin "len") [.ref a]) Q E s := by
  obtain ⟨z, hd, vs, rel, dd⟩ := dk_rd I.hok e
  refine call_len_dict hd dd (by rw [← rel.length]; rw [sizeLine_eq] at z; omega) ?_
  rw [← rel.length]
  exact h _ _ (I.tok _)
end
def NoSl (i : Expr) : Prop := ∀ ov iv, subscripted i false ov iv = operate [ov, iv] (getItem ov iv)
theorem subD_of {prog : Program} {w : World} {A : Around} {E : Value → Shared → Prop} {s : Shared} {env : Env} {value slice : Expr} {pos : Pos} {T id : String} {Q : Value → Shared → Prop}
    (hl : typeLookup (.type T) "__getitem__" = pure (some (.builtin id))) (hs : NoSl slice)
    (h : wpAny (model prog w) A (eval value env) (fun o s₁ => wpAny (model prog w) A (eval slice env) (fun i s₂ => s₂.TypeIs o T ∧ wpAny (model prog w) A (getItem o i) Q E s₂) E s₁) E s) :
    wpAny (model prog w) A (eval (.Subscript value slice pos) env) Q E s := by
  refine Subscript_ (wpAny_mono h (fun o s₁ h₁ => wpAny_mono h₁ (fun i s₂ h₂ => ?_) fun _ _ x => x) fun _ _ x => x)
  obtain ⟨hT, h₂⟩ := h₂
  unfold subscriptTail
  refine wpAny_bind ?_
  rw [getitemInPython_of_ne hT.not_modules]
  refine wpAny_bind (wpAny_specialOf hT hl ?_)
  have fin : wpAny (model prog w) A (subscripted slice false o i) (fun r s₃ => wpAny (model prog w) A (letTemporaryGo value o r >>= fun _ => pure r) Q E s₃) E s₂ := by
    rw [hs o i]
    exact wpAny_operating (wpAny_mono h₂ (fun r s₃ h₃ => wpAny_bind (wpAny_letTemporaryGo (wpAny_pure h₃))) fun _ _ x => x)
  first
    | exact wpAny_pure (wpAny_bind fin)
    | exact wpAny_bind (wpAny_pure (wpAny_bind fin))
    | exact wpAny_bind fin
theorem dict_typeIs {X : Cx} {pins : List (Addr × Obj)} {σ : St} {H : Hp} {s : Shared} {a : Addr} {y : V} {o : Option V} (I : Inv X pins σ H s) (g : DGet H a y o) : s.TypeIs (.ref a) "dict" := by
  rcases g with ⟨kvs, k, e, _, _⟩ | ⟨kvs, k, b, e, _, _, _⟩
  · obtain ⟨_, _, vs, _, dd⟩ := dk_rd I.hok e
    exact dd.typeIs
  · obtain ⟨_, _, xs, _, dd⟩ := dt_rd I.hok e
    exact dd.typeIs
def tDGet (td ty : TE) : TE := fun σ H Q => td σ H fun x H1 => ty σ H1 fun y H2 => ∃ a v, x = .ref a ∧ DGet H2 a y (some v) ∧ Q v H2
def sDPut (td ty tv : TE) : TS := fun D σ H => tv σ H fun v H1 => td σ H1 fun x H2 => ty σ H2 fun y H3 => ∃ a H4, x = .ref a ∧ DPut H3 a y v H4 ∧ D.nx σ H4
section
variable {X : Cx} {o i e value : Expr} {pos pos' tpos : Pos} {td ty tv : TE}
theorem pe_dget (hu : X.A.units + 1 < cLine) (ho : PE X o td) (hi : PE X i ty) (hs : NoSl i) : PE X (.Subscript o i pos) (tDGet td ty) := by
  intro pins s σ H Q I h
  refine subD_of PySem.F.slot_dict_getitem.lookup hs (thn (ho pins s σ H _ I h) fun u s1 ⟨x, H1, I1, rx, q1⟩ => thn (hi pins s1 σ H1 _ I1 q1) fun iv s2 ⟨y, H2, I2, ry, a, v, ex, g, q2⟩ => ?_)
  subst ex
  obtain rfl : u = Value.ref a := rx
  exact ⟨dict_typeIs I2 g, d_getItem hu I2 g ry fun w' s3 I3 rw' => ⟨v, H2, I3, rw', q2⟩⟩
theorem ps_dput (hu : X.A.units + 1 < cLine) (ho : PE X o td) (hi : PE X i ty) (hv : PE X value tv) (hs : swapsWith value (some (.Subscript o i pos')) pos.line X.env = pure false) :
    PS X (.Assign [.Subscript o i pos'] value pos) (sDPut td ty tv) := by
  intro pins s σ H D I h
  refine wpAny_Assign_Subscript (thn (hv pins s σ H _ I h) fun r s1 ⟨v, H1, I1, rv, q1⟩ => thn (ho pins s1 σ H1 _ I1 q1) fun u s2 ⟨x, H2, I2, rx, q2⟩ => thn (hi pins s2 σ H2 _ I2 q2) fun iv s3 ⟨y, H3, I3, ry, a, H4, ex, g, q3⟩ => ?_) hs
  subst ex
  obtain rfl : u = Value.ref a := rx
  exact d_setItem hu I3 g ry rv fun s4 I4 => ⟨σ, H4, I4, q3⟩
end
theorem dk_empty {P : Program} {w : World} {H : Hp} (h : Heap) (hb : sysModules < h.objs.size) : ObjOk P w H (h.push { cls := .type "dict", data := .dict #[] }) h.objs.size (.dK []) :=
  ⟨Nat.zero_le _, beq_eq_false_iff_ne.mpr (Ne.symm (Nat.ne_of_lt hb)), [], .nil, Heap.DictOf.new h⟩
def tDNewK : TE := fun _ H Q => ∀ p, H p = none → Q (.ref p) (upd H p (.dK []))
section
variable {X : Cx} {pos : Pos}
theorem pe_dnewK : PE X (.Dict [] [] pos) tDNewK := fun pins s σ H Q I h =>
  wpAny_Dict_empty ⟨.ref s.heap.objs.size, _, I.laid (a := s.heap.objs.size) (o := .dK []) (t' := s.toks) (fun _ _ q => Heap.get?_push_of_some _ q) (Nat.le_refl _) (dk_empty s.heap I.big), rfl, h _ (I.hok.fresh (Nat.le_refl _))⟩
end
structure M1 (X : Cx) (o : Expr) (m : Str) (apos : Pos) (e : Expr) (cpos : Pos) : Prop where
  base : attributeBase o m X.env (eval o X.env) = eval o X.env
  few : ((backTo cpos (starEach [e] X.env)).all (fun x => !x.1) && (backToKw cpos (keywordEach [] X.env)).all (fun x => x.1.isSome)
    && decide (([e] : List Expr).length + ([] : List Keyword).length + (if ([] : List Keyword).isEmpty then 0 else 1) < 30)) = true
  line : (apos.endLine == cpos.line) = true
  trees : backTo cpos (starEach [e] X.env) = [(false, eval e X.env)]
structure M2 (X : Cx) (o : Expr) (m : Str) (apos : Pos) (e f : Expr) (cpos : Pos) : Prop where
  base : attributeBase o m X.env (eval o X.env) = eval o X.env
  few : ((backTo cpos (starEach [e, f] X.env)).all (fun x => !x.1) && (backToKw cpos (keywordEach [] X.env)).all (fun x => x.1.isSome)
    && decide (([e, f] : List Expr).length + ([] : List Keyword).length + (if ([] : List Keyword).isEmpty then 0 else 1) < 30)) = true
  line : (apos.endLine == cpos.line) = true
  trees : backTo cpos (starEach [e, f] X.env) = [(false, eval e X.env), (false, eval f X.env)]
def IsD (H : Hp) (a : Addr) : Prop := (∃ kvs, Rd H a (.dK kvs)) ∨ ∃ kvs, Rd H a (.dT kvs)
theorem isD_at {X : Cx} {pins : List (Addr × Obj)} {σ : St} {H : Hp} {s : Shared} {a : Addr} (I : Inv X pins σ H s) (d : IsD H a) :
    s.TypeIs (.ref a) "dict" ∧ (∀ b, Value.ref a = .ref b → ∃ ob, s.heap.get? b = some ob ∧ ob.dict = none) ∧ (a == sysModules) = false := by
  rcases d with ⟨kvs, e⟩ | ⟨kvs, e⟩
  · obtain ⟨_, hd, vs, _, dd⟩ := dk_rd I.hok e
    refine ⟨dd.typeIs, fun b q => ?_, hd⟩
    cases q
    obtain ⟨ob, _, _, h1, h2, _⟩ := dd
    exact ⟨ob, h1, h2.2.1⟩
  · obtain ⟨_, hd, xs, _, dd⟩ := dt_rd I.hok e
    refine ⟨dd.typeIs, fun b q => ?_, hd⟩
    cases q
    obtain ⟨ob, _, _, h1, h2, _⟩ := dd
    exact ⟨ob, h1, h2.2.1⟩
section
variable {X : Cx} {pins : List (Addr × Obj)} {σ : St} {H : Hp} {s : Shared} {a : Addr} {y d : V} {u r : Value} {o : Option V} {A : Around} {E : Value → Shared → Prop}
theorem d_get2 {Q : Value → Shared → Prop} (hu : A.units + 1 < cLine) (I : Inv X pins σ H s) (g : DGet H a y o) (ry : RelV y u) (rd : RelV d r) (h : ∀ w' s', Inv X pins σ H s' → RelV (o.getD d) w' → Q w' s') :
    wpAny (model X.prog X.w) A (call (.builtin "dict.get") [.ref a, u, r]) Q E s := by
  rcases g with ⟨kvs, k, e, ey, l⟩ | ⟨kvs, k, b, e, ey, eb, l⟩
  · subst ey
    obtain ⟨z, hd, vs, rel, dd⟩ := dk_rd I.hok e
    refine call_meetsIn PySem.F.slot_dict_get dd.typeIs PySem.F.entry_dict_get (PySem.F.args_dict_get_3 _ _ _) (meets_dict_get_default (mixKind X.prog X.w) a (kV_is ry) hd r) ⟨_, dd.mapOf, h _ _ (I.tok _) ?_⟩
    rw [l]
    exact (rel.val k).getD rd
  · subst ey
    cases (show u = Value.ref b from ry)
    obtain ⟨z, hd, xs, rel, dd⟩ := dt_rd I.hok e
    refine call_meetsIn PySem.F.slot_dict_get dd.typeIs PySem.F.entry_dict_get (PySem.F.args_dict_get_3 _ _ _) (meetsH_dict_get_default (tupleKind (mixKind X.prog X.w)) a b hd r) ⟨tupleKind_room_in1 hu, k, xs, key_of I.hok eb, dd, h _ _ (I.tok _) ?_⟩
    rw [l]
    exact (rel.val k).getD rd
end
def tDGet2 (td ty tx : TE) : TE := fun σ H Q => td σ H fun x H1 => ∃ a, x = .ref a ∧ IsD H1 a ∧ ty σ H1 fun y H2 => tx σ H2 fun z H3 => ∃ o, DGet H3 a y o ∧ Q (o.getD z) H3
section
variable {X : Cx} {o e f : Expr} {apos cpos : Pos} {td ty tx : TE}
theorem pe_dget2 (hu : X.A.units + 1 < cLine) (ho : PE X o td) (he : PE X e ty) (hf : PE X f tx) (m : M2 X o "get" apos e f cpos) : PE X (.Call (.Attribute o "get" apos) [e, f] [] cpos) (tDGet2 td ty tx) := by
  intro pins s σ H Q I h
  refine wpAny_Call_method m.base m.few m.line PySem.F.plainAttrs_dict PySem.F.slot_dict_get PySem.F.type_dict_get (thn (ho pins s σ H _ I h) fun u s1 ⟨x, H1, I1, rx, a, ex, d, q1⟩ => ?_)
  subst ex
  obtain rfl : u = Value.ref a := rx
  obtain ⟨t1, t2, _⟩ := isD_at I1 d
  refine ⟨t1, t2, ?_⟩
  rw [m.trees]
  refine Calls.callWith_builtin rfl (Calls.evalArgs_plain (Calls.spliced_cons (thn (he pins s1 σ H1 _ I1 q1) fun iv s2 ⟨y, H2, I2, ry, q2⟩ =>
    Calls.spliced_cons (thn (hf pins s2 σ H2 _ I2 q2) fun fv s3 ⟨z, H3, I3, rz, ov, g, q3⟩ => Calls.spliced_nil ?_))))
  exact d_get2 hu I3 g ry rz fun w' s4 I4 rw' => ⟨_, H3, I4, rw', q3⟩
end
section
variable {X : Cx} {pins : List (Addr × Obj)} {σ : St} {H : Hp} {s : Shared} {a : Addr} {kvs : List (Key × V)} {A : Around} {E : Value → Shared → Prop}
end
section
variable {X : Cx} {pins : List (Addr × Obj)} {σ : St} {H : Hp} {s : Shared} {a : Addr} {y : V} {u : Value} {A : Around} {E : Value → Shared → Prop}
end
end L2
namespace L2
open PySem PySem.Spec PyProof.Rows
section
variable {X : Cx}
theorem call_lenD : CallR X (.builtin "len") (fun xs H Q => ∃ a kvs, xs = [V.ref a] ∧ H a = some (.dK kvs) ∧ Q (.int kvs.length) H) := by
  intro pins s σ H xs us Q I r h
  obtain ⟨a, kvs, rfl, ha, q⟩ := h
  obtain ⟨u, rfl, ru⟩ := vals1 r
  cases ru
  exact d_len I (.inl ha) fun t s' I' => ⟨.int kvs.length, H, I', ⟨t, rfl⟩, q⟩
end
end L2
namespace L2
open PySem PySem.Spec PyProof.Rows
section
variable {κ : Type} [DecidableEq κ]
theorem valV_in {kvs : List (κ × V)} {k : κ} {v : V} (h : valV kvs k = some v) : k ∈ kvs.map (·.1) := by
  have q : (kvs.any fun kv => decide (kv.1 = k)) = true := by
    rw [valV_any, h]
    all_goals rfl
  obtain ⟨p, hp, e⟩ := List.any_eq_true.mp q
  exact List.mem_map.mpr ⟨p, hp, of_decide_eq_true e⟩
end
end L2
set_option Elab.async false
set_option linter.all false
set_option maxRecDepth 100000
namespace L2
open PySem PySem.Spec PyProof.Rows
theorem closure_of {scope : Scope} {env : Env} (h : ∀ y ∈ scope.names, y.2 = .free → ∃ c, env.cells.lookup y.1 = some c) :
    ∃ cl, closureFor scope env = pure cl ∧ (∀ x c, cl.lookup x = some c → env.cells.lookup x = some c) ∧ ∀ y ∈ scope.names, y.2 = .free → ∃ c, cl.lookup y.1 = some c := by
  have key : ∀ (l : List (Str × NameKind)) (cs : List (Str × Addr)), (∀ y ∈ l, y.2 = .free → ∃ c, env.cells.lookup y.1 = some c) → (∀ x c, cs.lookup x = some c → env.cells.lookup x = some c) →
      ∃ cl, (forIn l cs fun (x : Str × NameKind) r => do
        if x.2 == .free then do
          let c ← cellOf env x.1
          pure (ForInStep.yield ((x.1, c) :: r))
        else pure (ForInStep.yield r) : Sem (List (Str × Addr))) = pure cl ∧ (∀ x c, cl.lookup x = some c → env.cells.lookup x = some c) ∧ (∀ y ∈ l, y.2 = .free → ∃ c, cl.lookup y.1 = some c) ∧ ∀ x c, cs.lookup x = some c → ∃ c', cl.lookup x = some c' := by
    intro l
    induction l with
    | nil => intro cs _ hc; exact ⟨cs, rfl, hc, (fun y hy => nomatch hy), fun x c e => ⟨c, e⟩⟩
    | cons y r ih =>
      intro cs hy hc
      rw [List.forIn_cons]
      by_cases hk : y.2 = .free
      · obtain ⟨c, e⟩ := hy y List.mem_cons_self hk
        have hb : (y.2 == NameKind.free) = true := by rw [hk]; rfl
        have hcell : cellOf env y.1 = pure c := by unfold cellOf; rw [e]
        have hc' : ∀ x c', List.lookup x ((y.1, c) :: cs) = some c' → env.cells.lookup x = some c' := fun x c' hx => by
          rw [List.lookup_cons] at hx
          by_cases hxy : x = y.1
          · subst hxy
            rw [beq_self_eq_true] at hx
            cases hx
            exact e
          · rw [show (x == y.1) = false from beq_eq_false_iff_ne.mpr hxy] at hx
            exact hc x c' hx
        obtain ⟨cl, h1, h2, h3, h4⟩ := ih ((y.1, c) :: cs) (fun z hz => hy z (List.mem_cons_of_mem _ hz)) hc'
        refine ⟨cl, ?_, h2, fun z hz hf => ?_, fun x c' hx => ?_⟩
        · rw [if_pos hb, hcell]
          simp only [pure_bind]
          exact h1
        · rcases List.mem_cons.mp hz with rfl | hz
          · exact h4 z.1 c (by rw [List.lookup_cons, beq_self_eq_true])
          · exact h3 z hz hf
        · by_cases hxy : x = y.1
          · exact h4 x c (by rw [List.lookup_cons, hxy, beq_self_eq_true])
          · exact h4 x c' (by rw [List.lookup_cons, show (x == y.1) = false from beq_eq_false_iff_ne.mpr hxy]; exact hx)
      · have hb : (y.2 == NameKind.free) = false := beq_eq_false_iff_ne.mpr hk
        obtain ⟨cl, h1, h2, h3, h4⟩ := ih cs (fun z hz => hy z (List.mem_cons_of_mem _ hz)) hc
        refine ⟨cl, ?_, h2, fun z hz hf => ?_, h4⟩
        · rw [hb]
          simp only [Bool.false_eq_true, if_false, pure_bind]
          exact h1
        · rcases List.mem_cons.mp hz with rfl | hz
          · exact absurd hf hk
          · exact h3 z hz hf
  obtain ⟨cl, h1, h2, h3, _⟩ := key scope.names [] h (fun x c e => nomatch e)
  refine ⟨cl, ?_, h2, h3⟩
  show (forIn scope.names [] _ >>= fun cs => pure cs) = pure cl
  rw [bind_pure]
  exact h1
def cxComp (X : Cx) (N : List Str) (scope : Scope) (cl : List (Str × Addr)) (C : Addr) (fp : List Addr) (s : Shared) (H : Hp) : Cx where
  prog := X.prog
  w := X.w
  K := X.K
  mg := X.mg
  base := X.base
  A := X.A
  N := N
  s₀ := s
  H₀ := H
  env := compEnvC scope cl C X.env
  outer := X.stack
  stack := X.stack
  ex := fp
  fn := fun _ => false
  calm := X.calm
  pn := []
  xe := fun _ _ => False
def slotsC (fr : List (Option Nat)) (σ : St) : St := fr.map fun o => o.bind fun j => (σ[j]?).bind id
structure CScope (X : Cx) (N : List Str) (fr : List (Option Nat)) (scope : Scope) : Prop where
  kind : scope.kind = .function
  nocell : ∀ y ∈ scope.names, y.2 ≠ .cell
  names : ∀ y ∈ scope.names, y.2 = .local → scope.names.lookup y.1 = some .local
  free : ∀ y ∈ scope.names, y.2 = .free → X.env.kindOf y.1 = some .cell ∨ X.env.kindOf y.1 = some .free
  len : fr.length = N.length
  frs : ∀ (i j : Nat), fr[i]? = some (some j) → ∃ x, N[i]? = some x ∧ X.N[j]? = some x ∧ scope.names.lookup x = some .free
theorem CScope.of {X : Cx} {N : List Str} {fr : List (Option Nat)} {scope : Scope} (h1 : scope.kind = .function := by rfl) (h2 : (scope.names.all fun y => y.2 != .cell) = true := by rfl)
    (h3 : (scope.names.all fun y => y.2 != .local || scope.names.lookup y.1 == some .local) = true := by rfl) (h4 : (scope.names.all fun y => y.2 != .free || (X.env.kindOf y.1 == some .cell || X.env.kindOf y.1 == some .free)) = true := by rfl)
    (h5 : fr.length = N.length := by rfl) (h6 : ((List.range fr.length).all fun i => match fr[i]? with
      | some (some j) => (match N[i]? with | some x => X.N[j]? == some x && scope.names.lookup x == some .free | none => false)
      | _ => true) = true := by rfl) : CScope X N fr scope where
  kind := h1
  nocell := fun y hy e => by
    have := List.all_eq_true.mp h2 y hy
    rw [e] at this
    exact absurd this (by decide)
  names := fun y hy e => by
    have := List.all_eq_true.mp h3 y hy
    rw [e] at this
    simpa using this
  free := fun y hy e => by
    have := List.all_eq_true.mp h4 y hy
    rw [e] at this
    simpa using this
  len := h5
  frs := fun i j e => by
    have hi : i < fr.length := (List.getElem?_eq_some_iff.mp e).1
    have := List.all_eq_true.mp h6 i (List.mem_range.mpr hi)
    simp only [e] at this
    cases en : N[i]? with
    | none => rw [en] at this; exact Bool.noConfusion this
    | some x =>
      rw [en] at this
      have h := Bool.and_eq_true_iff.mp this
      exact ⟨x, rfl, beq_iff_eq.mp h.1, beq_iff_eq.mp h.2⟩
theorem relabel_kind {scope : Scope} {env : Env} : ∀ {names : List (Str × NameKind)} {x : Str} {k : NameKind}, (∀ y ∈ names, y.2 ≠ .cell) → (k = .cell ∨ k = .free) →
    (names.map fun (n, k) => if (k == NameKind.free && env.scope.kind == .function && env.kindOf n == some .cell) then (n, NameKind.cell) else (n, k)).lookup x = some k → (x, NameKind.free) ∈ names
  | [], _, _, _, _, h => by simp at h
  | (n, k0) :: r, x, k, hn, hk, h => by
    by_cases hx : x = n
    · subst hx
      by_cases hf : k0 = .free
      · subst hf; exact List.mem_cons_self
      · exfalso
        have hb : (k0 == NameKind.free) = false := beq_eq_false_iff_ne.mpr hf
        simp only [List.map_cons, hb, Bool.false_and, Bool.false_eq_true, if_false, List.lookup_cons, beq_self_eq_true] at h
        cases h
        rcases hk with hk | hk
        · exact hn _ List.mem_cons_self hk
        · exact hf hk
    · have hb : (x == n) = false := beq_eq_false_iff_ne.mpr hx
      have h' : (r.map fun (n, k) => if (k == NameKind.free && env.scope.kind == .function && env.kindOf n == some .cell) then (n, NameKind.cell) else (n, k)).lookup x = some k := by
        rw [List.map_cons] at h
        dsimp only at h
        by_cases hc : (k0 == NameKind.free && env.scope.kind == .function && env.kindOf n == some .cell) = true
        · rw [if_pos hc, List.lookup_cons, hb] at h; exact h
        · rw [if_neg hc, List.lookup_cons, hb] at h; exact h
      exact List.mem_cons_of_mem _ (relabel_kind (scope := scope) (fun y hy => hn y (List.mem_cons_of_mem _ hy)) hk h')
theorem relabel_free {env : Env} : ∀ {names : List (Str × NameKind)} {x : Str}, names.lookup x = some .free →
    (names.map fun (n, k) => if (k == NameKind.free && env.scope.kind == .function && env.kindOf n == some .cell) then (n, NameKind.cell) else (n, k)).lookup x = some .cell ∨
    (names.map fun (n, k) => if (k == NameKind.free && env.scope.kind == .function && env.kindOf n == some .cell) then (n, NameKind.cell) else (n, k)).lookup x = some .free
  | [], _, h => by simp at h
  | (n, k0) :: r, x, h => by
    by_cases hx : x = n
    · subst hx
      rw [List.lookup_cons, beq_self_eq_true] at h
      cases h
      rw [List.map_cons]
      dsimp only
      by_cases hc : (NameKind.free == NameKind.free && env.scope.kind == .function && env.kindOf x == some .cell) = true
      · rw [if_pos hc, List.lookup_cons, beq_self_eq_true]; exact .inl rfl
      · rw [if_neg hc, List.lookup_cons, beq_self_eq_true]; exact .inr rfl
    · have hb : (x == n) = false := beq_eq_false_iff_ne.mpr hx
      rw [List.lookup_cons, hb] at h
      have ih := relabel_free (env := env) h
      rw [List.map_cons]
      dsimp only
      by_cases hc : (k0 == NameKind.free && env.scope.kind == .function && env.kindOf n == some .cell) = true
      · rw [if_pos hc, List.lookup_cons, hb]; exact ih
      · rw [if_neg hc, List.lookup_cons, hb]; exact ih
section
variable {X : Cx} {pins : List (Addr × Obj)} {σ : St} {H : Hp} {s : Shared} {N : List Str} {fr : List (Option Nat)} {scope : Scope} {cl : List (Str × Addr)} {fp : List Addr}
theorem Inv.stkLt (I : Inv X pins σ H s) {b : Addr} (hb : b ∈ frs X.stack) : b < s.heap.objs.size := by
  rcases List.mem_cons.mp (I.stkSub b hb) with e | hb
  · rw [e]; exact I.lt
  · exact Nat.lt_of_not_le fun z => I.nofs z hb
theorem comp_ok {C : Addr} (I : Inv X pins σ H s) (S : CScope X N fr scope) (hcl : ∀ x c, cl.lookup x = some c → X.env.cells.lookup x = some c) (hcf : ∀ y ∈ scope.names, y.2 = .free → ∃ c, cl.lookup y.1 = some c)
    (hf : ∀ b ∈ fp, FpOk X pins H b) (hlt : ∀ b ∈ fp, b < s.heap.objs.size) (hC : s.heap.objs.size ≤ C) : (cxComp X N scope cl C fp s H).Ok where
  mod := I.ok.mod
  kind := S.kind
  glob := I.ok.glob
  blt := I.ok.blt
  above := hC
  inj := fun x y c h1 h2 => I.ok.inj x y c (hcl x c h1) (hcl y c h2)
  has := fun x hx => by
    have hm : (x, NameKind.free) ∈ scope.names := by
      rcases hx with hx | hx
      · exact relabel_kind (scope := scope) (env := X.env) S.nocell (.inl rfl) hx
      · exact relabel_kind (scope := scope) (env := X.env) S.nocell (.inr rfl) hx
    exact hcf _ hm rfl
  cab := fun x c h => nomatch h
  hd := I.ok.hd
  frames := I.ok.frames
  stk := .inl rfl
  exf := fun b hb => ⟨Nat.ne_of_lt (Nat.lt_of_lt_of_le (hlt b hb) hC), fun x c e => (hf b hb).2.2.2.2.1 x c (hcl x c e)⟩
  bs := I.bs
  bsz := Nat.le_trans I.ok.bsz I.sz
  noex := fun b o e hb => by
    rcases (hf b hb).2.2.2.1 with z | z
    · exact I.ok.noex b o e z
    · exact absurd (Nat.lt_of_lt_of_le (Heap.lt_size e) (Nat.le_trans I.ok.bsz z)) (Nat.lt_irrefl _)
  exfs := fun b hb z => by
    rcases List.mem_cons.mp (I.stkSub b z) with e | z
    · exact (hf b hb).2.1 e
    · exact (hf b hb).2.2.1 z
  funs := I.stack
  frf := I.stkFree
theorem slotsC_get {i : Nat} {v : V} (h : (slotsC fr σ)[i]? = some (some v)) : ∃ j, fr[i]? = some (some j) ∧ σ[j]? = some (some v) := by
  unfold slotsC at h
  rw [List.getElem?_map] at h
  cases e : fr[i]? with
  | none => rw [e] at h; cases h
  | some o =>
    rw [e] at h
    have h : (o.bind fun j => (σ[j]?).bind id) = some v := Option.some.inj h
    cases o with
    | none => cases h
    | some j =>
      refine ⟨j, rfl, ?_⟩
      have h : (σ[j]?).bind id = some v := h
      cases e2 : σ[j]? with
      | none => rw [e2] at h; cases h
      | some w => rw [e2] at h; exact congrArg some h
theorem comp_start {C D : Addr} {h1 : Heap} {tk : Nat} {m : Str → Option Value} {ob : Obj} (I : Inv X pins σ H s) (S : CScope X N fr scope) (hcl : ∀ x c, cl.lookup x = some c → X.env.cells.lookup x = some c)
    (hcf : ∀ y ∈ scope.names, y.2 = .free → ∃ c, cl.lookup y.1 = some c) (hf : ∀ b ∈ fp, FpOk X pins H b) (hlt : ∀ b ∈ fp, b < s.heap.objs.size) (hC : s.heap.objs.size ≤ C) (hD : s.heap.objs.size ≤ D) (hDC : D ≠ C)
    (k : ∀ b o, s.heap.get? b = some o → h1.get? b = some o) (hn : h1.Ns C m) (hd : h1.get? D = some ob) (hob : ∀ v, ob.data ≠ .cell v) :
    Inv (cxComp X N scope cl C fp s H) [(D, ob)] (slotsC fr σ) H { s with heap := h1, toks := tk } where
  ok := comp_ok I S hcl hcf hf hlt hC
  os := rfl
  bare := I.bare
  base := Un.kept k
  loc := ⟨m, hn, fun i x v e1 e2 e3 => by
    obtain ⟨j, f1, f2⟩ := slotsC_get e2
    obtain ⟨y, n1, n2, n3⟩ := S.frs i j f1
    have e1 : N[i]? = some x := e1
    rw [e1] at n1
    cases n1
    have kx := S.free _ (PySem.mem_of_lookup n3) rfl
    obtain ⟨m0, _, hl⟩ := I.loc
    obtain ⟨u, r, l⟩ := hl j x v n2 f2 (.inr kx)
    refine ⟨u, r, .inr ⟨relabel_free (env := X.env) n3, ?_⟩⟩
    rcases l with ⟨l, _⟩ | ⟨_, c, ec, hc⟩
    · rcases kx with kx | kx <;> (rw [l] at kx; cases kx)
    · obtain ⟨c', ec'⟩ := hcf _ (PySem.mem_of_lookup n3) rfl
      have := hcl _ _ ec'
      rw [ec] at this
      cases this
      obtain ⟨o, ho, hv⟩ := hc
      exact ⟨c, ec', o, k c o ho, hv⟩⟩
  cell := fun x c e => by
    obtain ⟨v, o, ho, hv⟩ := I.cell x c (hcl x c e)
    exact ⟨v, o, k c o ho, hv⟩
  free := I.hok.fresh hC
  freeC := fun x c e => I.freeC x c (hcl x c e)
  pin := fun p hp => by
    have e : p = (D, ob) := by
      have hp : p ∈ [(D, ob)] := hp
      simpa using hp
    subst e
    exact ⟨hd, I.hok.fresh hD, hDC, fun z => absurd (Nat.lt_of_lt_of_le (I.stkLt z) hD) (Nat.lt_irrefl _), hob⟩
  hok := I.hok.kept k
  len := by
    show (fr.map _).length = N.length
    rw [List.length_map, S.len]
theorem HOk.track {P : Program} {w : World} {H : Hp} {h h' : Heap} {a : Addr} {o : HO} (x : HOk P w H h) (hn : H a = none) (k : ∀ b u, H b ≠ none → h.get? b = some u → h'.get? b = some u) (new : ObjOk P w (upd H a o) h' a o) : HOk P w (upd H a o) h' := fun b u e => by
  by_cases hb : b = a
  · subst hb; rw [upd_same] at e; cases e; exact new
  · rw [upd_ne hb] at e
    refine (x b u e).stay (fun c v hc q => k c v ?_ q) (fun c q => by rw [upd_ne (ne_of_none q hn)]; exact q) fun c xs q => by rw [upd_ne (ne_of_none q hn)]; exact q
    rcases hc with rfl | hc
    · rw [e]; exact fun z => nomatch z
    · rw [hc]; exact fun z => nomatch z
theorem comp_end {C D : Addr} {h' : Heap} {H' : Hp} {s' : Shared} {σ' : St} {its : List Value} {n : Nat} {acc : List V} (I : Inv X pins σ H s)
    (hf : ∀ b ∈ fp, FpOk X pins H b) (hC : s.heap.objs.size ≤ C) (hD : s.heap.objs.size ≤ D) (hDC : D ≠ C)
    (J : Inv (cxComp X N scope cl C fp s H) [(D, { cls := .type "list", data := .seq its.toArray n })] σ' H' s') (r : Vals acc its) (hz : acc.length ≤ sizeLine) (sb : Heap.SameBut C s'.heap h') :
    Inv X pins σ (upd H' D (.lst acc)) { s' with heap := h' } := by
  obtain ⟨hd, hD0, _, _, _⟩ := J.pin (D, { cls := .type "list", data := .seq its.toArray n }) (by simp)
  have hC0 : H' C = none := J.free
  have kC : ∀ b o, b ≠ C → s'.heap.get? b = some o → h'.get? b = some o := fun b o hb e => sb.extBut b o hb e
  have hok : HOk X.prog X.w (upd H' D (.lst acc)) h' := J.hok.track hD0 (fun b u hb e => kC b u (fun z => hb (by rw [z]; exact hC0)) e) ⟨hz, its, n, r, kC D _ hDC hd⟩
  have neC : ∀ b o, s.heap.get? b = some o → b ≠ C := fun b o e => Nat.ne_of_lt (Nat.lt_of_lt_of_le (Heap.lt_size e) hC)
  have neD : ∀ b o, s.heap.get? b = some o → b ≠ D := fun b o e => Nat.ne_of_lt (Nat.lt_of_lt_of_le (Heap.lt_size e) hD)
  have trD : ∀ b o, H b = some o → b ≠ D := fun b o e => Nat.ne_of_lt (Nat.lt_of_lt_of_le (I.hok.lt e) hD)
  have B : Un (frs X.stack) fp H H' s.heap s'.heap := J.base
  have U : Un (frs X.stack) fp H (upd H' D (.lst acc)) s.heap h' := {
    keep := fun b o e n hb hx => kC b o (neC b o e) (B.keep b o e n hb hx)
    slot := fun b o e n hb hx => by
      obtain ⟨sl, q⟩ := B.slot b o e n hb hx
      exact ⟨sl, kC b _ (neC b o e) q⟩
    free := fun b o e n hx => by rw [upd_ne (neD b o e)]; exact B.free b o e n hx
    there := fun b o e hx => by
      obtain ⟨o', q⟩ := B.there b o e hx
      exact ⟨o', kC b _ (neC b o e) q⟩
    tups := fun b xs e => by rw [upd_ne (trD b _ e)]; exact B.tups b xs e
    frzs := fun b o u e => by rw [upd_ne (trD b _ e)]; exact B.frzs b o u e
    tbls := fun b ps e => by rw [upd_ne (trD b _ e)]; exact B.tbls b ps e }
  exact I.call' (s' := { s' with heap := h' }) J.os U hok J.bare fun b hb => ⟨(hf b hb).2.2.2.1, (hf b hb).2.1, (hf b hb).2.2.2.2.1, (hf b hb).2.2.2.2.2⟩
end
def PTs (X : Cx) (ifs : List Expr) (t : TT) : Prop :=
  ∀ (pins : List (Addr × Obj)) (s : Shared) (σ : St) (H : Hp) (Q : Bool → Hp → Prop), Inv X pins σ H s → t σ H Q →
    wpAny (model X.prog X.w) X.A (forIn ifs true fun c r => if r = true then do let ok ← isTrue c X.env (eval c X.env); pure (ForInStep.yield ok) else pure (ForInStep.yield r)) (TP X pins σ Q) X.xe s
def tYes : TT := fun _ H Q => Q true H
theorem pts_nil {X : Cx} : PTs X [] tYes := fun pins s σ H Q I h => wpAny_tests_nil ⟨H, I, h⟩
theorem pts_one {X : Cx} {c : Expr} {t : TT} (h : PT X c t) : PTs X [c] t := fun pins s σ H Q I q => wpAny_tests_one (h pins s σ H Q I q)
def tTurns (J : It) (g : TG) (tt : TT) (te : TE) (σ0 : St) (H1 : Hp) (Fin : List V → Hp → Prop) : Prop :=
  ∃ W : Nat → Nat → List V → St → Hp → Prop, (∃ m, W 0 m [] σ0 H1) ∧ ∀ i m acc σ' H', W i m acc σ' H' →
    (J.stop i H' ∧ acc.length ≤ sizeLine ∧ Fin acc H') ∨ (J.go i H' ∧ acc.length < sizeLine ∧ ∃ N : List V → St → Hp → Prop, (∀ acc' σ2 H2, N acc' σ2 H2 → ∃ m', m' < m ∧ W (i + 1) m' acc' σ2 H2) ∧
      ∀ x H2, J.yld i H' x H2 → g x σ' H2 fun σ2 H3 => tt σ2 H3 fun b H4 => if b = true then te σ2 H4 fun y H5 => N (acc ++ [y]) σ2 H5 else N acc σ2 H4)
abbrev lobj (its : List Value) (n : Nat) : Obj := { cls := .type "list", data := .seq its.toArray n }
section
variable {X : Cx} {pins : List (Addr × Obj)} {σ : St} {H : Hp} {s s1 : Shared} {N : List Str} {fr : List (Option Nat)} {scope : Scope} {cl : List (Str × Addr)} {fp : List Addr}
  {elt tg iter : Expr} {ifs : List Expr} {pos : Pos} {it C D : Addr} {tn : Nat → Heap → Prop} {J : It} {g : TG} {tt : TT} {te : TE} {R : Result → Shared → Prop} {Fin : List V → Hp → Prop} {σ0 : St} {H1 : Hp}
theorem comp_loop (hc : X.calm = true) (hg : PG (cxComp X N scope cl C fp s H) tg g) (ht : PTs (cxComp X N scope cl C fp s H) ifs tt) (he : PE (cxComp X N scope cl C fp s H) elt te) (T : Turn X.prog X.w X.K tg J fp it tn)
    (sf : ∀ b ∈ fp, b ≠ C ∧ b ∉ frs X.stack ∧ (∀ x c, cl.lookup x = some c → c ≠ b) ∧ D ≠ b) (sD : s.heap.objs.size ≤ D ∧ D ≠ C ∧ D ∉ frs X.stack ∧ ∀ x c, cl.lookup x = some c → c ≠ D)
    (I0 : Inv (cxComp X N scope cl C fp s H) [(D, lobj [] 0)] σ0 H1 s1) (st0 : tn 0 s1.heap) (f0 : ∀ b ∈ fp, H1 b = none) (hL : tTurns J g tt te σ0 H1 Fin)
    (hR : ∀ s' H' σ' its n acc, Inv (cxComp X N scope cl C fp s H) [(D, lobj its n)] σ' H' s' → Vals acc its → acc.length ≤ sizeLine → Fin acc H' → R (.ok .next) s') :
    codeAny (model X.prog X.w) X.A (.compLoop (.ListComp elt [⟨tg, iter, ifs, 0⟩] scope pos) 0 (.ref it) (.ref D) (compEnvC scope cl C X.env)) R s1 := by
  obtain ⟨W, ⟨m0, w0⟩, turn⟩ := hL
  refine codeAny_loop rfl (fun n s' => ∃ i σ' H' its k acc, Inv (cxComp X N scope cl C fp s H) [(D, lobj its k)] σ' H' s' ∧ tn i s'.heap ∧ (∀ b ∈ fp, H' b = none) ∧ Vals acc its ∧ W i n acc σ' H') ?_ m0 ⟨0, σ0, H1, [], 0, [], I0, st0, f0, .nil, w0⟩
  rintro n s3 ⟨i, σ3, H3, its, k, acc, I3, st3, fr3, r3, w3⟩
  show wpAny _ X.A ((compTurn (.ListComp elt [⟨tg, iter, ifs, 0⟩] scope pos) 0 (.ref it) (.ref D) (compEnvC scope cl C X.env)).onRaise (fun x => do noteFrame x (compEnvC scope cl C X.env); theTreesLotGoes x)) _ _ s3
  refine wpAny_noted ?_
  rw [compTurn_list]
  have stat : ∀ {its : List Value} {k : Nat} {H' : Hp}, (∀ b ∈ fp, H' b = none) → ∀ b ∈ fp, FpOk (cxComp X N scope cl C fp s H) [(D, lobj its k)] H' b := fun {its k H'} hn b hb => by
    obtain ⟨a1, a2, a3, a4⟩ := sf b hb
    refine ⟨hn b hb, a1, a2, .inl hb, a3, fun p hp => ?_⟩
    have e : p = (D, lobj its k) := by
      have hp : p ∈ [(D, lobj its k)] := hp
      simpa using hp
    subst e
    exact a4
  rcases turn i n acc σ3 H3 w3 with ⟨stop, hz, fin⟩ | ⟨go, hz, Nx, hN, step⟩
  · refine wpAny_bind (wpAny_standAt (wpAny_bind (wpAny_mono (T.done (cxComp X N scope cl C fp s H) rfl rfl rfl hc i _ s3 σ3 H3 (fun _ _ => False) I3 (stat fr3) st3 stop) (fun r s4 h4 => ?_) fun _ _ f => f.elim)))
    obtain ⟨hr, I4⟩ := h4
    subst hr
    exact wpAny_pure (hR s4 H3 σ3 its k acc I4 r3 hz fin)
  · refine wpAny_bind (wpAny_standAt (wpAny_bind (wpAny_mono (T.item (cxComp X N scope cl C fp s H) rfl rfl rfl hc i _ s3 σ3 H3 (fun _ _ => False) I3 (stat fr3) st3 go) (fun r s4 h4 => ?_) fun _ _ f => f.elim)))
    obtain ⟨u, hr, h4⟩ := h4
    subst hr
    refine wpAny_bind (wpAny_mono h4 (fun _ s5 h5 => ?_) fun _ _ f => f.elim)
    obtain ⟨x, H5, I5, r5, y5, st5, fr5⟩ := h5
    have I5' := I5.pinned (stat fr5) (T.obj _ _ st5)
    refine wpAny_bind (wpAny_mono (hg _ s5 σ3 H5 x u _ I5' r5 (step x H5 y5)) (fun _ s6 h6 => ?_) fun _ _ f => f.elim)
    obtain ⟨σ6, H6, I6, q6⟩ := h6
    refine wpAny_bind (wpAny_mono (ht _ s6 σ6 H6 _ I6 q6) (fun ok s7 h7 => ?_) fun _ _ f => f.elim)
    obtain ⟨H7, I7, q7⟩ := h7
    have pn : ∀ {σ8 : St} {H8 : Hp} {s8 : Shared}, Inv (cxComp X N scope cl C fp s H) ([(D, lobj its k)] ++ pinsAt fp s5.heap) σ8 H8 s8 → tn (i + 1) s8.heap ∧ (∀ b ∈ fp, H8 b = none) ∧ s8.heap.get? D = some (lobj its k) ∧ H8 D = none := fun {σ8 H8 s8} I8 => by
      refine ⟨T.keep _ _ _ st5 fun b hb o e => (I8.pin (b, o) (List.mem_append_right _ (List.mem_append_right _ (mem_pinsAt hb e)))).1, fun b hb => ?_, ?_, ?_⟩
      · obtain ⟨o, e, d⟩ := T.obj _ _ st5 b hb
        exact (I8.pin (b, o) (List.mem_append_right _ (List.mem_append_right _ (mem_pinsAt hb e)))).2.1
      · exact (I8.pin (D, lobj its k) (List.mem_append_right _ (List.mem_append_left _ (by simp)))).1
      · exact (I8.pin (D, lobj its k) (List.mem_append_right _ (List.mem_append_left _ (by simp)))).2.1
    cases ok with
    | false =>
      obtain ⟨t8, f8, _, _⟩ := pn I7
      obtain ⟨m', hm, w8⟩ := hN acc σ6 H7 q7
      exact wpAny_pure ⟨rfl, m', hm, i + 1, σ6, H7, its, k, acc, I7.unpinned, t8, f8, r3, w8⟩
    | true =>
      have q7 : te σ6 H7 fun y H5 => Nx (acc ++ [y]) σ6 H5 := q7
      refine wpAny_bind (wpAny_bind (wpAny_mono (he _ s7 σ6 H7 _ I7 q7) (fun v s8 h8 => ?_) fun _ _ f => f.elim))
      obtain ⟨y, H8, I8, r8, n8⟩ := h8
      obtain ⟨t8, f8, d8, dn8⟩ := pn I8
      have hil : its.toArray.size ≤ sizeLine := by
        have := r3.length
        simp only [List.size_toArray]
        omega
      refine wpAny_bind (append_at (hsz := hil) d8 fun h9 sb9 d9 => ?_)
      refine wpAny_pure (wpAny_pure ⟨rfl, ?_⟩)
      obtain ⟨m', hm, w9⟩ := hN (acc ++ [y]) σ6 H8 n8
      have I8' : Inv (cxComp X N scope cl C fp s H) [] σ6 H8 s8 := I8.pins_of fun p hp => nomatch hp
      have I9 : Inv (cxComp X N scope cl C fp s H) [] σ6 H8 { s8 with heap := h9 } := I8'.turned (t' := s8.toks) (it := D) (fun b o hb e => sb9.extBut b o hb e) dn8 sD.2.1 (.inr sD.1) sD.2.2.2 fun p hp => nomatch hp
      have eo : ({ cls := .type "list", data := .seq (its.toArray.push v) (k + 1) } : Obj) = lobj (its ++ [v]) (k + 1) := by
        show ({ cls := .type "list", data := .seq (its.toArray.push v) (k + 1) } : Obj) = { cls := .type "list", data := .seq (its ++ [v]).toArray (k + 1) }
        rw [List.push_toArray]
      refine ⟨m', hm, i + 1, σ6, H8, its ++ [v], k + 1, acc ++ [y], I9.pins_of fun p hp => ?_, T.keep _ _ _ t8 fun b hb o e => sb9.extBut b o (fun z => (sf b hb).2.2.2 z.symm) e, f8, r3.append (.cons r8 .nil), w9⟩
      have e : p = (D, lobj (its ++ [v]) (k + 1)) := by
        have hp : p ∈ [(D, lobj (its ++ [v]) (k + 1))] := hp
        simpa using hp
      subst e
      refine ⟨d9.trans (congrArg some eo), dn8, sD.2.1, sD.2.2.1, fun v z => nomatch z⟩
theorem comp_block {RR : Value → Addr → Result → Shared → Prop} {E : Value → Shared → Prop} (hc : X.calm = true) (S : CScope X N fr scope) (hcl : ∀ x c, cl.lookup x = some c → X.env.cells.lookup x = some c)
    (hcf : ∀ y ∈ scope.names, y.2 = .free → ∃ c, cl.lookup y.1 = some c) (hg : ∀ C fp s H, PG (cxComp X N scope cl C fp s H) tg g) (ht : ∀ C fp s H, PTs (cxComp X N scope cl C fp s H) ifs tt) (he : ∀ C fp s H, PE (cxComp X N scope cl C fp s H) elt te)
    (T : Turn X.prog X.w X.K tg J fp it tn) (I : Inv X pins σ H s) (st : tn 0 s.heap) (hf : ∀ b ∈ fp, FpOk X pins H b) (hL : tTurns J g tt te (slotsC fr σ) H Fin)
    (hRR : ∀ C D s' H' σ' its n acc, s.heap.objs.size ≤ C → s.heap.objs.size ≤ D → D ≠ C → Inv (cxComp X N scope cl C fp s H) [(D, lobj its n)] σ' H' s' → Vals acc its → acc.length ≤ sizeLine → Fin acc H' → RR (.ref D) C (.ok .next) s') :
    wpAny (model X.prog X.w) X.A (newList []) (fun acc s₃ => wpAny (model X.prog X.w) X.A (newFunctionEnv scope X.env.globals cl [] X.env.qual none .none (some X.env)) (fun cenv s₄ =>
      codeAny (model X.prog X.w) X.A (.compStart (.ListComp elt [⟨tg, iter, ifs, 0⟩] scope pos) 0 (.ref it) acc { cenv with scope := relabel scope X.env }) (RR acc cenv.locals) s₄) E s₃) E s := by
  refine wpAny_newObj_type (wpAny_newFunctionEnv S.nocell (by intro y hy; simp at hy) (fun h₁ hns₁ hsb₁ => ?_) S.kind)
  dsimp only at hns₁ hsb₁ ⊢
  generalize hH2 : s.heap.push { cls := .type "list", dict := none, data := .seq ([] : List Value).toArray } = H2 at hns₁ hsb₁ ⊢
  have hC : H2.objs.size = s.heap.objs.size + 1 := by rw [← hH2, Heap.size_push]
  have hDC : s.heap.objs.size ≠ H2.objs.size := by rw [hC]; exact Nat.ne_of_lt (Nat.lt_succ_self _)
  have hCle : s.heap.objs.size ≤ H2.objs.size := by rw [hC]; exact Nat.le_succ _
  have old : ∀ b o, s.heap.get? b = some o → h₁.get? b = some o := fun b o e => hsb₁.extBut b o (Nat.ne_of_lt (Nat.lt_of_lt_of_le (Heap.lt_size e) hCle)) (Heap.get?_push_of_some _ (hH2 ▸ Heap.get?_push_of_some _ e))
  have hacc : h₁.get? s.heap.objs.size = some (lobj [] 0) := hsb₁.extBut _ _ hDC (Heap.get?_push_of_some _ (hH2 ▸ Heap.get?_push_size _ rfl))
  have hlt : ∀ b ∈ fp, b < s.heap.objs.size := fun b hb => by
    obtain ⟨o, e, _⟩ := T.obj _ _ st b hb
    exact Heap.lt_size e
  have hcs : ∀ x c, cl.lookup x = some c → c < s.heap.objs.size := fun x c e => by
    obtain ⟨v, q⟩ := I.cell x c (hcl x c e)
    exact q.lt
  have loop : ∀ s₃ : Shared, s₃ = { s with heap := h₁, toks := s.toks + ([] : List (Str × Value)).length } →
      codeAny (model X.prog X.w) X.A (.compLoop (.ListComp elt [⟨tg, iter, ifs, 0⟩] scope pos) 0 (.ref it) (.ref s.heap.objs.size) (compEnvC scope cl H2.objs.size X.env))
        (RR (.ref s.heap.objs.size) H2.objs.size) s₃ := by
    rintro s₃ rfl
    refine comp_loop hc (hg _ _ _ _) (ht _ _ _ _) (he _ _ _ _) T (fun b hb => ⟨Nat.ne_of_lt (Nat.lt_of_lt_of_le (hlt b hb) hCle), fun z => ?_, fun x c e => (hf b hb).2.2.2.2.1 x c (hcl x c e), Nat.ne_of_gt (hlt b hb)⟩)
      ⟨Nat.le_refl _, hDC, fun z => absurd (I.stkLt z) (Nat.lt_irrefl _), fun x c e => Nat.ne_of_lt (hcs x c e)⟩
      (comp_start I S hcl hcf hf hlt hCle (Nat.le_refl _) hDC old hns₁ hacc fun v z => nomatch z) (T.keep _ _ _ st fun b _ o e => old b o e) (fun b hb => (hf b hb).1) hL
      fun s' H' σ' its n acc I' r hz fin => hRR _ _ s' H' σ' its n acc hCle (Nat.le_refl _) hDC I' r hz fin
    rcases List.mem_cons.mp (I.stkSub b z) with e | z
    · exact (hf b hb).2.1 e
    · exact (hf b hb).2.2.1 z
  exact codeAny_compStart_list (loop _ rfl) (T.self X.A 0 _ _ _ (T.keep _ _ _ st fun b _ o e => old b o e) (loop _ rfl))
def tComp (wi : TI) (fr : List (Option Nat)) (g : TG) (tt : TT) (te : TE) : TE := fun σ H Q => wi σ H fun J H1 => tTurns J g tt te (slotsC fr σ) H1 fun acc H2 => ∀ p, H2 p = none → Q (.ref p) (upd H2 p (.lst acc))
theorem pe_comp {wi : TI} (N : List Str) (fr : List (Option Nat)) (hc : X.calm = true) (S : CScope X N fr scope) (hi : PI X tg iter wi) (hg : ∀ cl C fp s H, PG (cxComp X N scope cl C fp s H) tg g) (ht : ∀ cl C fp s H, PTs (cxComp X N scope cl C fp s H) ifs tt)
    (he : ∀ cl C fp s H, PE (cxComp X N scope cl C fp s H) elt te) (hs : ∀ x, foldedSetIterable iter X.env x = pure x := by intro _; rfl) : PE X (.ListComp elt [⟨tg, iter, ifs, 0⟩] scope pos) (tComp wi fr g tt te) := by
  intro pins s σ H Q I h
  obtain ⟨cl, hclos, hcl, hcf⟩ := closure_of (scope := scope) (env := X.env) fun y hy hf => I.ok.has y.1 (S.free y hy hf)
  rw [eval_ListComp]
  refine wpAny_comprehension_free (use := none) rfl hs hclos S.kind S.names (wpAny_mono (hi pins s σ H _ I h) (fun xv s₁ h₁ => wpAny_mono h₁ (fun itv s2 h2 => ?_) fun _ _ e => e) fun _ _ e => e)
  obtain ⟨it, fp, tn, J, H2, e, I2, T, st2, f2, hL⟩ := h2
  subst e
  refine comp_block (RR := fun acc C => compPost (model X.prog X.w) X.A X.xe none (EP X pins σ Q) acc C) hc S hcl hcf (hg cl) (ht cl) (he cl) T I2 st2 f2 hL ?_
  intro C D s' H' σ' its n acc hC hD hDC J' r hz fin
  obtain ⟨m, hn, _⟩ := J'.loc
  refine ⟨m, hn, fun h' sb => ⟨.ref D, _, comp_end I2 f2 hC hD hDC J' r hz sb, rfl, fin D ?_⟩⟩
  exact (J'.pin (D, lobj its n) (by simp)).2.1
theorem ps_comp {wi : TI} {i : Nat} {y : Str} {py spos : Pos} (N : List Str) (fr : List (Option Nat)) (hc : X.calm = true) (hN : X.N.Nodup) (hiy : X.N[i]? = some y) (hy : X.env.scope.names.lookup y = some .local) (S : CScope X N fr scope) (hi : PI X tg iter wi)
    (hg : ∀ cl C fp s H, PG (cxComp X N scope cl C fp s H) tg g) (ht : ∀ cl C fp s H, PTs (cxComp X N scope cl C fp s H) ifs tt) (he : ∀ cl C fp s H, PE (cxComp X N scope cl C fp s H) elt te)
    (hsw : swapsWith (.ListComp elt [⟨tg, iter, ifs, 0⟩] scope pos) (some (.Name y py)) spos.line X.env = pure true := by rfl) (hs : ∀ x, foldedSetIterable iter X.env x = pure x := by intro _; rfl) :
    PS X (.Assign [.Name y py] (.ListComp elt [⟨tg, iter, ifs, 0⟩] scope pos) spos) (tAsg (tComp wi fr g tt te) (gName i)) := by
  intro pins s σ H Dn I h
  obtain ⟨cl, hclos, hcl, hcf⟩ := closure_of (scope := scope) (env := X.env) fun y hy hf => I.ok.has y.1 (S.free y hy hf)
  rw [exec_Assign_Name_used _ _ _ _ hsw]
  refine wpAny_bind (wpAny_standAt (wpAny_bind ?_))
  show wpAny _ X.A (do let _ ← comprehension (.ListComp elt [⟨tg, iter, ifs, 0⟩] scope pos) scope X.env _ (newList []) false (eval iter X.env) (some (assign (.Name y py) X.env))) _ _ s
  refine wpAny_bind (wpAny_mono (wpAny_comprehension_free (use := some (assign (.Name y py) X.env)) (Q := fun _ s' => SP X pins Dn .next s') rfl hs hclos S.kind S.names
    (wpAny_mono (hi pins s σ H _ I h) (fun xv s₁ h₁ => wpAny_mono h₁ (fun itv s2 h2 => ?_) fun _ _ e => e) fun _ _ e => e)) (fun _ s' hq => wpAny_pure (wpAny_pure hq)) fun _ _ e => e)
  obtain ⟨it, fp, tn, J, H2, e, I2, T, st2, f2, hL⟩ := h2
  subst e
  refine comp_block (RR := fun acc C => compPost (model X.prog X.w) X.A X.xe (some (assign (.Name y py) X.env)) (fun _ s' => SP X pins Dn .next s') acc C) hc S hcl hcf (hg cl) (ht cl) (he cl) T I2 st2 f2 hL ?_
  intro C D s' H' σ' its n acc hC hD hDC J' r hz fin
  obtain ⟨m, hn, _⟩ := J'.loc
  have hD0 : H' D = none := (J'.pin (D, lobj its n) (by simp)).2.1
  have hC0 : H' C = none := J'.free
  have I3 : Inv X pins σ (upd H' D (.lst acc)) s' := comp_end (h' := s'.heap) I2 f2 hC hD hDC J' r hz (Heap.SameBut.refl ..)
  refine wpAny_assign_Name (store_ok2 (v := .ref D) I3 hN hiy (.inl hy) rfl (fun s4 I4 sb4 => ?_) (.inr hy))
  obtain ⟨a, sb4, ha⟩ := sb4
  have hCa : C ≠ a := by
    rcases ha with ha | ha
    · rw [ha]; exact Nat.ne_of_gt (Nat.lt_of_lt_of_le I2.lt hC)
    · obtain ⟨v, q⟩ := I2.cell y a ha
      exact Nat.ne_of_gt (Nat.lt_of_lt_of_le q.lt hC)
  refine ⟨m, hn.sameBut sb4 hCa, fun h' sb => ?_⟩
  refine ⟨_, _, I4.turned (t' := s4.toks) (it := C) (fun b o hb e => sb.extBut b o hb e) ?_ ?_ ?_ ?_ ?_, fin D hD0⟩
  · rw [upd_ne (Ne.symm hDC)]; exact hC0
  · exact Nat.ne_of_gt (Nat.lt_of_lt_of_le I2.lt hC)
  · exact .inr (Nat.le_trans I2.sz hC)
  · intro x c e
    obtain ⟨v, q⟩ := I2.cell x c e
    exact Nat.ne_of_lt (Nat.lt_of_lt_of_le q.lt hC)
  · intro p hp
    exact Nat.ne_of_lt (Nat.lt_of_lt_of_le (Heap.lt_size (I2.pin p hp).1) hC)
end
end L2
set_option Elab.async false
set_option linter.all false
set_option maxRecDepth 100000
namespace L2
open PySem PySem.Spec PyProof.Rows
section
variable {X : Cx} {a b : Expr} {ta tb : TE} {pos : Pos} {tg : Expr}
def CDivB (_ j : Int) : Prop := 0 < j ∧ j.natAbs.log2 < 9000
theorem op_fdivB : OpR X (binaryOp .FloorDiv) (rI CDivB fun i j => .int (i / j)) := opI fun i j _ _ _ _ _ hc q => by
  have h1 : (0 : Int) < j := hc.1
  refine floordiv_int (by omega) ?_ (Or.inl (PyProof.noPylong_of_log2 hc.2))
  rw [Int.fdiv_eq_ediv_of_nonneg _ (by omega)]
  exact q
theorem op_le_str : OpR X (compareOp .LtE) (fun x y H Q => ∃ i j, x = .str i ∧ y = .str j ∧ Q (.bl (!decide (j.cps.toList < i.cps.toList))) H) := by
  intro pins s σ H x y v u Q I rx ry h
  obtain ⟨i, j, rfl, rfl, q⟩ := h
  obtain ⟨t, rfl⟩ := rx
  obtain ⟨t', rfl⟩ := ry
  exact PySem.P.le_str (fin_bl I q rfl)
def Its (x : Str) : It := ⟨fun i _ => i < x.cps.size, fun i H v H' => H' = H ∧ ∃ c, x.cps[i]? = some c ∧ v = .str ⟨#[c]⟩, fun i _ => x.cps.size = i⟩
theorem turn_str {P : Program} {w : World} {K : PySem.W.Frag} (it : Addr) (x : Str) (nm : String) (t : Tok) (hn : nm = "str_ascii_iterator" ∨ nm = "str_iterator")
    (W : ∀ A' : Around, A'.handled = none → Walks P w A' it [it] [it] x.cps.size (SignAt x) (fun i h => h.IsStrIter it nm x t i)) : Turn P w K tg (Its x) [it] it (fun i h => h.IsStrIter it nm x t i) where
  mem := by simp
  obj := fun i h st b hb => by
    have e : b = it := by simpa using hb
    subst e
    obtain ⟨o, e, c, d⟩ := st
    exact ⟨o, e, fun v z => by rw [d] at z; cases z⟩
  keep := fun i h h' st k => by
    obtain ⟨o, e, r⟩ := st
    exact ⟨o, k it (by simp) o e, r⟩
  item := by
    intro X hP hw hK hc i pins s σ H E I hf st hg
    subst hP hw hK
    obtain ⟨f0, f1, f2, f3, f4, f5⟩ := hf it (by simp)
    refine (W X.A (I.ok.hd hc)).item i s _ _ hg st fun v h' tk hv st' kk => ?_
    obtain ⟨c, u, hc, rfl⟩ := hv
    have I1 : Inv X pins σ H { s with heap := h', toks := tk } := I.turned (fun b o hb e => kk b o (by simpa using hb) e) f0 f1 f3 f4 f5
    obtain ⟨o, e, cc, d⟩ := id st'
    refine ⟨_, rfl, go_of (s := { s with heap := h', toks := tk }) e cc d (by rcases hn with rfl | rfl <;> decide) ⟨.str ⟨#[c]⟩, H, I1, ⟨u, rfl⟩, ⟨rfl, c, hc, rfl⟩, st', fun b hb => (hf b hb).1⟩⟩
  done := by
    intro X hP hw hK hc i pins s σ H E I hf st hg
    subst hP hw hK
    obtain ⟨f0, f1, f2, f3, f4, f5⟩ := hf it (by simp)
    have hg : x.cps.size = i := hg
    subst hg
    refine (W X.A (I.ok.hd hc)).done s _ _ st fun h' tk kk => ⟨rfl, I.turned (fun b o hb e => kk b o (by simpa using hb) e) f0 f1 f3 f4 f5⟩
  self := fun A i s Q E st h => by
    rcases hn with rfl | rfl
    · exact wpAny_pyIter_striter_ascii st h
    · exact wpAny_pyIter_striter_wide st h
inductive I_iStr (x : V) (H1 : Hp) (R : It → Hp → Prop) : Prop
  | mk (z : _) (q1 : x = .str z) (q2 : R (Its z) H1)
def iStr (tl : TE) : TI := fun σ H R => tl σ H fun x H1 => I_iStr x H1 R
theorem pi_str {l : Expr} {tl : TE} (hl : PE X l tl) : PI X tg l (iStr tl) := by
  intro pins s σ H R I h
  refine thn (hl pins s σ H _ I h) fun v s1 ⟨x, H1, I1, r1, q1⟩ => ?_
  obtain ⟨z, e, q⟩ := q1
  subst e
  obtain ⟨t, rfl⟩ := r1
  have fpo : ∀ b ∈ [s1.heap.objs.size], FpOk X pins H1 b := fun b hb => by
    have e : b = s1.heap.objs.size := by simpa using hb
    subst e
    exact I1.fpOk (Nat.le_refl _) (I1.hok.fresh (Nat.le_refl _))
  cases ha : z.cps.all (· < 128)
  · exact wpAny_pyIter_wide ha ⟨s1.heap.objs.size, [s1.heap.objs.size], _, _, H1, rfl, I1.kept (t' := s1.toks) fun b o e => Heap.get?_push_of_some _ e, turn_str _ z _ t (.inr rfl) fun A' hA => Walks.strWide hA _ z t, ⟨_, Heap.get?_push_size _ rfl, rfl, rfl⟩, fpo, q⟩
  · exact wpAny_pyIter_ascii ha ⟨s1.heap.objs.size, [s1.heap.objs.size], _, _, H1, rfl, I1.kept (t' := s1.toks) fun b o e => Heap.get?_push_of_some _ e, turn_str _ z _ t (.inl rfl) fun A' hA => Walks.strAscii hA _ z t, ⟨_, Heap.get?_push_size _ rfl, rfl, rfl⟩, fpo, q⟩
theorem strsAre_of {ns : List Str} : ∀ {us : List Value}, Vals (ns.map V.str) us → StrsAre us ns := by
  induction ns with
  | nil => intro us r; cases r; exact .nil
  | cons n r ih =>
    intro us q
    cases q with
    | cons h t =>
      obtain ⟨tk, rfl⟩ := h
      exact .cons n tk (ih t)
inductive I_rJoin (K : PySem.W.Frag) (x : V) (vs : List V) (H : Hp) (Q : VK) : Prop
  | mk (z : Str) (p : Addr) (ys : List Str) (q1 : x = .str z) (q2 : vs = [.ref p]) (q3 : SqL K H p (ys.map V.str)) (q4 : (ys.map (·.length)).sum + ys.length * z.length ≤ 16777216) (q5 : Q (.str (Txt.join z ys)) H)
def rJoin (K : PySem.W.Frag) : V → List V → Hp → VK → Prop := fun x vs H Q => I_rJoin K x vs H Q
theorem mt_join : MtR X "str.join" (rJoin X.K) := by
  intro pins s σ H x xs v us Q I rx rv h
  obtain ⟨z, p, ys, rfl, rfl, hq, hz, q⟩ := h
  obtain ⟨t, rfl⟩ := rx
  obtain ⟨u, rfl, ru⟩ := vals1 rv
  cases ru
  obtain ⟨its, r', pl, _⟩ := I.list hq
  exact join_list pl.isList (strsAre_of r') hz fun t' k => ⟨.str (Txt.join z ys), H, I.tok _, ⟨t', rfl⟩, q⟩
inductive I_rBits  (x : V) (vs : List V) (H : Hp) (Q : VK) : Prop
  | mk (i : _) (q1 : x = .int i) (q2 : vs = []) (q3 : Q (.int (Builtin.Int.intBits i)) H)
def TyQ (K : PySem.W.Frag) (H : Hp) (x : V) (t : Value) : Prop := TyOf K H x t ∨ ∃ a xs, x = .ref a ∧ SqT K H a xs ∧ t = .type "tuple"
inductive I_rIsi (K : PySem.W.Frag) (xs : List V) (H : Hp) (Q : VK) : Prop
  | mk (x : _) (c : _) (t : _) (b : _) (q1 : xs = [x, c]) (q2 : TyQ K H x t) (q3 : ((∃ n, c = .ty n ∧ PySem.W.kitOne K t (.type n) = some b) ∨ ∃ (a : Addr) (ns : List String), c = .ref a ∧ H a = some (.tup (ns.map V.ty)) ∧ PySem.W.kitAny K t (ns.map Value.type) = some b)) (q4 : Q (.bl b) H)
def rIsi (K : PySem.W.Frag) : List V → Hp → VK → Prop := fun xs H Q => I_rIsi K xs H Q
theorem types_of {ns : List String} : ∀ {us : List Value}, Vals (ns.map V.ty) us → us = ns.map Value.type := by
  induction ns with
  | nil => intro us r; cases r; rfl
  | cons n r ih =>
    intro us q
    cases q with
    | cons h t =>
      cases h
      rw [ih t]
      rfl
theorem isinst_tup {pins : List (Addr × Obj)} {σ : St} {H : Hp} {s : Shared} {A : Around} {E : Value → Shared → Prop} {Q : Value → Shared → Prop} {x : V} {u t : Value} {tp : Addr} {ns : List String} {b : Bool} (I : Inv X pins σ H s) (rx : RelV x u) (ty : TyOf X.K H x t)
    (htp : H tp = some (.tup (ns.map V.ty))) (e : PySem.W.kitAny X.K t (ns.map Value.type) = some b) (h : ∀ tk, Q (.bool b) { s with toks := tk }) :
    wpAny (model X.prog X.w) A (call (.builtin "isinstance") [u, .ref tp]) Q E s := by
  obtain ⟨_, its, rv, ⟨cls, dd, data, sl⟩, ho, hcl, n, hd⟩ := (show ObjOk X.prog X.w H s.heap tp (.tup (ns.map V.ty)) from I.hok tp _ htp)
  simp only at hcl hd
  subst hcl hd
  have ei := types_of rv
  subst ei
  cases ty with
  | non => cases (show u = Value.none from rx); exact PySem.W.kia_tup PySem.W.kitx_none I.kIn True.intro ho e (fun z => nomatch z) h
  | bl y => cases (show u = Value.bool y from rx); exact PySem.W.kia_tup PySem.W.kitx_bool I.kIn True.intro ho e (fun z => nomatch z) h
  | int i => obtain ⟨t, q⟩ := (show ∃ t, u = Value.int i t from rx); cases q; exact PySem.W.kia_tup PySem.W.kitx_int I.kIn True.intro ho e (fun z => nomatch z) h
  | str y => obtain ⟨t, q⟩ := (show ∃ t, u = Value.str y t from rx); cases q; exact PySem.W.kia_tup PySem.W.kitx_str I.kIn True.intro ho e (fun z => nomatch z) h
  | flt y => obtain ⟨t, q⟩ := (show ∃ t, u = Value.float y t from rx); cases q; exact PySem.W.kia_tup PySem.W.kitx_float I.kIn True.intro ho e (fun z => nomatch z) h
  | @lst a xs ea =>
    cases (show u = Value.ref a from rx)
    obtain ⟨_, _, n, _, h1⟩ := (show ObjOk X.prog X.w H s.heap a (.lst xs) from I.hok a _ ea)
    exact PySem.W.kia_tup PySem.W.kitx_list I.kIn ⟨_, h1, rfl⟩ ho e (fun z => nomatch z) h
  | @frz a ob xs ea =>
    cases (show u = Value.ref a from rx)
    obtain ⟨_, _, _, n, _, h1⟩ := (show ObjOk X.prog X.w H s.heap a (.frz ob (.lst xs)) from I.hok a _ ea)
    exact PySem.W.kia_tup PySem.W.kitx_list I.kIn ⟨_, h1, rfl⟩ ho e (fun z => nomatch z) h
  | @tup a xs ea =>
    cases (show u = Value.ref a from rx)
    obtain ⟨_, _, _, p⟩ := (show ObjOk X.prog X.w H s.heap a (.tup xs) from I.hok a _ ea)
    obtain ⟨o, h1, h2, _⟩ := p
    exact PySem.W.kia_tup PySem.W.kitx_tuple I.kIn ⟨o, h1, h2⟩ ho e (fun z => nomatch z) h
  | @dK a kvs ea =>
    cases (show u = Value.ref a from rx)
    obtain ⟨_, _, vs, _, p⟩ := (show ObjOk X.prog X.w H s.heap a (.dK kvs) from I.hok a _ ea)
    obtain ⟨o, es, ep, h1, h2, _⟩ := p
    exact PySem.W.kia_tup PySem.W.kitx_dict I.kIn ⟨o, h1, h2.1⟩ ho e (fun z => nomatch z) h
  | @dT a kvs ea =>
    cases (show u = Value.ref a from rx)
    obtain ⟨_, _, xs, _, o, es, ep, h1, h2, _⟩ := (show ObjOk X.prog X.w H s.heap a (.dT kvs) from I.hok a _ ea)
    exact PySem.W.kia_tup PySem.W.kitx_dict I.kIn ⟨o, h1, h2.1⟩ ho e (fun z => nomatch z) h
  | @ins a C dx fs ea cl ha hn htk hm =>
    cases (show u = Value.ref a from rx)
    obtain ⟨mA, O, _⟩ := ins_get I.hok ea
    obtain ⟨od, J, _⟩ := O.look
    exact PySem.W.kia_tup (PySem.W.kitx_own (cl.get _) cl.hd ha hn htk hm) I.kIn J ho e (fun z => nomatch z) h
theorem call_isi : CallR X (.builtin "isinstance") (rIsi X.K) := by
  intro pins s σ H xs us Q I r h
  obtain ⟨x, c, t, b, rfl, ty, hc, q⟩ := h
  obtain ⟨u, w', rfl, ru, rw'⟩ := vals2 r
  rcases hc with ⟨n, rfl, e⟩ | ⟨a, ns, rfl, ha, e⟩
  · cases (show w' = Value.type n from rw')
    rcases ty with ty | ⟨p, ys, rfl, hp, rfl⟩
    · exact isinst_ok I ru ty e fun tk => ⟨.bl b, H, I.tok _, rfl, q⟩
    · cases (show u = Value.ref p from ru)
      obtain ⟨its, r', ⟨o, h1, h2, _⟩, _⟩ := I.tuple hp
      exact PySem.W.kia_one PySem.W.kitx_tuple I.kIn ⟨o, h1, h2⟩ e (fun z => nomatch z) fun tk => ⟨.bl b, H, I.tok _, rfl, q⟩
  · cases (show w' = Value.ref a from rw')
    rcases ty with ty | ⟨p, ys, rfl, hp, rfl⟩
    · exact isinst_tup I ru ty ha e fun tk => ⟨.bl b, H, I.tok _, rfl, q⟩
    · cases (show u = Value.ref p from ru)
      obtain ⟨its, r', ⟨o, h1, h2, _⟩, _⟩ := I.tuple hp
      obtain ⟨_, its', rv, ⟨cls, dd, data, sl⟩, ho, hcl, n, hd⟩ := (show ObjOk X.prog X.w H s.heap a (.tup (ns.map V.ty)) from I.hok a _ ha)
      simp only at hcl hd
      subst hcl hd
      have ei := types_of rv
      subst ei
      exact PySem.W.kia_tup PySem.W.kitx_tuple I.kIn ⟨o, h1, h2⟩ ho e (fun z => nomatch z) fun tk => ⟨.bl b, H, I.tok _, rfl, q⟩
def eqVs (xs ys : List V) : Bool := xs.length == ys.length && (xs.zip ys).all fun p => eqV p.1 p.2
theorem range_zip (f : V → V → Bool) : ∀ (xs ys : List V), xs.length = ys.length → ((List.range xs.length).all fun j => match xs[j]?, ys[j]? with | some x, some y => f x y | _, _ => true) = (xs.zip ys).all fun p => f p.1 p.2
  | [], [], _ => rfl
  | x :: xs, y :: ys, h => by
    have ih := range_zip f xs ys (by simpa using h)
    rw [List.length_cons, List.range_succ_eq_map, List.all_cons, List.zip_cons_cons, List.all_cons, ← ih, List.all_map]
    rfl
  | [], _ :: _, h => by simp at h
  | _ :: _, [], h => by simp at h
inductive I_rEqL (K : PySem.W.Frag) (neg : Bool) (x : V) (y : V) (H : Hp) (Q : VK) : Prop
  | mk (a : _) (b : _) (xs : _) (ys : _) (q1 : x = .ref a) (q2 : y = .ref b) (q3 : SqL K H a xs) (q4 : SqL K H b ys) (q5 : (ys = [] ∨ (xs.all flatV = true ∧ ys.all flatV = true))) (q6 : Q (.bl (if neg then !eqVs xs ys else eqVs xs ys)) H)
def rEqL (K : PySem.W.Frag) (neg : Bool) : R2 := fun x y H Q => I_rEqL K neg x y H Q
theorem flat_at {xs : List V} (h : xs.all flatV = true) {j : Nat} {x : V} (e : xs[j]? = some x) : flatV x = true := by
  rw [List.all_eq_true] at h
  exact h x (List.mem_of_getElem? e)
theorem eq_items {A : Around} {s : Shared} {xs ys : List V} {us ws : List Value} (r1 : Vals xs us) (r2 : Vals ys ws) (f1 : xs.all flatV = true) (f2 : ys.all flatV = true) :
    ∀ j (h1 : j < us.toArray.size) (h2 : j < ws.toArray.size), SeqAt.EqAt A s us.toArray[j] ws.toArray[j] (match xs[j]?, ys[j]? with | some x, some y => eqV x y | _, _ => true) := by
  intro j h1 h2
  have l1 := r1.length
  have l2 := r2.length
  simp only [List.size_toArray] at h1 h2
  have e1 : xs[j]? = some xs[j] := List.getElem?_eq_getElem (by omega)
  have e2 : ys[j]? = some ys[j] := List.getElem?_eq_getElem (by omega)
  obtain ⟨u, eu, ru⟩ := r1.get e1
  obtain ⟨w', ew, rw'⟩ := r2.get e2
  rw [e1, e2]
  have q1 : us.toArray[j] = u := by
    have := List.getElem?_eq_getElem (l := us) (i := j) h1
    rw [eu] at this
    simpa using (Option.some.inj this).symm
  have q2 : ws.toArray[j] = w' := by
    have := List.getElem?_eq_getElem (l := ws) (i := j) h2
    rw [ew] at this
    simpa using (Option.some.inj this).symm
  rw [q1, q2]
  exact eqAt_V ru rw' (flat_at f1 e1) (flat_at f2 e2)
theorem eqVs_len {xs ys : List V} (h : xs.length ≠ ys.length) : eqVs xs ys = false := by
  unfold eqVs
  rw [show (xs.length == ys.length) = false from beq_eq_false_iff_ne.mpr h]
  rfl
theorem eqVs_same {xs ys : List V} (h : xs.length = ys.length) : eqVs xs ys = (List.range xs.length).all fun j => match xs[j]?, ys[j]? with | some x, some y => eqV x y | _, _ => true := by
  rw [range_zip eqV xs ys h]
  unfold eqVs
  rw [h, beq_self_eq_true, Bool.true_and]
theorem op_eqL (hu : X.A.units < cLine) : OpR X (compareOp .Eq) (rEqL X.K false) := by
  intro pins s σ H x y v u Q I rx ry h
  obtain ⟨a, b, xs, ys, rfl, rfl, ha, hb, hf, q⟩ := h
  cases rx
  cases ry
  obtain ⟨us, r1, p1, z1⟩ := I.list ha
  obtain ⟨ws, r2, p2, z2⟩ := I.list hb
  have l1 := r1.length
  have l2 := r2.length
  have q : Q (.bl (eqVs xs ys)) H := q
  by_cases hl : xs.length = ys.length
  · have hf' : xs.all flatV = true ∧ ys.all flatV = true := by
      rcases hf with hf | hf
      · subst hf
        have : xs = [] := List.length_eq_zero_iff.mp hl
        subst this
        exact ⟨rfl, rfl⟩
      · exact hf
    refine SeqAt.eq_listAt p1.isList p2.isList (by simp; omega) hu (eq_items r1 r2 hf'.1 hf'.2) ⟨.bl (eqVs xs ys), H, I, ?_, q⟩
    show Value.bool _ = Value.bool _
    rw [eqVs_same hl, List.size_toArray, l1]
  · rw [eqVs_len hl] at q
    exact SeqAt.eq_list_lengthsAt p1.isList p2.isList (by simp; omega) hu ⟨.bl false, H, I, rfl, q⟩
theorem op_neL (hu : X.A.units < cLine) : OpR X (compareOp .NotEq) (rEqL X.K true) := by
  intro pins s σ H x y v u Q I rx ry h
  obtain ⟨a, b, xs, ys, rfl, rfl, ha, hb, hf, q⟩ := h
  cases rx
  cases ry
  obtain ⟨us, r1, p1, z1⟩ := I.list ha
  obtain ⟨ws, r2, p2, z2⟩ := I.list hb
  have l1 := r1.length
  have l2 := r2.length
  have q : Q (.bl (!eqVs xs ys)) H := q
  by_cases hl : xs.length = ys.length
  · have hf' : xs.all flatV = true ∧ ys.all flatV = true := by
      rcases hf with hf | hf
      · subst hf
        have : xs = [] := List.length_eq_zero_iff.mp hl
        subst this
        exact ⟨rfl, rfl⟩
      · exact hf
    refine SeqAt.RcNeAt.lists p1.isList p2.isList (by simp; omega) hu (eq_items r1 r2 hf'.1 hf'.2) X.prog X.w X.xe _ ⟨.bl (!eqVs xs ys), H, I, ?_, q⟩
    show Value.bool _ = Value.bool _
    rw [eqVs_same hl, List.size_toArray, l1]
  · rw [eqVs_len hl] at q
    exact SeqAt.RcNeAt.lists_lengths p1.isList p2.isList (by simp; omega) hu X.prog X.w X.xe _ ⟨.bl true, H, I, rfl, q⟩
inductive I_rEqT (K : PySem.W.Frag) (x : V) (y : V) (H : Hp) (Q : VK) : Prop
  | mk (a : _) (b : _) (xs : _) (ys : _) (q1 : x = .ref a) (q2 : y = .ref b) (q3 : SqT K H a xs) (q4 : SqT K H b ys) (q5 : xs.length = ys.length) (q6 : xs.all flatV = true) (q7 : ys.all flatV = true) (q8 : Q (.bl (eqVs xs ys)) H)
end
section
variable {X : Cx} {pos : Pos}
theorem pg_tupK (K : PySem.W.Frag) (hK : X.K = K) {es : List Expr} {k : Nat} {t : TGs} {n : Nat} (hc : X.calm = true) (h : PGs X es t)
    (hn : (assignEach es X.env).length = n := by rfl) (hst : (assignEach es X.env).findIdx? (·.1) = none := by rfl) : PG X (.Tuple es k pos) (gTup K n t) := by
  subst hK
  exact pg_tup hc h hn hst
end
inductive I_tMid (t : TS) (D : Ends) (σ : St) (H : Hp) : Prop
  | mk (C : St → Hp → Prop) (q1 : t (D.to C) σ H) (q2 : ∀ σ' H', C σ' H' → D.nx σ' H')
def tMid (t : TS) : TS := fun D σ H => I_tMid t D σ H
theorem ps_mid {X : Cx} {st : Stmt} {t : TS} (h : PS X st t) : PS X st (tMid t) := by
  intro pins s σ H D I hq
  obtain ⟨C, hq, hc⟩ := hq
  refine thn (h pins s σ H _ I hq) fun f s' q => ?_
  cases f with
  | next => obtain ⟨σ', H', J, q⟩ := q; exact ⟨σ', H', J, hc σ' H' q⟩
  | brk => exact q
  | cont => exact q
  | ret u => exact q
theorem for_str {x : Str} {g : TG} {tb : TS} {D : Ends} {σ : St} {H : Hp} (Pv : Nat → St → Hp → Prop) (h0 : Pv 0 σ H)
    (hs : ∀ i c σ H, x.cps[i]? = some c → Pv i σ H → g (.str ⟨#[c]⟩) σ H fun σ2 H2 => tb (D.loop (Pv (i + 1))) σ2 H2) (hd : ∀ σ H, Pv x.cps.size σ H → D.nx σ H) :
    ForP (Its x) g tb D σ H := by
  refine ⟨fun i m σ H => m = x.cps.size - i ∧ i ≤ x.cps.size ∧ Pv i σ H, ⟨x.cps.size, by simp, Nat.zero_le _, h0⟩, ?_⟩
  rintro i m σ H ⟨rfl, hi, p⟩
  by_cases hlt : i < x.cps.size
  · refine .inr ⟨hlt, Pv (i + 1), fun σ' H' p' => ⟨x.cps.size - (i + 1), by omega, rfl, hlt, p'⟩, fun v H' y => ?_⟩
    obtain ⟨e, c, hc, ev⟩ := y
    subst e ev
    exact hs i c σ _ hc p
  · have e : i = x.cps.size := by omega
    subst e
    exact .inl ⟨rfl, hd σ H p⟩
theorem comp_list {K : PySem.W.Frag} {a : Addr} {xs : List V} {g : TG} {tt : TT} {te : TE} {σ0 : St} {H : Hp} {Fin : List V → Hp → Prop} (Pv : Nat → List V → St → Hp → Prop) (h0 : Pv 0 [] σ0 H) (hz : xs.length ≤ sizeLine)
    (hl : ∀ i acc σ H, i ≤ xs.length → Pv i acc σ H → SqL K H a xs ∧ acc.length ≤ i)
    (hs : ∀ i x acc σ H, xs[i]? = some x → Pv i acc σ H → g x σ H fun σ2 H2 => tt σ2 H2 fun b H3 => if b = true then te σ2 H3 fun y H4 => Pv (i + 1) (acc ++ [y]) σ2 H4 else Pv (i + 1) acc σ2 H3)
    (hd : ∀ acc σ H, Pv xs.length acc σ H → Fin acc H) : tTurns (Itl K a) g tt te σ0 H Fin := by
  refine ⟨fun i m acc σ H => m = xs.length - i ∧ i ≤ xs.length ∧ Pv i acc σ H, ⟨xs.length, by simp, Nat.zero_le _, h0⟩, ?_⟩
  rintro i m acc σ H ⟨rfl, hi, p⟩
  obtain ⟨q, hal⟩ := hl i acc σ H hi p
  by_cases hlt : i < xs.length
  · refine .inr ⟨⟨xs, xs[i], q, by simp [hlt]⟩, by omega, Pv (i + 1), fun acc' σ' H' p' => ⟨xs.length - (i + 1), by omega, rfl, hlt, p'⟩, fun x H' y => ?_⟩
    obtain ⟨e, y⟩ := y
    subst e
    exact hs i x acc σ _ (y xs q) p
  · have e : i = xs.length := by omega
    subst e
    exact .inl ⟨⟨xs, q, Nat.le_refl _⟩, by omega, hd acc σ H p⟩
theorem yes_eq (A B : St → Hp → Prop) : (fun σ2 H2 => tYes σ2 H2 fun b H3 => if b = true then A σ2 H3 else B σ2 H3) = A := funext fun σ2 => funext fun H2 => show (if true = true then A σ2 H2 else B σ2 H2) = A σ2 H2 from if_pos rfl
theorem comp_list1 {K : PySem.W.Frag} {a : Addr} {xs : List V} {g : TG} {te : TE} {σ0 : St} {H : Hp} {Fin : List V → Hp → Prop} (Pv : Nat → List V → St → Hp → Prop) (h0 : Pv 0 [] σ0 H) (hz : xs.length ≤ sizeLine)
    (hl : ∀ i acc σ H, i ≤ xs.length → Pv i acc σ H → SqL K H a xs ∧ acc.length ≤ i)
    (hs : ∀ i x acc σ H, xs[i]? = some x → Pv i acc σ H → g x σ H fun σ2 H2 => te σ2 H2 fun y H4 => Pv (i + 1) (acc ++ [y]) σ2 H4)
    (hd : ∀ acc σ H, Pv xs.length acc σ H → Fin acc H) : tTurns (Itl K a) g tYes te σ0 H Fin :=
  comp_list Pv h0 hz hl (fun i x acc σ H hx p => by rw [yes_eq]; exact hs i x acc σ H hx p) hd
end L2
set_option linter.all false
namespace Mth
section
variable {α : Type}
structure Mdl (α : Type) where
  lrn : Bool
  shares : List (α × Int)
  fin : Int
def sumS (ps : List (α × Int)) : Int := (ps.map (·.2)).sum
def total (M : Mdl α) : Int := sumS M.shares + M.fin
abbrev Span := Int × Int × Int
def narrow (a p : Span) : Span := (a.1 * p.2.2 + a.2.1 * p.1, a.2.1 * p.2.1, a.2.2 * p.2.2)
def endPlace (M : Mdl α) : Span := (total M - M.fin, M.fin, total M)
def grow (n o : Int) : Int := if n + 1 ≤ o then n + 1 else n
structure Good (M : Mdl α) : Prop where
  ne : M.shares ≠ []
  nd : (M.shares.map (·.1)).Nodup
  pos : ∀ p ∈ M.shares, 1 ≤ p.2
  le : ∀ p ∈ M.shares, p.2 ≤ total M - p.2
  fin : 1 ≤ M.fin
def cut (ps : List (α × Int)) (T : Int) : List (α × Int) := ps.map fun p => (p.1, min p.2 (T - p.2))
end
section
variable {α : Type} [DecidableEq α]
def placeIn : List (α × Int) → α → Int → Option (Int × Int)
  | [], _, _ => none
  | p :: r, s, f => if p.1 = s then some (f, p.2) else placeIn r s (f + p.2)
def place (M : Mdl α) (s : α) : Span := match placeIn M.shares s 0 with
  | some q => (q.1, q.2, total M)
  | none => (0, 0, 0)
def stepS (ps : List (α × Int)) (s : α) (T : Int) : List (α × Int) := ps.map fun p => (p.1, if p.1 = s then grow p.2 (T - p.2) else p.2)
def behind (M : Mdl α) (s : α) : Mdl α := if M.lrn then { M with shares := stepS M.shares s (total M) } else M
def walk : Mdl α → Span → List α → Span × Mdl α
  | M, a, [] => (a, M)
  | M, a, s :: r => walk (behind M s) (narrow a (place M s)) r
structure Fits (p : Span) (T : Int) : Prop where
  a0 : 0 ≤ p.1
  n1 : 1 ≤ p.2.1
  le : p.1 + p.2.1 ≤ T
  tot : p.2.2 = T
structure Span.Ok (a : Span) : Prop where
  l0 : 0 ≤ a.1
  w1 : 1 ≤ a.2.1
  le : a.1 + a.2.1 ≤ a.2.2
def rowsIn : List (α × Int) → Int → List (α × Int × Int)
  | [], _ => []
  | p :: r, f => (p.1, f, p.2) :: rowsIn r (f + p.2)
def rowsOf (dot : α) (M : Mdl α) : List (α × Int × Int) := rowsIn M.shares 0 ++ [(dot, sumS M.shares, M.fin)]
end
end Mth
set_option Elab.async false
set_option linter.all false
set_option maxRecDepth 100000
namespace My
open PySem L2 Mth
abbrev Md := Mdl Str
def kindS (b : Bool) : Str := if b then "learnt" else "known"
inductive PairAt (H : Hp) (v : V) (p : Str × Int) : Prop
  | mk (a : _) (q1 : v = .ref a) (q2 : H a = some (.tup [.str p.1, .int p.2]))
inductive PairsAt (H : Hp) (l : Addr) (ps : List (Str × Int)) : Prop
  | mk (vs : _) (q1 : H l = some (.lst vs)) (q2 : Paired (PairAt H) vs ps)
inductive RawAt (H : Hp) (v : V) (k : Str) (ps : List (Str × Int)) (f : Int) : Prop
  | mk (a : Addr) (l : Addr) (q1 : v = .ref a) (q2 : H a = some (.tup [.str k, .ref l, .int f])) (q3 : PairsAt H l ps)
abbrev ModelAt (H : Hp) (v : V) (M : Md) : Prop := RawAt H v (kindS M.lrn) M.shares M.fin
def spanV (a : Span) : List V := [.int a.1, .int a.2.1, .int a.2.2]
inductive SpanAt (K : PySem.W.Frag) (H : Hp) (v : V) (a : Span) : Prop
  | mk (p : _) (q1 : v = .ref p) (q2 : SqT K H p (spanV a))
theorem same_upd {H : Hp} {p : Addr} {o : HO} (h : H p = none) : Same H (upd H p o) := fun b u e => by rw [upd_ne (ne_of_none e h)]; exact e
theorem Paired.imp2 {α β : Type} {F G : α → β → Prop} : ∀ {l₁ : List α} {l₂ : List β}, Paired F l₁ l₂ → (∀ a b, F a b → G a b) → Paired G l₁ l₂
  | _, _, .nil, _ => .nil
  | _, _, .cons r t, f => .cons (f _ _ r) (Paired.imp2 t f)
theorem PairAt.same {H H' : Hp} {v : V} {p : Str × Int} (e : Same H H') (h : PairAt H v p) : PairAt H' v p := let ⟨a, q, r⟩ := h; ⟨a, q, e _ _ r⟩
theorem PairsAt.same {H H' : Hp} {l : Addr} {ps : List (Str × Int)} (e : Same H H') (h : PairsAt H l ps) : PairsAt H' l ps := let ⟨vs, q, r⟩ := h; ⟨vs, e _ _ q, Paired.imp2 r fun _ _ => PairAt.same e⟩
theorem ModelAt.same {H H' : Hp} {v : V} {M : Md} (e : Same H H') (h : ModelAt H v M) : ModelAt H' v M := let ⟨a, l, q, r, s⟩ := h; ⟨a, l, q, e _ _ r, s.same e⟩
theorem ifT {b : Bool} {A B : Prop} (hb : b = true) (h : A) : if b = true then A else B := by rw [if_pos hb]; exact h
theorem ifF {b : Bool} {A B : Prop} (hb : b = false) (h : B) : if b = true then A else B := by rw [if_neg (by rw [hb]; decide)]; exact h
theorem if2 {b : Bool} {A B : Prop} (h1 : b = true → A) (h2 : b = false → B) : if b = true then A else B := by
  cases b
  · exact ifF rfl (h2 rfl)
  · exact ifT rfl (h1 rfl)
structure Cal (P : Program) (w : World) (K : PySem.W.Frag) (mgm : Str → Option Value) (base : Heap) (k : Nat) (x : Str) (f : Addr) (fd : FuncData) (ps : List Str) (sp : Sp) : Prop where
  ok : FnOk P w K mgm base CX0 k f fd ps sp
  mg : mgm x = some (.ref f)
  kp : PySem.W.keepIn K (.ref f) = true
  b : Binds K fd ps []
structure TxtG (K : PySem.W.Frag) (mg : Str → Option Value) (aS aK : Addr) : Prop where
  g_START : mg "START" = some (.ref aS)
  g_KINDS : mg "KINDS" = some (.ref aK)
  sS : ∀ H, SqT K H aS [.int 0, .int 1, .int 1]
  sK : ∀ H, SqT K H aK [.str "known", .str "learnt"]
structure Txt (K : PySem.W.Frag) (mg : Str → Option Value) (aS aK : Addr) : Prop where
  len : mg "len" = none
  sum : mg "sum" = none
  min : mg "min" = none
  isinstance : mg "isinstance" = none
  range : mg "range" = none
  int_ : mg "int" = none
  list_ : mg "list" = none
  tuple_ : mg "tuple" = none
  str_ : mg "str" = none
  bool_ : mg "bool" = none
  reversed_ : mg "reversed" = none
  sorted_ : mg "sorted" = none
def sg (c : Nat) : Str := ⟨#[c]⟩
def IsSg (x : Str) : Prop := ∃ c, x = sg c ∧ 97 ≤ c ∧ c ≤ 122
def Keyed (M : Md) : Prop := ∀ p ∈ M.shares, IsSg p.1
inductive I_spSign  (vs : List V) (H : Hp) (Q : VK) (E : XK) : Prop
  | mk (x : _) (q1 : vs = [.str x]) (q2 : IsSg x) (q3 : Q (.bl true) H)
inductive I_spTotal  (vs : List V) (H : Hp) (Q : VK) (E : XK) : Prop
  | mk (v : _) (M : _) (q1 : vs = [v]) (q2 : ModelAt H v M) (q3 : M.shares.length ≤ 1000) (q4 : ∀ H', Same H H' → Q (.int (total M)) H')
inductive I_spSigns  (vs : List V) (H : Hp) (Q : VK) (E : XK) : Prop
  | mk (l : _) (ps : _) (q1 : vs = [.ref l]) (q2 : PairsAt H l ps) (q3 : ps.length ≤ 1000) (q4 : (∀ p ∈ ps, IsSg p.1)) (q5 : (ps.map (·.1)).Nodup) (q6 : ∀ H', Same H H' → Q .non H')
inductive I_spShares  (vs : List V) (H : Hp) (Q : VK) (E : XK) : Prop
  | mk (v : _) (M : _) (q1 : vs = [v]) (q2 : ModelAt H v M) (q3 : M.shares.length ≤ 1000) (q4 : Good M) (q5 : ∀ H', Same H H' → Q .non H')
inductive I_spCheck  (vs : List V) (H : Hp) (Q : VK) (E : XK) : Prop
  | mk (v : _) (M : _) (q1 : vs = [v]) (q2 : ModelAt H v M) (q3 : M.shares.length ≤ 1000) (q4 : Good M) (q5 : Keyed M) (q6 : ∀ H', Same H H' → Q .non H')
inductive I_spPlace (K : PySem.W.Frag) (vs : List V) (H : Hp) (Q : VK) (E : XK) : Prop
  | mk (v : _) (M : _) (s : _) (q1 : vs = [v, .str s]) (q2 : ModelAt H v M) (q3 : M.shares.length ≤ 1000) (q4 : s ∈ M.shares.map (·.1)) (q5 : ∀ u H', Same H H' → SpanAt K H' u (place M s) → Q u H')
inductive I_spEnd (K : PySem.W.Frag) (vs : List V) (H : Hp) (Q : VK) (E : XK) : Prop
  | mk (v : _) (M : _) (q1 : vs = [v]) (q2 : ModelAt H v M) (q3 : M.shares.length ≤ 1000) (q4 : ∀ u H', Same H H' → SpanAt K H' u (endPlace M) → Q u H')
inductive I_spGrown  (vs : List V) (H : Hp) (Q : VK) (E : XK) : Prop
  | mk (n : _) (o : _) (q1 : vs = [.int n, .int o]) (q2 : Q (.int (grow n o)) H)
inductive I_spBehind  (vs : List V) (H : Hp) (Q : VK) (E : XK) : Prop
  | mk (v : _) (M : _) (s : _) (q1 : vs = [v, .str s]) (q2 : ModelAt H v M) (q3 : M.shares.length ≤ 1000) (q4 : ∀ u H', Same H H' → ModelAt H' u (behind M s) → Q u H')
def Fit (n : Int) : Prop := Builtin.Int.intBits n ≤ 1000000
def FitS (a : Span) : Prop := Fit a.1 ∧ Fit a.2.1 ∧ Fit a.2.2
inductive I_spNarrow (K : PySem.W.Frag) (vs : List V) (H : Hp) (Q : VK) (E : XK) : Prop
  | mk (u : _) (v : _) (a : _) (p : _) (q1 : vs = [u, v]) (q2 : SpanAt K H u a) (q3 : SpanAt K H v p) (q4 : FitS a) (q5 : FitS p) (q6 : ∀ z H', Same H H' → SpanAt K H' z (narrow a p) → Q z H')
def sgs (x : Str) : List Str := x.cps.toList.map sg
structure Fine (M : Md) (x : Str) : Prop where
  good : Good M
  keyed : Keyed M
  few : M.shares.length ≤ 1000
  small : total M ≤ 2 ^ 79
  len : x.cps.size ≤ 1000
  inn : ∀ s ∈ sgs x, s ∈ M.shares.map (·.1)
inductive I_spWalked (K : PySem.W.Frag) (vs : List V) (H : Hp) (Q : VK) (E : XK) : Prop
  | mk (v : _) (M : _) (x : _) (q1 : vs = [v, .str x]) (q2 : ModelAt H v M) (q3 : Fine M x) (q4 : ∀ t u n H', Same H H' → H' t = some (.tup [u, n]) → SpanAt K H' u (walk M (0, 1, 1) (sgs x)).1 → ModelAt H' n (walk M (0, 1, 1) (sgs x)).2 → Q (.ref t) H')
inductive I_spBegun (K : PySem.W.Frag) (vs : List V) (H : Hp) (Q : VK) (E : XK) : Prop
  | mk (v : _) (M : _) (x : _) (q1 : vs = [v, .str x]) (q2 : ModelAt H v M) (q3 : Fine M x) (q4 : ∀ u H', Same H H' → SpanAt K H' u (walk M (0, 1, 1) (sgs x)).1 → Q u H')
def ended (M : Md) (x : Str) : Span := narrow (walk M (0, 1, 1) (sgs x)).1 (endPlace (walk M (0, 1, 1) (sgs x)).2)
inductive I_spEnded (K : PySem.W.Frag) (vs : List V) (H : Hp) (Q : VK) (E : XK) : Prop
  | mk (v : _) (M : _) (x : _) (q1 : vs = [v, .str x]) (q2 : ModelAt H v M) (q3 : Fine M x) (q4 : ∀ u H', Same H H' → SpanAt K H' u (ended M x) → Q u H')
theorem sgs_length (x : Str) : (sgs x).length = x.cps.size := by simp [sgs]
theorem valV_no {κ : Type} [DecidableEq κ] {kvs : List (κ × V)} {k : κ} (h : k ∉ kvs.map (·.1)) : valV kvs k = none := by
  cases e : valV kvs k with
  | none => rfl
  | some v => exact absurd (valV_in e) h
theorem small_line {n : Nat} (h : n ≤ 1000000) : n ≤ sizeLine := by rw [PySem.sizeLine_eq]; omega
theorem sg_le {c : Nat} (h : 97 ≤ c) : (!decide ((sg c).cps.toList < (Str.ofString "a").cps.toList)) = true := by
  have e : ((sg c).cps.toList < (Str.ofString "a").cps.toList) = ([c] < [97]) := rfl
  rw [Bool.not_eq_true', decide_eq_false_iff_not]
  intro hl
  have hl : [c] < [97] := hl
  rw [List.cons_lt_cons_iff] at hl
  rcases hl with hl | ⟨_, hl⟩
  · omega
  · exact absurd hl (by simp)
theorem sg_ge {c : Nat} (h : c ≤ 122) : (!decide ((Str.ofString "z").cps.toList < (sg c).cps.toList)) = true := by
  rw [Bool.not_eq_true', decide_eq_false_iff_not]
  intro hl
  have hl : [122] < [c] := hl
  rw [List.cons_lt_cons_iff] at hl
  rcases hl with hl | ⟨_, hl⟩
  · omega
  · exact absurd hl (by simp)
end My
set_option Elab.async false
set_option linter.all false
set_option maxRecDepth 100000
namespace My
open PySem L2 Mth
section
variable {K : PySem.W.Frag}
theorem kit_int_int : PySem.W.kitOne K (.type "int") (.type "int") = some true := by kernel_rfl
theorem kit_int_bool : PySem.W.kitOne K (.type "int") (.type "bool") = some false := by kernel_rfl
theorem kit_int_str : PySem.W.kitOne K (.type "int") (.type "str") = some false := by kernel_rfl
theorem kit_str_str : PySem.W.kitOne K (.type "str") (.type "str") = some true := by kernel_rfl
theorem kit_list_list : PySem.W.kitOne K (.type "list") (.type "list") = some true := by kernel_rfl
theorem kit_list_tuple : PySem.W.kitOne K (.type "list") (.type "tuple") = some false := by kernel_rfl
theorem kit_tuple_tuple : PySem.W.kitOne K (.type "tuple") (.type "tuple") = some true := by kernel_rfl
theorem kit_tuple_list : PySem.W.kitOne K (.type "tuple") (.type "list") = some false := by kernel_rfl
theorem kit_str_list : PySem.W.kitOne K (.type "str") (.type "list") = some false := by kernel_rfl
theorem kit_str_tuple : PySem.W.kitOne K (.type "str") (.type "tuple") = some false := by kernel_rfl
theorem kit_int_list : PySem.W.kitOne K (.type "int") (.type "list") = some false := by kernel_rfl
theorem kit_int_tuple : PySem.W.kitOne K (.type "int") (.type "tuple") = some false := by kernel_rfl
theorem kit_none_list : PySem.W.kitOne K (.type "NoneType") (.type "list") = some false := by kernel_rfl
theorem kit_none_tuple : PySem.W.kitOne K (.type "NoneType") (.type "tuple") = some false := by kernel_rfl
theorem kit_none_str : PySem.W.kitOne K (.type "NoneType") (.type "str") = some false := by kernel_rfl
def lt2 : List Value := [Value.type "list", Value.type "tuple"]
theorem kitA_list : PySem.W.kitAny K (.type "list") lt2 = some true := by
  show (match PySem.W.kitOne K (.type "list") (.type "list") with | some true => some true | some false => (match PySem.W.kitOne K (.type "list") (.type "tuple") with | some true => some true | some false => some false | none => none) | none => none) = _
  rw [kit_list_list]
theorem kitA_tuple : PySem.W.kitAny K (.type "tuple") lt2 = some true := by
  show (match PySem.W.kitOne K (.type "tuple") (.type "list") with | some true => some true | some false => (match PySem.W.kitOne K (.type "tuple") (.type "tuple") with | some true => some true | some false => some false | none => none) | none => none) = _
  rw [kit_tuple_list, kit_tuple_tuple]
theorem kitA_str : PySem.W.kitAny K (.type "str") lt2 = some false := by
  show (match PySem.W.kitOne K (.type "str") (.type "list") with | some true => some true | some false => (match PySem.W.kitOne K (.type "str") (.type "tuple") with | some true => some true | some false => some false | none => none) | none => none) = _
  rw [kit_str_list, kit_str_tuple]
theorem kitA_int : PySem.W.kitAny K (.type "int") lt2 = some false := by
  show (match PySem.W.kitOne K (.type "int") (.type "list") with | some true => some true | some false => (match PySem.W.kitOne K (.type "int") (.type "tuple") with | some true => some true | some false => some false | none => none) | none => none) = _
  rw [kit_int_list, kit_int_tuple]
theorem kitA_none : PySem.W.kitAny K (.type "NoneType") lt2 = some false := by
  show (match PySem.W.kitOne K (.type "NoneType") (.type "list") with | some true => some true | some false => (match PySem.W.kitOne K (.type "NoneType") (.type "tuple") with | some true => some true | some false => some false | none => none) | none => none) = _
  rw [kit_none_list, kit_none_tuple]
end
inductive Alikes (H : Hp) : List V → List V → Nat → Prop
  | nil : Alikes H [] [] 0
  | int {vs us : List V} {n : Nat} (i : Int) : Alikes H vs us n → Alikes H (.int i :: vs) (.int i :: us) (n + 1)
  | str {vs us : List V} {n : Nat} (x : Str) : Alikes H vs us n → Alikes H (.str x :: vs) (.str x :: us) (n + 1)
  | non {vs us : List V} {n : Nat} : Alikes H vs us n → Alikes H (.non :: vs) (.non :: us) (n + 1)
  | lst {a b : Addr} {xs ys vs us : List V} {m n : Nat} : H a = some (.lst xs) → H b = some (.lst ys) → Alikes H xs ys m → Alikes H vs us n → Alikes H (.ref a :: vs) (.ref b :: us) (n + (m + 1))
  | tup {a b : Addr} {xs ys vs us : List V} {m n : Nat} : H a = some (.tup xs) → H b = some (.tup ys) → Alikes H xs ys m → Alikes H vs us n → Alikes H (.ref a :: vs) (.ref b :: us) (n + (m + 1))
theorem Alikes.length {H : Hp} {vs us : List V} {n : Nat} (h : Alikes H vs us n) : vs.length = us.length := by
  induction h with
  | nil => rfl
  | int i _ ih => simp [ih]
  | str x _ ih => simp [ih]
  | non _ ih => simp [ih]
  | lst h1 h2 _ _ i1 i2 => simp [i2]
  | tup h1 h2 _ _ i1 i2 => simp [i2]
theorem Alikes.le {H : Hp} {vs us : List V} {n : Nat} (h : Alikes H vs us n) : vs.length ≤ n := by
  induction h with
  | nil => exact Nat.le_refl _
  | int i _ ih => simp only [List.length_cons]; omega
  | str x _ ih => simp only [List.length_cons]; omega
  | non _ ih => simp only [List.length_cons]; omega
  | lst h1 h2 _ _ i1 i2 => simp only [List.length_cons]; omega
  | tup h1 h2 _ _ i1 i2 => simp only [List.length_cons]; omega
theorem Alikes.append {H : Hp} {vs us : List V} {n : Nat} (h : Alikes H vs us n) {vs' us' : List V} {m : Nat} (h' : Alikes H vs' us' m) : Alikes H (vs ++ vs') (us ++ us') (m + n) := by
  induction h with
  | nil => exact h'
  | int i _ ih => exact .int i ih
  | str x _ ih => exact .str x ih
  | non _ ih => exact .non ih
  | lst h1 h2 a1 _ i1 i2 => rw [← Nat.add_assoc]; exact .lst h1 h2 a1 i2
  | tup h1 h2 a1 _ i1 i2 => rw [← Nat.add_assoc]; exact .tup h1 h2 a1 i2
theorem Alikes.last {H : Hp} {vs us : List V} {n : Nat} (h : Alikes H vs us n) : vs = [] ∨ ∃ vs' us' x y n' m, vs = vs' ++ [x] ∧ us = us' ++ [y] ∧ Alikes H vs' us' n' ∧ Alikes H [x] [y] m ∧ n = n' + m := by
  have glue : ∀ {x y : V} {vs us : List V} {n m : Nat}, Alikes H [x] [y] m → (vs = [] ∨ ∃ vs' us' x y n' m, vs = vs' ++ [x] ∧ us = us' ++ [y] ∧ Alikes H vs' us' n' ∧ Alikes H [x] [y] m ∧ n = n' + m) → Alikes H vs us n →
      ∃ vs' us' z w n' m', x :: vs = vs' ++ [z] ∧ y :: us = us' ++ [w] ∧ Alikes H vs' us' n' ∧ Alikes H [z] [w] m' ∧ n + m = n' + m' := by
    intro x y vs us n m hx ih ha
    rcases ih with rfl | ⟨vs', us', z, w, n', m', rfl, rfl, h1, h2, rfl⟩
    · cases ha
      exact ⟨[], [], x, y, 0, m, rfl, rfl, .nil, hx, rfl⟩
    · exact ⟨x :: vs', y :: us', z, w, n' + m, m', rfl, rfl, by have := hx.append h1; exact this, h2, by omega⟩
  induction h with
  | nil => exact .inl rfl
  | int i ha ih => exact .inr (glue (.int i .nil) ih ha)
  | str x ha ih => exact .inr (glue (.str x .nil) ih ha)
  | non ha ih => exact .inr (glue (.non .nil) ih ha)
  | lst h1 h2 a1 ha i1 ih =>
    have := glue (m := 0 + (_ + 1)) (.lst h1 h2 a1 .nil) ih ha
    rw [Nat.zero_add] at this
    exact .inr this
  | tup h1 h2 a1 ha i1 ih =>
    have := glue (m := 0 + (_ + 1)) (.tup h1 h2 a1 .nil) ih ha
    rw [Nat.zero_add] at this
    exact .inr this
theorem alike_pairs {H : Hp} : ∀ {vs us : List V} {ps : List (Str × Int)}, Paired (PairAt H) vs ps → Paired (PairAt H) us ps → Alikes H vs us (3 * ps.length)
  | _, _, _, .nil, .nil => .nil
  | _, _, p :: ps, .cons ⟨a, e1, h1⟩ r, .cons ⟨b, e2, h2⟩ s => by
    subst e1 e2
    have h3 : Alikes H [.str p.1, .int p.2] [.str p.1, .int p.2] 2 := .str _ (.int _ .nil)
    have := Alikes.tup h1 h2 h3 (alike_pairs r s)
    rw [List.length_cons, Nat.mul_succ]
    exact this
theorem alike_models {H : Hp} {v u : V} {M : Md} (h : ModelAt H v M) (k : ModelAt H u M) (hz : M.shares.length ≤ 1000) : ∃ n, n ≤ 4000 ∧ Alikes H [v] [u] n := by
  obtain ⟨a, l, rfl, ha, vs, hl, hp⟩ := h
  obtain ⟨b, m, rfl, hb, us, hm, hq⟩ := k
  refine ⟨_, ?_, .tup ha hb (.str _ (.lst hl hm (alike_pairs hp hq) (.int _ .nil))) .nil⟩
  omega
inductive I_spInt  (vs : List V) (H : Hp) (Q : VK) (E : XK) : Prop
  | mk (i : _) (q1 : vs = [.int i]) (q2 : Q (.bl true) H)
inductive I_spAt (K : PySem.W.Frag) (vs : List V) (H : Hp) (Q : VK) (E : XK) : Prop
  | mk (l : Addr) (ns : List Int) (k : Int) (q1 : vs = [.ref l, .int k]) (q2 : SqL K H l (ns.map V.int)) (q3 : 0 ≤ k) (q4 : Q (.int (ns.getD k.toNat 0)) H)
def spAt (K : PySem.W.Frag) : Sp := fun vs H Q E => I_spAt K vs H Q E
def Cells (ns : List Int) : Prop := ∀ n ∈ ns, 0 ≤ n ∧ n < 1000003
inductive I_spMixed (K : PySem.W.Frag) (vs : List V) (H : Hp) (Q : VK) (E : XK) : Prop
  | mk (l : Addr) (ns : List Int) (q1 : vs = [.ref l]) (q2 : SqL K H l (ns.map V.int)) (q3 : ns.length ≤ 1000) (q4 : ∀ (p : Addr) (ms : List Int) (H' : Hp), Same H H' → H' p = some (.lst (ms.map V.int)) → ms.length = ns.length → Cells ms → Q (.ref p) H')
structure LawM (M : Md) : Prop where
  good : Good M
  keyed : Keyed M
  few : M.shares.length ≤ 25
  small : total M ≤ 2 ^ 70
  noc : ∀ p ∈ M.shares, p.1 ≠ sg 99
inductive I_spModelBy  (vs : List V) (H : Hp) (Q : VK) (E : XK) : Prop
  | mk (n : _) (q1 : vs = [.int n]) (q2 : 0 ≤ n) (q3 : n < 1000003) (q4 : ∀ v M H', Same H H' → ModelAt H' v M → LawM M → Q v H')
inductive I_spTextBy (K : PySem.W.Frag) (vs : List V) (H : Hp) (Q : VK) (E : XK) : Prop
  | mk (v : V) (M : Md) (l : Addr) (ns : List Int) (q1 : vs = [v, .ref l]) (q2 : ModelAt H v M) (q3 : LawM M) (q4 : SqL K H l (ns.map V.int)) (q5 : ns.length ≤ 1000) (q6 : ∀ x H', Same H H' → x.cps.size = ns.length → (∀ s ∈ sgs x, s ∈ M.shares.map (·.1)) → Q (.str x) H')
inductive I_spCopy  (vs : List V) (H : Hp) (Q : VK) (E : XK) : Prop
  | mk (v : _) (M : _) (q1 : vs = [v]) (q2 : ModelAt H v M) (q3 : M.shares.length ≤ 1000) (q4 : ∀ u H', Same H H' → ModelAt H' u M → Q u H')
inductive I_spIsSpan (K : PySem.W.Frag) (vs : List V) (H : Hp) (Q : VK) (E : XK) : Prop
  | mk (u : _) (v : _) (a : _) (q1 : vs = [u, v]) (q2 : SpanAt K H u a) (q3 : SpanAt K H v a) (q4 : Q (.bl true) H)
inductive I_spStays  (vs : List V) (H : Hp) (Q : VK) (E : XK) : Prop
  | mk (u : _) (v : _) (n : _) (q1 : vs = [u, v]) (q2 : Alikes H [u] [v] n) (q3 : n ≤ 100000) (q4 : ∀ H', Same H H' → Q (.bl true) H')
def spStays : Sp := fun vs H Q E => I_spStays  vs H Q E
inductive RowAt (H : Hp) (v : V) (r : Str × Int × Int) : Prop
  | mk (a : _) (q1 : v = .ref a) (q2 : H a = some (.tup [.str r.1, .int r.2.1, .int r.2.2]))
def dot : Str := Str.ofString "."
def after (M : Md) (l : List Str) : Md := (walk M (0, 1, 1) l).2
def rowsAll (M : Md) (l : List Str) : List (List (Str × Int × Int)) := (List.range l.length).map fun j => rowsOf dot (after M (l.take j))
structure FineL (M : Md) (x : Str) : Prop where
  m : LawM M
  len : x.cps.size ≤ 200
  inn : ∀ s ∈ sgs x, s ∈ M.shares.map (·.1)
inductive I_spRows  (vs : List V) (H : Hp) (Q : VK) (E : XK) : Prop
  | mk (v : _) (M : _) (x : _) (q1 : vs = [v, .str x]) (q2 : ModelAt H v M) (q3 : FineL M x) (q4 : ∀ p rs H', Same H H' → H' p = some (.lst rs) → Paired (RowAt H') rs (rowsAll M (sgs x ++ [dot])).flatten → Q (.ref p) H')
def rangeOf (M : Md) (x : Str) (b : Bool) : Span := if b then ended M x else (walk M (0, 1, 1) (sgs x)).1
inductive I_spRange (K : PySem.W.Frag) (vs : List V) (H : Hp) (Q : VK) (E : XK) : Prop
  | mk (v : _) (M : _) (x : _) (b : _) (q1 : vs = [v, .str x, .bl b]) (q2 : ModelAt H v M) (q3 : FineL M x) (q4 : ∀ u H', Same H H' → SpanAt K H' u (rangeOf M x b) → Q u H')
inductive I_spLaw (K : PySem.W.Frag) (vs : List V) (H : Hp) (Q : VK) (E : XK) : Prop
  | mk (a : Addr) (ns : List Int) (q1 : vs = [.ref a]) (q2 : SqL K H a (ns.map V.int)) (q3 : ns.length ≤ 63) (q4 : ∀ H', Q (.bl true) H')
def spLaw (K : PySem.W.Frag) : Sp := fun vs H Q E => I_spLaw K vs H Q E
def letters : Str := Str.ofString "abdefghijklmnopqrstuvwxyz"
def code (j : Nat) : Nat := letters.cps.toList.getD j 0
theorem sg_inj {a b : Nat} (h : sg a = sg b) : a = b := by
  injection h with h
  injection h with h
  injection h
def lidx (n : Int) (k : Nat) : Nat := ((7 * (k : Int) + n / 97) % 25).toNat
def lsign (n : Int) (k : Nat) : Str := sg (code (lidx n k))
def lsigns (n : Int) (m : Nat) : List Str := (List.range m).map (lsign n)
theorem sgs_app (x y : Str) : sgs (x ++ y) = sgs x ++ sgs y := by
  have e : (x ++ y).cps = x.cps ++ y.cps := rfl
  unfold sgs
  rw [e, Array.toList_append, List.map_append]
end My
namespace My
open PySem L2 Mth
theorem cutV_map (ns : List Int) (lo hi : Option Int) : ∃ ms : List Int, cutV (ns.map V.int) lo hi = ms.map V.int ∧ ms.length ≤ ns.length ∧ ∀ n ∈ ms, n ∈ ns := by
  refine ⟨(ns.drop (HT.sIx (ns.map V.int).length 0 lo)).take (HT.sIx (ns.map V.int).length (ns.map V.int).length hi - HT.sIx (ns.map V.int).length 0 lo), ?_, ?_, ?_⟩
  · unfold cutV
    rw [← List.map_drop, ← List.map_take]
  · rw [List.length_take, List.length_drop]
    omega
  · intro n hn
    exact List.mem_of_mem_drop (List.mem_of_mem_take hn)
structure Shr (n : Int) (m : Nat) (sl : Addr) (H H' : Hp) (l : Addr) (ps : List (Str × Int)) (f : Int) : Prop where
  same : Same H H'
  at_ : PairsAt H' l ps
  keys : ps.map (·.1) = lsigns n m
  pos : ∀ p ∈ ps, 1 ≤ p.2 ∧ p.2 ≤ 10 ^ 19
  f1 : 1 ≤ f
  f2 : f ≤ 10 ^ 19 + 1
  sgn : H' sl = some (.lst ((lsigns n m).map V.str))
  ll : H l = none
  ne : sl ≠ l
end My
set_option Elab.async false
set_option linter.all false
set_option maxRecDepth 100000
namespace L2
open PySem PySem.Spec PyProof.Rows
def ItrS (lo st : Int) (n : Nat) : It := ⟨fun i _ => i < n, fun i H x H' => H' = H ∧ x = .int (lo + i * st), fun i _ => n ≤ i⟩
section
variable {X : Cx} {tg : Expr}
inductive I_iRng3 (vs : List V) (H1 : Hp) (R : It → Hp → Prop) : Prop
  | mk (i j c : Int) (n : Nat) (q1 : vs = [.int i, .int j, .int c]) (q2 : (c ≠ 0 ∧ c.natAbs < 1073741824)) (q3 : Builtin.Range.small i j c = true) (q4 : Builtin.Range.rangeSize i j c = (n : Int)) (q5 : R (ItrS i c n) H1)
end
end L2
set_option Elab.async false
set_option linter.all false
set_option maxRecDepth 100000
namespace L2
open PySem PySem.Spec PyProof.Rows
section
variable {X : Cx}
inductive I_rSlS  (x : V) (lo : Option Int) (hi : Option Int) (H : Hp) (Q : VK) : Prop
  | mk (z : _) (q1 : x = .str z) (q2 : z.length ≤ sizeLine) (q3 : Q (.str (Txt.slice z lo hi)) H)
def rSlS : V → Option Int → Option Int → Hp → VK → Prop := fun x lo hi H Q => I_rSlS  x lo hi H Q
theorem sl_str : SlR X rSlS := by
  intro pins s σ H x v vl vu lo hi sl Q I rx hs pl pu h
  obtain ⟨z, rfl, hz, q⟩ := h
  obtain ⟨t, rfl⟩ := rx
  refine ⟨"str", _, PySem.F.slot_str_getitem.lookup, typeIs_str _ _ _, ?_⟩
  cases pl with
  | none =>
    cases pu with
    | none => exact wpAny_getItem_str_slice (l := none) (u := none) (st := none) hs rfl (post_val_or_str ⟨Nat.le_trans (Txt.slice_le z none none) hz, fun t' k => ⟨.str _, H, I.tok _, ⟨t', rfl⟩, q⟩⟩)
    | int j uj => exact wpAny_getItem_str_slice (l := none) (u := some (j, uj)) (st := none) hs rfl (post_val_or_str ⟨Nat.le_trans (Txt.slice_le z none (some j)) hz, fun t' k => ⟨.str _, H, I.tok _, ⟨t', rfl⟩, q⟩⟩)
  | int i ui =>
    cases pu with
    | none => exact wpAny_getItem_str_slice (l := some (i, ui)) (u := none) (st := none) hs rfl (post_val_or_str ⟨Nat.le_trans (Txt.slice_le z (some i) none) hz, fun t' k => ⟨.str _, H, I.tok _, ⟨t', rfl⟩, q⟩⟩)
    | int j uj => exact wpAny_getItem_str_slice (l := some (i, ui)) (u := some (j, uj)) (st := none) hs rfl (post_val_or_str ⟨Nat.le_trans (Txt.slice_le z (some i) (some j)) hz, fun t' k => ⟨.str _, H, I.tok _, ⟨t', rfl⟩, q⟩⟩)
section
variable {prog : Program} {w : World} {A : Around} {E : Value → Shared → Prop} {s : Shared} {I l : Addr} {items : Array Value}
end
end
end L2
set_option Elab.async false
set_option linter.all false
set_option maxRecDepth 100000
namespace L2
open PySem PySem.Spec PyProof.Rows
theorem ObjOk.there {P : Program} {w : World} {H : Hp} {h : Heap} {a : Addr} {o : HO} (x : ObjOk P w H h a o) : ∃ ob, h.get? a = some ob := by
  cases o with
  | lst xs => obtain ⟨_, _, _, _, e⟩ := x; exact ⟨_, e⟩
  | tup xs => obtain ⟨_, _, _, ob, e, _⟩ := x; exact ⟨_, e⟩
  | dK kvs => obtain ⟨_, _, _, _, o, _, _, e, _⟩ := x; exact ⟨_, e⟩
  | dT kvs => obtain ⟨_, _, _, _, o, _, _, e, _⟩ := x; exact ⟨_, e⟩
  | set S n => obtain ⟨o, _, _, _, e, _⟩ := x; exact ⟨_, e⟩
  | ins C dx fs => obtain ⟨_, _, _, e, _⟩ := x; exact ⟨_, e⟩
  | own y => obtain ⟨_, e⟩ := x; exact ⟨_, e⟩
  | xd fs => obtain ⟨_, ⟨_, _, _, e, _⟩, _⟩ := x; exact ⟨_, e⟩
  | rng lo hi => obtain ⟨_, _, _, e⟩ := x; exact ⟨_, e⟩
  | frz ob u => obtain ⟨e, _⟩ := x; exact ⟨_, e⟩
  | tbl ps => exact ⟨_, show h.get? a = some _ from x⟩
  | met f y => exact ⟨_, show h.get? a = some _ from x⟩
  | ext φ => obtain ⟨_, ⟨_, e⟩, _⟩ := x; exact ⟨_, e⟩
theorem HOk.gone {P : Program} {w : World} {H : Hp} {h : Heap} {a : Addr} (x : HOk P w H h) (e : h.get? a = none) : H a = none := by
  cases q : H a with
  | none => rfl
  | some o =>
    obtain ⟨ob, z⟩ := (x a o q).there
    rw [e] at z
    cases z
def CXR (P : Program) (w : World) : CXT := fun outer H s E e s' =>
  ∃ (ea : Addr) (cls a0 : Value) (H' : Hp) (B : Heap), e = .ref ea ∧ E cls none H' ∧ s'.os = s.os ∧ AllBare s'.gens ∧ Un (frs outer) [] H H' s.heap s'.heap ∧ HOk P w H' B ∧ Heap.FlyingW B outer ea cls a0 s'.heap ∧
    ∀ b o, s.heap.get? b = some o → b ∉ frs outer → ∃ o', B.get? b = some o'
section
variable {P : Program} {w : World} {K : PySem.W.Frag} {mg : Str → Option Value} {base : Heap} {N : List Str} {qual : Str} {scope : Scope} {f : Addr} {cd : Value} {A : Around} {outer : List Env} {s0 : Shared} {H0 : Hp} {E : XK}
abbrev cxR (P : Program) (w : World) (K : PySem.W.Frag) (mg : Str → Option Value) (base : Heap) (N : List Str) (qual : Str) (scope : Scope) (f : Addr) (cd : Value) (A : Around) (outer : List Env) (s0 : Shared) (H0 : Hp) (E : XK) : Cx :=
  cxOf (CXR P w) P w K mg base N qual scope f cd A outer s0 H0 E
theorem left_un {pins : List (Addr × Obj)} {σ : St} {H' : Hp} {s' : Shared} {h' B : Heap} (J : Inv (cxR P w K mg base N qual scope f cd A outer s0 H0 E) pins σ H' s')
    (cov : ∀ b o, s0.heap.get? b = some o → b ∉ frs outer → ∃ o', B.get? b = some o') (k1 : B.StaysIn s'.heap) (k2 : B.StaysIn h') (up : s'.heap.UpToSlots h') : Un (frs outer) [] H0 H' s0.heap h' := by
  have hb := J.base
  have same : ∀ b o, s0.heap.get? b = some o → b ∉ frs outer → ∃ o', s'.heap.get? b = some o' ∧ h'.get? b = some o' := fun b o e nf => by
    obtain ⟨o', q⟩ := cov b o e nf
    exact ⟨o', k1 _ _ q, k2 _ _ q⟩
  have fr : ∀ b o, b ∈ frs outer → s0.heap.get? b = some o → H0 b = none → ∃ sl, h'.get? b = some { o with slots := sl } := fun b o hf e n => by
    obtain ⟨sl, q⟩ := hb.slot b o e n hf (by intro z; cases z)
    obtain ⟨_, o2, e2, hd⟩ := J.ok.funs.mem hf
    have e2 : s0.heap.get? b = some o2 := e2
    rw [e] at e2
    cases e2
    obtain ⟨sl', q'⟩ := up b _ q hd
    exact ⟨sl', q'⟩
  refine ⟨fun b o e n nf hx => ?_, fun b o e n hf hx => fr b o hf e n, hb.free, fun b o e hx => ?_, hb.tups, hb.frzs, hb.tbls⟩
  · obtain ⟨o', q1, q2⟩ := same b o e nf
    have q3 := hb.keep b o e n nf hx
    rw [q1] at q3
    cases q3
    exact q2
  · by_cases hf : b ∈ frs outer
    · obtain ⟨sl, q⟩ := fr b o hf e (J.ok.frf b hf)
      exact ⟨_, q⟩
    · obtain ⟨o', _, q2⟩ := same b o e hf
      exact ⟨o', q2⟩
theorem stk_mem {b : Addr} {env : Env} (h : b ∈ frs (env :: outer)) : env.frame = some b ∨ b ∈ frs outer := by
  unfold frs at h ⊢
  rw [List.filterMap_cons] at h
  cases hf : env.frame with
  | none => rw [hf] at h; exact .inr h
  | some L =>
    rw [hf] at h
    rcases List.mem_cons.mp h with z | z
    · exact .inl (by rw [z])
    · exact .inr z
theorem cov_on {pins : List (Addr × Obj)} {σ : St} {H : Hp} {s : Shared} {B : Heap} (I : Inv (cxR P w K mg base N qual scope f cd A outer s0 H0 E) pins σ H s)
    (cov : ∀ b o, s.heap.get? b = some o → b ∉ frs (cxR P w K mg base N qual scope f cd A outer s0 H0 E).stack → ∃ o', B.get? b = some o') : ∀ b o, s0.heap.get? b = some o → b ∉ frs outer → ∃ o', B.get? b = some o' := by
  intro b o e nf
  obtain ⟨o1, e1⟩ := I.base.there b o e (by intro z; cases z)
  refine cov b o1 e1 fun z => ?_
  rcases stk_mem z with z | z
  · have z : some s0.heap.objs.size = some b := z
    cases z
    exact absurd (Heap.lt_size e) (Nat.lt_irrefl _)
  · exact nf z
theorem passR : Passes (CXR P w) (cxR P w K mg base N qual scope f cd A outer s0 H0 E) E := by
  intro pins σ H s e s' I h
  obtain ⟨ea, cls, a0, H', B, rfl, hE, hos, hbare, un, hokB, hfl, cov⟩ := h
  have J : Inv (cxR P w K mg base N qual scope f cd A outer s0 H0 E) pins σ H' s' := I.call' hos un (hokB.kept hfl.1) hbare (fun b z => nomatch z)
  have cov0 := cov_on I cov
  exact wpAny_leaves_onW I.ok.frames rfl hfl fun h' hfl' up => ⟨ea, cls, a0, H', B, rfl, hE, J.os, J.bare, left_un J cov0 hfl.1 hfl'.1 up, hokB, hfl', cov0⟩
theorem raiseR {pins : List (Addr × Obj)} {σ : St} {H : Hp} {s : Shared} {h1 : Heap} {e : Addr} {cls : Value} {args : List Value} (I : Inv (cxR P w K mg base N qual scope f cd A outer s0 H0 E) pins σ H s) (hx : Heap.MadeExcOf s.heap h1 e cls args) (hE : E cls none H) :
    (cxR P w K mg base N qual scope f cd A outer s0 H0 E).xe (.ref e) { s with heap := h1 } := by
  have st := I.stack
  have stF := I.stkFree
  have nB : ∀ b o, s.heap.get? b = some o → b ∉ frs (cxR P w K mg base N qual scope f cd A outer s0 H0 E).stack → (PySem.W.hideAll s.heap (frs (cxR P w K mg base N qual scope f cd A outer s0 H0 E).stack)).get? b = some o := fun b o e n => PySem.W.hideAll_get _ e n
  have hokB : HOk P w H (PySem.W.hideAll s.heap (frs (cxR P w K mg base N qual scope f cd A outer s0 H0 E).stack)) := fun a o ea => (I.hok a o ea).stay (fun b u hb q => nB b u q fun z => by
    have := stF b z
    rcases hb with rfl | hb
    · rw [ea] at this; cases this
    · rw [hb] at this; cases this) (fun _ q => q) fun _ _ q => q
  have cov0 := cov_on (B := PySem.W.hideAll s.heap (frs (cxR P w K mg base N qual scope f cd A outer s0 H0 E).stack)) I (fun b o e n => ⟨o, nB b o e n⟩)
  have hl := PySem.W.funFrames_hide (as := frs (cxR P w K mg base N qual scope f cd A outer s0 H0 E).stack) st (fun env he a ha => List.mem_filterMap.mpr ⟨env, he, ha⟩)
  refine wpAny_leaves_madeW (s := { s with heap := h1 }) (h := s.heap) I.ok.frames rfl (fun b o q => PySem.W.of_hideAll _ q) hl hx fun h' t hfl _ _ up => ?_
  exact ⟨e, cls, .ref t, H, _, rfl, hE, I.os, I.bare, left_un I cov0 (fun b o q => PySem.W.of_hideAll _ q) hfl.1 (Heap.UpToSlots.trans (Heap.UpToSlots.of_keeps hx.keeps) up), hokB, hfl, cov0⟩
end
def Raises (X : Cx) (E : XK) : Prop := ∀ (pins : List (Addr × Obj)) (σ : St) (H : Hp) (s : Shared) (h1 : Heap) (e : Addr) (cls : Value) (args : List Value), Inv X pins σ H s → Heap.MadeExcOf s.heap h1 e cls args → E cls none H → X.xe (.ref e) { s with heap := h1 }
theorem raisesR {P : Program} {w : World} {K : PySem.W.Frag} {mg : Str → Option Value} {base : Heap} {N : List Str} {qual : Str} {scope : Scope} {f : Addr} {cd : Value} {A : Around} {outer : List Env} {s0 : Shared} {H0 : Hp} {E : XK} :
    Raises (cxR P w K mg base N qual scope f cd A outer s0 H0 E) E := fun _ _ _ _ _ _ _ _ I hx hE => raiseR I hx hE
theorem exc_of {K : PySem.W.Frag} {h : Heap} {C : Addr} {bmB : List Value} {newId : String} (X : K.In h) (q : PySem.W.excIn K C bmB newId = true) :
    ∃ (bm : List Value) (N : Addr) (nm qn : Str) (bs : List Value) (hdct : Bool) (sn : List Str) (sub : List Value) (ab : Bool) (col : Option Bool) (dd : Option Addr) (k0 k1 k2 k3 k5 : Option Value) (mN : Str → Option Value),
      h.get? C = some (excClassObj nm qn C N bs bm hdct sn sub ab col dd k0 k1 k2 k3 k5 newId) ∧ h.Ns N mN ∧ mN "__init__" = none ∧ OwnTail h bmB bm := by
  unfold PySem.W.excIn at q
  split at q
  case h_2 => cases q
  case h_1 dd cd sl ho =>
    split at q
    case h_2 => cases q
    case h_1 C' bm k0 k1 k2 k3 n k5 hm hs =>
      simp only [Bool.and_eq_true, beq_iff_eq, Bool.not_eq_true'] at q
      obtain ⟨⟨⟨⟨⟨e1, e2⟩, hdel⟩, ht⟩, hok⟩, hni⟩ := q
      subst e1 e2
      cases cd with
      | mk nm bs mro ns qn hd sn sub ab col del =>
        dsimp only at hm hdel hok hni
        subst hm hdel
        have hsl : sl = #[k0, k1, k2, k3, some (.builtin n), k5] := by
          cases sl with
          | mk l => exact congrArg Array.mk hs
        subst hsl
        exact ⟨bm, ns, nm, qn, bs, hd, sn, sub, ab, col, dd, k0, k1, k2, k3, k5, _, X _ _ ho, .of_isNs (PySem.W.isNs_of_in X hok), PySem.W.nsMap_none_of_in X hok hni, PySem.W.tail_of_in X ht⟩
section
variable {X : Cx}
def tRaise (C : Addr) (E : XK) (t : TA) : TS := fun _ σ H => t σ H fun vs H1 => vs.length ≤ sizeLine ∧ E (.ref C) none H1
theorem ps_raise {x : Str} {C : Addr} {np cpos pos : Pos} {e₀ : Expr} {rest : List Expr} {t : TA} {E : XK} {bmB : List Value} {B newId initId : String} (hE : Raises X E) (hg : Gl X x) (hm : X.mg x = some (.ref C)) (q : PySem.W.excIn X.K C bmB newId = true)
    (FB : ExcBaseFacts B newId initId bmB) (hc : X.calm = true) (ha : PA X (e₀ :: rest) t) (hd : (x == ("__debug__" : Str)) = false := by decide)
    (he : starEach (e₀ :: rest) X.env = (false, eval e₀ X.env) :: starEach rest X.env := by rfl) (hpl : (backTo cpos (starEach rest X.env)).any (·.1) = false := by rfl) :
    PS X (.Raise (some (.Call (.Name x np) (e₀ :: rest) [] cpos)) none pos) (tRaise C E t) := by
  intro pins s σ H D I h
  obtain ⟨bm, N, nm, qn, bs, hdct, sn, sub, ab, col, dd, k0, k1, k2, k3, k5, mN, hC, hN, hni, TL⟩ := exc_of I.ok.mod.kin q
  have h2 := ha cpos pins s σ H _ I h
  refine wpAny_Raise_call_subT (C := C) (nm := nm) (q := qn) (N := N) (bs := bs) (bm := bm) (hdct := hdct) (sn := sn) (sub := sub) (ab := ab) (col := col) (dd := dd) (k0 := k0) (k1 := k1) (k2 := k2) (k3 := k3) (k5 := k5)
    FB (mN := mN) (TL.hasType FB.hasBase) (I.ok.hd hc) (by rw [he]; show (false || (backTo cpos (starEach rest X.env)).any (·.1)) = false; rw [hpl]; rfl) hni (ld_glob I hg hm ⟨rfl, ?_⟩ hd)
  rw [he] at h2 ⊢
  refine Calls.evalArgs_plain (wpAny_mono h2 (fun us s2 hs => ?_) fun _ _ y => y)
  obtain ⟨vs, H2, I2, r2, q2⟩ := hs
  exact ⟨rfl, by rw [← r2.length]; exact q2.1, I2.bk _ _ hC, hN.keeps I2.bk, TL.keeps I2.bk, fun h' e hx => hE pins σ H2 s2 h' e _ _ I2 hx q2.2⟩
end
end L2
set_option Elab.async false
set_option linter.all false
set_option maxRecDepth 100000
namespace L2
open PySem PySem.Spec PyProof.Rows
section
variable {X : Cx}
abbrev TJ := St → Hp → Str → (Str → Hp → Prop) → Prop
def PJ (X : Cx) (es : List Expr) (t : TJ) : Prop := ∀ (pins : List (Addr × Obj)) (s : Shared) (σ : St) (H : Hp) (acc : Str) (Q : VK), Inv X pins σ H s → t σ H acc (fun z H' => Q (.str z) H') →
  Joins (model X.prog X.w) X.A X.xe (evalEach es X.env) acc (fun out s₁ => out.length ≤ sizeLine ∧ EP X pins σ Q (.str out s₁.toks) { s₁ with toks := s₁.toks + 1 }) s
def tJNil : TJ := fun _ H acc Q => acc.length ≤ sizeLine ∧ Q acc H
def tJCons (te : TE) (t : TJ) : TJ := fun σ H acc Q => te σ H fun v H1 => ∃ y, v = .str y ∧ (acc ++ y).length ≤ sizeLine ∧ t σ H1 (acc ++ y) Q
theorem pj_nil : PJ X [] tJNil := fun _ _ _ H acc Q I h => ⟨h.1, .str acc, H, I.tok _, ⟨_, rfl⟩, h.2⟩
theorem pj_cons {e : Expr} {es : List Expr} {te : TE} {t : TJ} (he : PE X e te) (hr : PJ X es t) (h0 : evalEach (e :: es) X.env = eval e X.env :: evalEach es X.env := by rfl) : PJ X (e :: es) (tJCons te t) := by
  intro pins s σ H acc Q I h
  rw [h0]
  refine thn (he pins s σ H _ I h) fun u s1 ⟨v, H1, I1, r1, q1⟩ => ?_
  obtain ⟨y, rfl, hz, q⟩ := q1
  obtain ⟨t, rfl⟩ := r1
  exact ⟨y, t, rfl, hz, hr pins s1 σ H1 (acc ++ y) Q I1 q⟩
def tJoined (t : TJ) : TE := fun σ H Q => t σ H Str.empty fun z H' => Q (.str z) H'
theorem pe_joined {a b : Expr} {es : List Expr} {t : TJ} {pos : Pos} (h : PJ X (a :: b :: es) t) : PE X (.JoinedStr (a :: b :: es) pos) (tJoined t) := fun pins s σ H Q I q => wpAny_JoinedStr (h pins s σ H _ Q I q)
def tRepr (te : TE) : TE := fun σ H Q => te σ H fun v H1 => (∃ z, v = .str z ∧ (reprText z).length ≤ sizeLine ∧ Q (.str (reprText z)) H1) ∨ ∃ i : Int, v = .int i ∧ i.natAbs.log2 < 1920 ∧ Q (.str (Str.ofString (toString i))) H1
theorem pe_repr {e : Expr} {te : TE} {pos : Pos} (he : PE X e te) : PE X (.FormattedValue e 114 none pos) (tRepr te) := by
  intro pins s σ H Q I h
  refine wpAny_FormattedValue_repr (thn (he pins s σ H _ I h) fun u s1 ⟨v, H1, I1, r1, q1⟩ => ?_)
  rcases q1 with ⟨z, rfl, hz, q⟩ | ⟨i, rfl, hi, q⟩
  · obtain ⟨t, rfl⟩ := r1
    refine wpAny_pyReprObj_str ?_ hz
    exact formatField_str (fun t' tk => ⟨.str (reprText z), H1, I1.tok _, ⟨_, rfl⟩, q⟩) hz
  · obtain ⟨t, rfl⟩ := r1
    refine pyReprObj_int hi ?_
    exact formatField_str (fun t' tk => ⟨.str (Str.ofString (toString i)), H1, I1.tok _, ⟨_, rfl⟩, q⟩) (int_text_fits hi)
end
structure CalR (P : Program) (w : World) (K : PySem.W.Frag) (mgm : Str → Option Value) (base : Heap) (k : Nat) (x : Str) (f : Addr) (fd : FuncData) (ps : List Str) (sp : Sp) : Prop where
  ok : FnOk P w K mgm base (CXR P w) k f fd ps sp
  mg : mgm x = some (.ref f)
  kp : PySem.W.keepIn K (.ref f) = true
  b : Binds K fd ps []
theorem Fun.okR {P : Program} {w : World} {K : PySem.W.Frag} {mg : Str → Option Value} {base : Heap} {x qual : Str} {st : Stmt} {f : Addr} {fd : FuncData} {N ps : List Str} {k : Nat} {sp : Sp} (F : Fun K x qual st f fd) (S : FnScope N ps (defScope st)) (len : ∀ vs H Q E, sp vs H Q E → vs.length = ps.length)
    (hbody : ∀ (cdv : Value) (A : Around) (outer : List Env) (s : Shared) (H : Hp) (vs : List V) (Q : VK) (E : XK), Room k (A.deeper (envOfC qual (defScope st) s.heap.objs.size f cdv)) → sp vs H Q E →
      ∃ t, PSs (cxR P w K mg base N qual (defScope st) f cdv A outer s H E) (defBody st) t ∧ t (Ends.fin Q) (start N vs) H) : FnOk P w K mg base (CXR P w) (k + 1) f fd ps sp := by
  obtain ⟨oc, od, kV, doc, pm, an, cdv, ct, osl, rfl, lk, hcd⟩ := F.ex
  exact fn_of lk hcd S len fun A outer s H vs Q E hr hsp => hbody cdv A outer s H vs Q E hr hsp
end L2
set_option Elab.async false
set_option linter.all false
set_option maxRecDepth 100000
namespace L2
open PySem PySem.Spec PyProof.Rows
def XPs (X : Cx) (pins : List (Addr × Obj)) (Ex : Value → St → Hp → Prop) (e : Value) (s' : Shared) : Prop := ∃ σ H s, Inv X pins σ H s ∧ CXR X.prog X.w X.stack H s (fun c _ H' => Ex c σ H') e s'
abbrev TXE := St → Hp → VK → (Value → Hp → Prop) → Prop
abbrev TXS := Ends → (Value → St → Hp → Prop) → St → Hp → Prop
def PEx (X : Cx) (e : Expr) (t : TXE) : Prop := ∀ (pins : List (Addr × Obj)) (s : Shared) (σ : St) (H : Hp) (Q : VK) (Ex : Value → St → Hp → Prop), Inv X pins σ H s → t σ H Q (fun c H' => Ex c σ H') → wpAny (model X.prog X.w) X.A (eval e X.env) (EP X pins σ Q) (XPs X pins Ex) s
def PSx (X : Cx) (st : Stmt) (t : TXS) : Prop := ∀ (pins : List (Addr × Obj)) (s : Shared) (σ : St) (H : Hp) (D : Ends) (Ex : Value → St → Hp → Prop), Inv X pins σ H s → t D Ex σ H → wpAny (model X.prog X.w) X.A (exec st X.env) (SP X pins D) (XPs X pins Ex) s
def PSxs (X : Cx) (st : List Stmt) (t : TXS) : Prop := ∀ (pins : List (Addr × Obj)) (s : Shared) (σ : St) (H : Hp) (D : Ends) (Ex : Value → St → Hp → Prop), Inv X pins σ H s → t D Ex σ H → wpAny (model X.prog X.w) X.A (execs st X.env) (SP X pins D) (XPs X pins Ex) s
section
variable {X : Cx} {pos : Pos}
def tCallX (sp : Sp) (t : TA) : TXE := fun σ H Q Ex => t σ H fun vs H1 => sp vs H1 Q fun c _ H' => Ex c H'
theorem pex_call {k : Nat} {f : Addr} {fd : FuncData} {ps : List Str} {sp : Sp} {x : Str} {p : Pos} {e : Expr} {es : List Expr} {t : TA} (F : FnOk X.prog X.w X.K X.mg X.base (CXR X.prog X.w) k f fd ps sp) (hr : Room k X.A) (hg : Gl X x) (hm : X.mg x = some (.ref f)) (hk : PySem.W.keepIn X.K (.ref f) = true)
    (hb : Binds X.K fd ps []) (ha : PA X.nox (e :: es) t) (hdb : (x == ("__debug__" : Str)) = false := by decide) (he : starEach (e :: es) X.env = (false, eval e X.env) :: starEach es X.env := by rfl) (hpl : (backTo pos (starEach es X.env)).any (·.1) = false := by rfl) :
    PEx X (.Call (.Name x p) (e :: es) [] pos) (tCallX sp t) := by
  intro pins s σ H Q Ex I h
  refine wpAny_Call_Name_kw (ld_glob I hg hm ?_ hdb)
  refine PySem.W.callWith_K (h₀ := X.base) I.ok.mod.kin hk (wpAny_mono (ha pos pins s σ H _ (I.wish _) h) (fun us s1 hs => ?_) fun _ _ z => False.elim z) he hpl
  obtain ⟨vs, H1, I1, r, q⟩ := hs
  have I1 : Inv X pins σ H1 s1 := I1.unwish
  have hl : us.length = ps.length := by rw [← r.length]; exact F.len _ _ _ _ q
  have hbb := hb s1 us I1.kIn (by rw [List.append_nil]; exact hl)
  rw [List.append_nil] at hbb
  refine ⟨I1.kIn, wpAny_call (codeAny_mono (F.run X.A X.stack s1 H1 ⟨us, []⟩ us vs Q _ hr I1.env0 hbb r q) fun r s' hq => ?_)⟩
  cases r with
  | error e => exact ⟨σ, H1, s1, I1, hq⟩
  | ok fl =>
    cases fl with
    | ret u => exact I1.after hq
    | next => exact False.elim hq
    | brk => exact False.elim hq
    | cont => exact False.elim hq
theorem psx_set {i : Nat} {x : Str} {e : Expr} {te : TXE} {pos' : Pos} (hN : X.N.Nodup) (hi : X.N[i]? = some x) (hx : Loc X.env.scope x) (he : PEx X e te) (hs : swapsWith e (some (.Name x pos')) pos.line X.env = pure false := by rfl) (hf : X.fn x = true ∨ X.env.scope.names.lookup x = some .local := by first | exact .inl rfl | exact .inr rfl | assumption) :
    PSx X (.Assign [.Name x pos'] e pos) (fun D Ex σ H => te σ H (fun v H1 => D.nx (σ.set i (some v)) H1) fun c H' => Ex c σ H') := by
  intro pins s σ H D Ex I h
  refine wpAny_Assign_Name (thn (he pins s σ H _ Ex I h) fun v s1 ⟨y, H1, I1, r1, q1⟩ => ?_) hs
  exact store_ok I1 hN hi hx r1 (fun s2 I2 => ⟨_, H1, I2, q1⟩) hf
theorem psxs_one {st : Stmt} {t : TXS} (h1 : PSx X st t) : PSxs X [st] t := by
  intro pins s σ H D Ex I h
  refine wpAny_execs_cons (thn (h1 pins s σ H D Ex I h) fun f s1 q => ?_)
  cases f with
  | next => exact wpAny_execs_nil q
  | ret v => exact q
  | brk => exact q
  | cont => exact q
end
section
variable {X : Cx} {pins : List (Addr × Obj)} {σ : St} {H H' : Hp} {s s' : Shared}
abbrev Cx.held (X : Cx) (e : Addr) : Cx := { X with A := X.A.mark (some (.ref e)), calm := false, xe := fun _ _ => False }
theorem Inv.held (I : Inv X pins σ H s) (e : Addr) : Inv (X.held e) pins σ H s :=
  ⟨⟨I.ok.mod, I.ok.kind, I.ok.glob, I.ok.blt, I.ok.above, I.ok.inj, I.ok.has, I.ok.cab, (fun z => nomatch z), I.ok.frames, I.ok.stk, I.ok.exf, I.ok.bs, I.ok.bsz, I.ok.noex, I.ok.exfs, I.ok.funs, I.ok.frf⟩, I.os, I.bare, I.base, I.loc, I.cell, I.free, I.freeC, I.pin, I.hok, I.len⟩
theorem Inv.unheld {e : Addr} (ok : X.Ok) (I : Inv (X.held e) pins σ H s) : Inv X pins σ H s := ⟨ok, I.os, I.bare, I.base, I.loc, I.cell, I.free, I.freeC, I.pin, I.hok, I.len⟩
theorem SP.unheld {e : Addr} {D : Ends} {f : Flow} (ok : X.Ok) (h : SP (X.held e) pins D f s') : SP X pins D f s' := by
  cases f with
  | next => obtain ⟨σ', H', I, q⟩ := h; exact ⟨σ', H', I.unheld ok, q⟩
  | brk => obtain ⟨σ', H', I, q⟩ := h; exact ⟨σ', H', I.unheld ok, q⟩
  | cont => obtain ⟨σ', H', I, q⟩ := h; exact ⟨σ', H', I.unheld ok, q⟩
  | ret u => obtain ⟨v, σ', H', I, r, q⟩ := h; exact ⟨v, σ', H', I.unheld ok, r, q⟩
theorem Un.flies {base h h1 h2 B : Heap} {l : List Env} (u : Un (frs l) [] H H' h h1) (fr : h.FunFrames base l) (hf : ∀ b ∈ frs l, H b = none) (cov : ∀ b o, h.get? b = some o → b ∉ frs l → ∃ o', B.get? b = some o') (k1 : B.StaysIn h1) (k2 : B.StaysIn h2)
    (up : h1.UpToSlots h2) : Un (frs l) [] H H' h h2 := by
  have f2 : ∀ b o, b ∈ frs l → h.get? b = some o → ∃ sl, h2.get? b = some { o with slots := sl } := fun b o hb e => by
    obtain ⟨sl, q⟩ := u.slot b o e (hf b hb) hb (by simp)
    obtain ⟨_, o2, e2, hd⟩ := fr.mem hb
    rw [e] at e2
    cases e2
    obtain ⟨sl', q'⟩ := up b _ q hd
    exact ⟨sl', q'⟩
  refine ⟨fun b o e n nf hx => ?_, fun b o e n hb hx => f2 b o hb e, u.free, fun b o e hx => ?_, u.tups, u.frzs, u.tbls⟩
  · obtain ⟨o', q⟩ := cov b o e nf
    have q3 := u.keep b o e n nf hx
    rw [k1 _ _ q] at q3
    cases q3
    exact k2 _ _ q
  · by_cases hb : b ∈ frs l
    · obtain ⟨sl, q⟩ := f2 b o hb e
      exact ⟨_, q⟩
    · obtain ⟨o', q⟩ := cov b o e hb
      exact ⟨o', k2 _ _ q⟩
def Fly (X : Cx) (pins : List (Addr × Obj)) (σ : St) (H' : Hp) (ea : Addr) (cls : Value) (s' : Shared) : Prop :=
  ∃ H s a0 B, Inv X pins σ H s ∧ s'.os = s.os ∧ AllBare s'.gens ∧ Un (frs X.stack) [] H H' s.heap s'.heap ∧ HOk X.prog X.w H' B ∧ Heap.FlyingW B X.stack ea cls a0 s'.heap ∧ ∀ b o, s.heap.get? b = some o → b ∉ frs X.stack → ∃ o', B.get? b = some o'
theorem Fly.inv {ea : Addr} {cls : Value} (F : Fly X pins σ H' ea cls s') : Inv X pins σ H' s' := by
  obtain ⟨H, s, a0, B, I, hos, hb, un, hok, hfl, _⟩ := F
  exact I.call' hos un (hok.kept hfl.1) hb (fun b z => nomatch z)
def Exc (K : PySem.W.Frag) (C : Addr) (tl : List Value) : Prop := ∃ (nm q : Str) (N : Addr) (bs : List Value) (hdct : Bool) (sn : List Str) (sub : List Value) (ab : Bool) (col : Option Bool) (dd : Option Addr) (k0 k1 k2 k3 k5 : Option Value) (newId : String),
  K.lookup C = some (excClassObj nm q C N bs tl hdct sn sub ab col dd k0 k1 k2 k3 k5 newId)
theorem excMatches_own {M : Model} {A : Around} {E : Value → Shared → Prop} {s : Shared} {K : PySem.W.Frag} {e Ce Ch : Addr} {oe : Obj} {te th : List Value} {Q : Bool → Shared → Prop} (X : K.In s.heap) (xe : Exc K Ce te) (xh : Exc K Ch th) (he : s.heap.get? e = some oe) (hcls : oe.cls = .ref Ce)
    (hbase : th.contains (.type "BaseException") = true) (hq : Q ((Value.ref Ce :: te).contains (.ref Ch)) s) : wpAny M A (excMatches (.ref e) (.ref Ch)) Q E s := by
  obtain ⟨nm, q, N, bs, hdct, sn, sub, ab, col, dd, k0, k1, k2, k3, k5, newId, le⟩ := xe
  obtain ⟨nm', q', N', bs', hdct', sn', sub', ab', col', dd', k0', k1', k2', k3', k5', newId', lh⟩ := xh
  have hE := X _ _ le
  have hC := X _ _ lh
  obtain ⟨h, g, d, t, os⟩ := s
  have hcB : (Value.ref Ch :: th).contains (.type "BaseException") = true := by rw [List.contains_cons, hbase, Bool.or_true]
  have f := tc_notTuple
  unfold excMatches
  repeat (first | (with_reducible refine wpAny_loadPart_at he ?_; rw [hcls]) | with_reducible refine wpAny_loadPart_at hC ?_ | (with_reducible refine wpAny_isSubtype_exc hC ?_; rw [hcB]) | with_reducible refine wpAny_isSubtype_exc hE ?_ | wp_step)
  cases hb : (Value.ref Ce :: te).contains (Value.ref Ch) <;> (rw [hb] at hq; wp_walk; exact hq)
def PH (X : Cx) (hs : List ExceptHandler) (t : Value → TS) : Prop := ∀ (pins : List (Addr × Obj)) (σ : St) (H' : Hp) (ea : Addr) (cls : Value) (s3 : Shared) (D : Ends), Fly X pins σ H' ea cls s3 → t cls D σ H' →
  wpAny (model X.prog X.w) X.A (handleBy (.ref ea) X.env hs) (SP X pins D) X.xe s3
def tHNil : Value → TS := fun _ _ _ _ => False
theorem ph_nil : PH X [] tHNil := fun _ _ _ _ _ _ _ _ h => False.elim h
def tHCons (K : PySem.W.Frag) (Ch : Addr) (t : TS) (r : Value → TS) : Value → TS := fun cls D σ H => ∃ Ce tl, cls = .ref Ce ∧ Exc K Ce tl ∧ if (Value.ref Ce :: tl).contains (.ref Ch) = true then t D σ H else r cls D σ H
theorem ph_cons {x : Str} {Ch : Addr} {np pos : Pos} {b₀ : Stmt} {suite : List Stmt} {rest : List ExceptHandler} {t : TS} {r : Value → TS} {th : List Value} (hg : Gl X x) (hm : X.mg x = some (.ref Ch)) (xh : Exc X.K Ch th) (hbase : th.contains (.type "BaseException") = true)
    (hsu : ∀ e, PSs (X.held e) (b₀ :: suite) t) (hr : PH X rest r) (hd : (x == ("__debug__" : Str)) = false := by decide) :
    PH X (.ExceptHandler (some (.Name x np)) none (b₀ :: suite) pos :: rest) (tHCons X.K Ch t r) := by
  intro pins σ H' ea cls s3 D Fl h
  obtain ⟨Ce, tl, rfl, xe, h⟩ := h
  have I3 := Fl.inv
  refine wpAny_handleBy_cons (codeAny_handlers_test (ld_glob (X := X.held ea) (I3.held ea) hg hm ?_ hd)) (by intro q; cases q)
  obtain ⟨H, s, a0, B, I, hos, hb, un, hok, hfl, cov⟩ := id Fl
  obtain ⟨oe, hoe, hoc⟩ := hfl.there
  refine excMatches_own I3.kIn xe xh hoe hoc hbase ?_
  cases hc : (Value.ref Ce :: tl).contains (.ref Ch) with
  | false =>
    rw [hc] at h
    exact hr pins σ H' ea _ s3 D Fl (by simpa using h)
  | true =>
    rw [hc, if_pos rfl] at h
    refine codeAny_handlers_suite ?_
    refine lands_againW hfl fun h6 hfl6 up6 => ?_
    have un6 := un.flies I.stack I.stkFree cov hfl.1 hfl6.1 up6
    have I6 : Inv X pins σ H' { s3 with heap := h6 } := I.call' hos un6 (hok.kept hfl6.1) hb (fun b z => nomatch z)
    exact wpAny_mono (hsu ea pins _ σ H' D (I6.held ea) h) (fun f s2 hs => SP.unheld I.ok hs) fun _ _ z => False.elim z
def tTry (tb : TXS) (th : Value → TS) : TS := fun D σ H => tb D (fun c σ' H' => th c D σ' H') σ H
theorem ps_try {body : List Stmt} {h₀ : ExceptHandler} {hs : List ExceptHandler} {pos : Pos} {tb : TXS} {th : Value → TS} {L : Addr} (hstk : X.stack = X.env :: X.outer) (hf : X.env.frame = some L) (hb : PSxs X body tb) (hh : PH X (h₀ :: hs) th) :
    PS X (.Try body (h₀ :: hs) [] [] pos) (tTry tb th) := by
  intro pins s σ H D I h
  refine wpAny_Try_except (wpAny_mono (hb pins s σ H D _ I h) (fun f s1 q => ?_) (fun e s1 q => ?_))
  · cases f with
    | next => exact wpAny_execs_nil q
    | ret v => exact q
    | brk => exact q
    | cont => exact q
  · obtain ⟨σ', H1, s2, I2, ea, cls, a0, H', B, rfl, hE, hos, hba, un, hok, hfl, cov⟩ := q
    have hfr := I2.ok.frames
    rw [hstk] at hfr
    have hfl0 := hfl
    rw [hstk] at hfl0
    refine wpAny_looks_onW hfr hf hfl0 fun h4 hheld up4 => ?_
    refine wpAny_landsW hheld fun h5 hfl5 up5 => ?_
    have hfl5' : Heap.FlyingW B X.stack ea cls a0 h5 := by rw [hstk]; exact hfl5
    exact hh pins σ' H' ea cls _ D ⟨H1, s2, a0, B, I2, hos, hba, un.flies I2.stack I2.stkFree cov hfl.1 hfl5'.1 (up4.trans up5), hok, hfl5', cov⟩ hE
end
end L2
set_option Elab.async false
set_option linter.all false
set_option maxRecDepth 100000
namespace My
open PySem L2 Mth
abbrev VE : List Value := [.type "ValueError", .type "Exception", .type "BaseException", .type "object"]
structure Cls where
  PE : Addr
  BM : Addr
  NS : Addr
  NB : Addr
  NX : Addr
  NL : Addr
structure ExcT (K : PySem.W.Frag) (mg : Str → Option Value) (x : Str) (C : Addr) (tl : List Value) : Prop where
  g : mg x = some (.ref C)
  x : PySem.W.excIn K C VE "ValueError.__new__" = true
  e : Exc K C tl
def Sane (x : Str) : Prop := x.cps.size ≤ 1000 ∧ ∀ c ∈ x.cps.toList, c < 16 ^ 8
theorem Sane.repr {x : Str} (h : Sane x) : (reprText x).length ≤ 10002 := by
  have h1 := StrLaws.reprText_len x h.2
  have h2 : x.length ≤ 1000 := h.1
  omega
theorem Sane.rlen {x : Str} (h : Sane x) : (reprText x).length ≤ sizeLine := small_line (by have := h.repr; omega)
theorem len_app (a b : Str) : (a ++ b).length = a.length + b.length := strLen_append a b
theorem joinLen {a z : Str} (ha : a.length ≤ 1000) (hz : Sane z) : (Str.empty ++ a ++ reprText z).length ≤ sizeLine := by
  rw [len_app, len_app]
  have h1 := hz.repr
  have h2 : Str.empty.length = 0 := rfl
  exact small_line (by omega)
theorem joinLen1 {a : Str} (ha : a.length ≤ 1000) : (Str.empty ++ a).length ≤ sizeLine := by
  rw [len_app]
  have h2 : Str.empty.length = 0 := rfl
  exact small_line (by omega)
def isSg (x : Str) : Bool := match x.cps.toList with
  | [c] => decide (97 ≤ c) && decide (c ≤ 122)
  | _ => false
theorem isSg_iff {x : Str} : isSg x = true ↔ IsSg x := by
  constructor
  · intro h
    unfold isSg at h
    split at h
    · rename_i c hc
      rw [Bool.and_eq_true, decide_eq_true_eq, decide_eq_true_eq] at h
      refine ⟨c, ?_, h.1, h.2⟩
      cases x with
      | mk a =>
        cases a with
        | mk l =>
          have hc : l = [c] := hc
          rw [hc]
          rfl
    · cases h
  · rintro ⟨c, rfl, h1, h2⟩
    show (decide (97 ≤ c) && decide (c ≤ 122)) = true
    rw [decide_eq_true h1, decide_eq_true h2]
    rfl
theorem one_sg {x : Str} (h : x.cps.size = 1) : ∃ c, x = sg c := by
  cases x with
  | mk a =>
    cases a with
    | mk l =>
      match l, h with
      | [c], _ => exact ⟨c, rfl⟩
theorem sg_leB (c : Nat) : (!decide ((sg c).cps.toList < (Str.ofString "a").cps.toList)) = decide (97 ≤ c) := by
  by_cases h : 97 ≤ c
  · rw [sg_le h, decide_eq_true h]
  · rw [decide_eq_false h]
    have : (sg c).cps.toList < (Str.ofString "a").cps.toList := by
      show [c] < [97]
      rw [List.cons_lt_cons_iff]
      exact .inl (by omega)
    rw [decide_eq_true this]
    rfl
theorem sg_geB (c : Nat) : (!decide ((Str.ofString "z").cps.toList < (sg c).cps.toList)) = decide (c ≤ 122) := by
  by_cases h : c ≤ 122
  · rw [sg_ge h, decide_eq_true h]
  · rw [decide_eq_false h]
    have : (Str.ofString "z").cps.toList < (sg c).cps.toList := by
      show [122] < [c]
      rw [List.cons_lt_cons_iff]
      exact .inl (by omega)
    rw [decide_eq_true this]
    rfl
def SignsOk (ps : List (Str × Int)) : Prop := (∀ p ∈ ps, IsSg p.1) ∧ (ps.map (·.1)).Nodup
def SharesOk (ps : List (Str × Int)) (f : Int) : Prop := 1 ≤ f ∧ (∀ p ∈ ps, 1 ≤ p.2) ∧ ∀ p ∈ ps, p.2 ≤ sumS ps + f - p.2
def KindOk (k : Str) : Prop := ∃ b : Bool, k = kindS b
structure IsModel (k : Str) (ps : List (Str × Int)) (f : Int) : Prop where
  kind : KindOk k
  ne : ps ≠ []
  signs : SignsOk ps
  shares : SharesOk ps f
def Names (ps : List (Str × Int)) : Prop := ps.length ≤ 1000 ∧ ∀ p ∈ ps, Sane p.1
inductive I_spSignG  (vs : List V) (H : Hp) (Q : VK) (E : XK) : Prop
  | mk (x : _) (q1 : vs = [.str x]) (q2 : x.cps.size ≤ 1000) (q3 : Q (.bl (isSg x)) H)
def spSignG : Sp := fun vs H Q E => I_spSignG  vs H Q E
inductive I_spSignsR (cBM : Addr) (vs : List V) (H : Hp) (Q : VK) (E : XK) : Prop
  | mk (l : _) (ps : _) (q1 : vs = [.ref l]) (q2 : PairsAt H l ps) (q3 : Names ps) (q4 : (SignsOk ps → ∀ H', Same H H' → Q .non H')) (q5 : (¬ SignsOk ps → ∀ H', Same H H' → E (.ref cBM) none H'))
inductive I_spSharesR (cBM : Addr) (vs : List V) (H : Hp) (Q : VK) (E : XK) : Prop
  | mk (v : _) (M : _) (q1 : vs = [v]) (q2 : ModelAt H v M) (q3 : Names M.shares) (q4 : (SharesOk M.shares M.fin → ∀ H', Same H H' → Q .non H')) (q5 : (¬ SharesOk M.shares M.fin → ∀ H', Same H H' → E (.ref cBM) none H'))
inductive I_spCheckR (cBM : Addr) (vs : List V) (H : Hp) (Q : VK) (E : XK) : Prop
  | mk (v : _) (k : _) (ps : _) (f : _) (q1 : vs = [v]) (q2 : RawAt H v k ps f) (q3 : Names ps) (q4 : Sane k) (q5 : (IsModel k ps f → ∀ H', Same H H' → Q .non H')) (q6 : (¬ IsModel k ps f → ∀ H', Same H H' → E (.ref cBM) none H'))
inductive I_spPlaceR (K : PySem.W.Frag) (cNS : Addr) (vs : List V) (H : Hp) (Q : VK) (E : XK) : Prop
  | mk (v : _) (M : _) (x : _) (q1 : vs = [v, .str x]) (q2 : ModelAt H v M) (q3 : M.shares.length ≤ 1000) (q4 : Sane x) (q5 : (x ∈ M.shares.map (·.1) → ∀ u H', Same H H' → SpanAt K H' u (place M x) → Q u H')) (q6 : (x ∉ M.shares.map (·.1) → ∀ H', Same H H' → E (.ref cNS) none H'))
structure FineW (M : Md) (x : Str) : Prop where
  good : Good M
  keyed : Keyed M
  few : M.shares.length ≤ 1000
  small : total M ≤ 2 ^ 79
  len : x.cps.size ≤ 1000
structure Given (H : Hp) (v : V) (k : Str) (ps : List (Str × Int)) (f : Int) (x : Str) : Prop where
  raw : RawAt H v k ps f
  names : Names ps
  kind : Sane k
  text : Sane x
  small : IsModel k ps f → sumS ps + f ≤ 2 ^ 79
def AllIn (ps : List (Str × Int)) (x : Str) : Prop := ∀ s ∈ sgs x, s ∈ ps.map (·.1)
inductive I_spWalkedR (K : PySem.W.Frag) (cBM cNS : Addr) (vs : List V) (H : Hp) (Q : VK) (E : XK) : Prop
  | mk (v : _) (k : _) (ps : _) (f : _) (x : _) (q1 : vs = [v, .str x]) (q2 : Given H v k ps f x) (q3 : (∀ b, k = kindS b → IsModel k ps f → AllIn ps x → ∀ t u n H', Same H H' → H' t = some (.tup [u, n]) → SpanAt K H' u (walk (⟨b, ps, f⟩ : Md) (0, 1, 1) (sgs x)).1 → ModelAt H' n (walk (⟨b, ps, f⟩ : Md) (0, 1, 1) (sgs x)).2 → Q (.ref t) H')) (q4 : (IsModel k ps f → ¬ AllIn ps x → ∀ H', Same H H' → E (.ref cNS) none H')) (q5 : (¬ IsModel k ps f → ∀ H', Same H H' → E (.ref cBM) none H'))
inductive I_spBegunR (K : PySem.W.Frag) (cBM cNS : Addr) (vs : List V) (H : Hp) (Q : VK) (E : XK) : Prop
  | mk (v : _) (k : _) (ps : _) (f : _) (x : _) (q1 : vs = [v, .str x]) (q2 : Given H v k ps f x) (q3 : (∀ b, k = kindS b → IsModel k ps f → AllIn ps x → ∀ u H', Same H H' → SpanAt K H' u (walk (⟨b, ps, f⟩ : Md) (0, 1, 1) (sgs x)).1 → Q u H')) (q4 : (IsModel k ps f → ¬ AllIn ps x → ∀ H', Same H H' → E (.ref cNS) none H')) (q5 : (¬ IsModel k ps f → ∀ H', Same H H' → E (.ref cBM) none H'))
inductive I_spEndedR (K : PySem.W.Frag) (cBM cNS : Addr) (vs : List V) (H : Hp) (Q : VK) (E : XK) : Prop
  | mk (v : _) (k : _) (ps : _) (f : _) (x : _) (q1 : vs = [v, .str x]) (q2 : Given H v k ps f x) (q3 : (∀ b, k = kindS b → IsModel k ps f → AllIn ps x → ∀ u H', Same H H' → SpanAt K H' u (ended (⟨b, ps, f⟩ : Md) x) → Q u H')) (q4 : (IsModel k ps f → ¬ AllIn ps x → ∀ H', Same H H' → E (.ref cNS) none H')) (q5 : (¬ IsModel k ps f → ∀ H', Same H H' → E (.ref cBM) none H'))
end My
set_option Elab.async false
set_option linter.all false
set_option maxRecDepth 100000
namespace L2
open PySem PySem.Spec PyProof.Rows PySem.Builtin PySem.Builtin.ObjectAttr PySem.Builtin.Getset_descriptor
section
variable {prog : Program} {w : World} {A : Around} {E : Value → Shared → Prop} {h : Heap} {g : Array GenState} {d : Drawn} {t : Nat} {os : OsState} {K : PySem.W.Frag} {a D : Addr} {o : Obj}
structure ExcOk (K : PySem.W.Frag) (D : Addr) : Prop where
  ga : PySem.W.findIn K (.ref D) "__getattribute__" = some (some (.builtin "BaseException.__getattribute__"))
  gt : PySem.W.findIn K (.ref D) "__getattr__" = some none
  mB : PySem.W.mroIn K D (.type "BaseException") = some true
  mO : PySem.W.mroIn K D (.type "object") = some true
  ha : PySem.W.findIn K (.ref D) "__class__" = some (some (.builtin "object.__class__"))
  hn : PySem.W.specialIn K (.builtin "object.__class__") "__get__" = some (some (.builtin "getset_descriptor.__get__"))
  tk : PySem.W.takesIn K (.builtin "object.__class__") = some true
end
section
variable {X : Cx} {pins : List (Addr × Obj)} {σ : St} {H H' : Hp} {s s' : Shared}
end
end L2
set_option Elab.async false
set_option linter.all false
set_option maxRecDepth 100000
namespace L2
open PySem PySem.Spec PyProof.Rows
section
variable {X : Cx}
inductive I_rInsert  (x : V) (vs : List V) (H : Hp) (Q : VK) : Prop
  | mk (l : Addr) (xs : List V) (i : Nat) (y : V) (q1 : x = .ref l) (q2 : vs = [.int (i : Int), y]) (q3 : H l = some (.lst xs)) (q4 : i ≤ xs.length) (q5 : xs.length < sizeLine) (q6 : Q .non (upd H l (.lst (xs.take i ++ y :: xs.drop i))))
def toV : Value → V
  | .bool b => .bl b
  | .int i _ => .int i
  | .str z _ => .str z
  | _ => .non
theorem toV_of {x : V} {v : Value} (r : RelV x v) (f : flatV x = true) : toV v = x := by
  cases x with
  | non => cases r; rfl
  | bl b => cases r; rfl
  | int i => obtain ⟨t, rfl⟩ := r; rfl
  | str z => obtain ⟨t, rfl⟩ := r; rfl
  | _ => exact absurd (show false = true from f) Bool.false_ne_true
theorem count_vals {y : V} : ∀ {xs : List V} {us : List Value}, Vals xs us → xs.all flatV = true → us.countP (fun v => eqV (toV v) y) = xs.countP fun z => eqV z y
  | _, _, .nil, _ => rfl
  | _, _, .cons r t, f => by
    rw [List.all_cons, Bool.and_eq_true] at f
    rw [List.countP_cons, List.countP_cons, count_vals t f.2, toV_of r f.1]
inductive I_rCount (K : PySem.W.Frag) (x : V) (vs : List V) (H : Hp) (Q : VK) : Prop
  | mk (l : Addr) (xs : List V) (y : V) (q1 : x = .ref l) (q2 : vs = [y]) (q3 : H l = some (.lst xs)) (q4 : xs.all flatV = true) (q5 : flatV y = true) (q6 : Q (.int (xs.countP fun z => eqV z y)) H)
def rCount (K : PySem.W.Frag) : V → List V → Hp → VK → Prop := fun x vs H Q => I_rCount K x vs H Q
theorem mt_count : MtR X "list.count" (rCount X.K) := by
  intro pins s σ H x vs v us Q I rx rv h
  obtain ⟨l, xs, y, rfl, rfl, hH, fx, fy, q⟩ := h
  cases rx
  obtain ⟨u, rfl, ru⟩ := vals1 rv
  obtain ⟨z, its, n, r, hl, e⟩ := I.lstM hH
  refine call_meets F.slot_list_count ⟨_, e, rfl⟩ F.entry_list_count (F.args_list_count_2 _ _) (SeqAt.list_countAt l its.toArray n none #[] u fun v => eqV (toV v) y) ⟨e, fun v hv => ?_, ?_⟩
  · obtain ⟨j, hj, ej⟩ := List.mem_iff_getElem.mp (show v ∈ its by simpa using hv)
    have hx : xs[j]? = some (xs[j]'(by omega)) := List.getElem?_eq_getElem (by omega)
    obtain ⟨v', e1, r1⟩ := r.get hx
    rw [List.getElem?_eq_getElem hj, ej] at e1
    cases e1
    have f1 := flat_at fx hx
    rw [toV_of r1 f1]
    exact eqAt_V r1 ru f1 fy
  · have hc : its.toArray.toList.countP (fun v => eqV (toV v) y) = xs.countP fun z => eqV z y := count_vals r fx
    rw [hc]
    exact ⟨.int _, H, I.tok _, ⟨_, rfl⟩, q⟩
inductive I_rNeT (K : PySem.W.Frag) (x : V) (y : V) (H : Hp) (Q : VK) : Prop
  | mk (a : _) (b : _) (xs : _) (ys : _) (q1 : x = .ref a) (q2 : y = .ref b) (q3 : SqT K H a xs) (q4 : SqT K H b ys) (q5 : xs.length = ys.length) (q6 : xs.all flatV = true) (q7 : ys.all flatV = true) (q8 : Q (.bl (!eqVs xs ys)) H)
end
end L2
set_option Elab.async false
set_option linter.all false
set_option maxRecDepth 100000
namespace L2
open PySem PySem.Spec PyProof.Rows
section
variable {X : Cx} {pos : Pos}
end
end L2
set_option Elab.async false
set_option linter.all false
set_option maxRecDepth 100000
namespace L2
open PySem PyProof.Rows
def gallopP : Bool → Keyed → Array Keyed → Nat → Nat → Nat → StateT SortSt Sem (Option Nat) := sortPriv% PySem.Builtin.gallop
def mergeLoP : Array Keyed → Array Keyed → StateT SortSt Sem (Array Keyed) := sortPriv% PySem.Builtin.mergeLo
def mergeHiP : Array Keyed → Array Keyed → StateT SortSt Sem (Array Keyed) := sortPriv% PySem.Builtin.mergeHi
section
variable {prog : Program} {w : World} {A : Around} {E : Value → Shared → Prop} {s : Shared} {κ : KeyKind}
theorem wpS_if {α : Type} {c : Prop} [Decidable c] {x y : StateT SortSt Sem α} {Q : α → SortSt → Prop} {st : SortSt} (h1 : c → wpS (model prog w) A E s x Q st) (h2 : ¬ c → wpS (model prog w) A E s y Q st) : wpS (model prog w) A E s (if c then x else y) Q st := by
  by_cases z : c
  · rw [if_pos z]; exact h1 z
  · rw [if_neg z]; exact h2 z
theorem elem_ok {xs : Array Keyed} {i : Nat} {st : SortSt} {Q : Keyed → SortSt → Prop} (hi : i < xs.size) (h : Q xs[i] st) : wpS (model prog w) A E s (elem' xs i) Q st := by
  rw [elem'_eq, getElem?_pos xs i hi]
  exact wpS_pure h
theorem lt_ok {x y : Keyed} {a b : κ.α} {st : SortSt} {Q : Option Bool → SortSt → Prop} (hO : κ.OneLt) (hk : kindOf st = oneType') (ha : κ.keyOf x.1 = some a) (hb : κ.keyOf y.1 = some b) (h : ∀ c, Q (some c) st) : wpS (model prog w) A E s (lt' x y) Q st := by
  rw [lt'_eq]
  refine wpS_bind (wpS_get ?_)
  rw [hk, keyLt'_oneType]
  refine wpS_bind (wpS_lift (wpAny_attempt (hO prog w A _ s _ _ a b ha hb ⟨rfl, ?_⟩)))
  exact wpS_pure (h _)
theorem beyond_ok {left : Bool} {key : Keyed} {arr : Array Keyed} {j : Nat} {st : SortSt} {Q : Option Bool → SortSt → Prop} (hO : κ.OneLt) (hk : kindOf st = oneType') (hy : ∃ a, κ.keyOf key.1 = some a) (hx : KeysOf κ arr) (hj : j < arr.size) (h : ∀ c, Q (some c) st) :
    wpS (model prog w) A E s (do
      let u ← elem' arr j
      if left = true then lt' u key
      else do
        let b ← lt' key u
        pure (b.map fun c => !c)) Q st := by
  obtain ⟨a, ha⟩ := hy
  obtain ⟨b, hb⟩ := hx arr[j] (by simp)
  refine wpS_bind (elem_ok hj ?_)
  cases left with
  | true => exact lt_ok hO hk hb ha h
  | false => exact wpS_bind (lt_ok hO hk ha hb fun c => wpS_pure (h _))
theorem gallop_ok {left : Bool} {key : Keyed} {arr : Array Keyed} {base n hint : Nat} {st : SortSt} {Q : Option Nat → SortSt → Prop} (hO : κ.OneLt) (hk : kindOf st = oneType') (hy : ∃ a, κ.keyOf key.1 = some a) (hx : KeysOf κ arr) (hb : base + n ≤ arr.size) (hh : hint < n)
    (h : ∀ k, k ≤ n → Q (some k) st) : wpS (model prog w) A E s (gallopP left key arr base n hint) Q st := by
  refine wpS_bind (beyond_ok hO hk hy hx (j := base + hint) (by omega) fun c => ?_)
  cases c with
  | true =>
    dsimp only
    rw [if_pos rfl]
    refine wpS_bind (wpS_mono (wpS_forRange (I := fun _ c st' => c.1 = none ∧ st' = st) (Q := fun c st' => c.1 = none ∧ st' = st) ?_ (fun _ _ z => z) ⟨rfl, rfl⟩) ?_)
    · rintro i ⟨r, lastofs, ofs⟩ st' _ _ ⟨rfl, rfl⟩
      dsimp only
      by_cases z : ofs ≥ n - hint
      · rw [if_pos z]
        exact wpS_pure ⟨rfl, rfl⟩
      · rw [if_neg z]
        refine wpS_bind (beyond_ok hO hk hy hx (j := base + (hint + ofs)) (by omega) fun c => ?_)
        cases c with
        | true => exact wpS_pure ⟨rfl, rfl⟩
        | false => exact wpS_pure ⟨rfl, rfl⟩
    · rintro ⟨r, lastofs, ofs⟩ st' ⟨rfl, rfl⟩
      dsimp only
      refine wpS_bind (wpS_mono (wpS_forRange (I := fun _ c st2 => c.1 = none ∧ c.2.2 ≤ n ∧ st2 = st') (Q := fun c st2 => c.1 = none ∧ c.2.2 ≤ n ∧ st2 = st') ?_ (fun _ _ z => z) ⟨rfl, (by dsimp only; omega), rfl⟩) ?_)
      · rintro i ⟨r, lo, hi⟩ st2 _ _ ⟨rfl, hn, rfl⟩
        dsimp only at hn ⊢
        by_cases z : lo ≥ hi
        · rw [if_pos z]
          exact wpS_pure ⟨rfl, hn, rfl⟩
        · rw [if_neg z]
          refine wpS_bind (beyond_ok hO hk hy hx (j := base + (lo + (hi - lo) / 2)) (by omega) fun c => ?_)
          cases c with
          | true => exact wpS_pure ⟨rfl, hn, rfl⟩
          | false => exact wpS_pure ⟨rfl, (by dsimp only; omega), rfl⟩
      · rintro ⟨r, lo, hi⟩ st2 ⟨rfl, hn, rfl⟩
        exact wpS_pure (h _ hn)
  | false =>
    dsimp only
    rw [if_neg (by decide)]
    refine wpS_bind (wpS_mono (wpS_forRange (I := fun _ c st' => c.1 = none ∧ st' = st) (Q := fun c st' => c.1 = none ∧ st' = st) ?_ (fun _ _ z => z) ⟨rfl, rfl⟩) ?_)
    · rintro i ⟨r, lastofs, ofs⟩ st' _ _ ⟨rfl, rfl⟩
      dsimp only
      by_cases z : ofs ≥ hint + 1
      · rw [if_pos z]
        exact wpS_pure ⟨rfl, rfl⟩
      · rw [if_neg z]
        refine wpS_bind (beyond_ok hO hk hy hx (j := base + (hint - ofs)) (by omega) fun c => ?_)
        cases c with
        | true => exact wpS_pure ⟨rfl, rfl⟩
        | false => exact wpS_pure ⟨rfl, rfl⟩
    · rintro ⟨r, lastofs, ofs⟩ st' ⟨rfl, rfl⟩
      dsimp only
      refine wpS_bind (wpS_mono (wpS_forRange (I := fun _ c st2 => c.1 = none ∧ c.2.2 ≤ n ∧ st2 = st') (Q := fun c st2 => c.1 = none ∧ c.2.2 ≤ n ∧ st2 = st') ?_ (fun _ _ z => z) ⟨rfl, (by dsimp only; omega), rfl⟩) ?_)
      · rintro i ⟨r, lo, hi⟩ st2 _ _ ⟨rfl, hn, rfl⟩
        dsimp only at hn ⊢
        by_cases z : lo ≥ hi
        · rw [if_pos z]
          exact wpS_pure ⟨rfl, hn, rfl⟩
        · rw [if_neg z]
          refine wpS_bind (beyond_ok hO hk hy hx (j := base + (lo + (hi - lo) / 2)) (by omega) fun c => ?_)
          cases c with
          | true => exact wpS_pure ⟨rfl, hn, rfl⟩
          | false => exact wpS_pure ⟨rfl, (by dsimp only; omega), rfl⟩
      · rintro ⟨r, lo, hi⟩ st2 ⟨rfl, hn, rfl⟩
        exact wpS_pure (h _ hn)
def Sm (st st' : SortSt) : Prop := kindOf st' = kindOf st ∧ arrOf st' = arrOf st ∧ pendingOf st' = pendingOf st ∧ failedOf st' = failedOf st
theorem Sm.refl (st : SortSt) : Sm st st := ⟨rfl, rfl, rfl, rfl⟩
theorem Sm.trans {x y z : SortSt} (h : Sm x y) (k : Sm y z) : Sm x z := ⟨k.1.trans h.1, k.2.1.trans h.2.1, k.2.2.1.trans h.2.2.1, k.2.2.2.trans h.2.2.2⟩
def galP : Nat → StateT SortSt Sem Unit := sortPriv% PySem.Builtin.setMinGallop
theorem gal_ok {g : Nat} {Q : Unit → SortSt → Prop} {st : SortSt} (h : ∀ st', Sm st st' → Q () st') : wpS (model prog w) A E s (galP g) Q st := wpS_modify (h _ ⟨rfl, rfl, rfl, rfl⟩)
def Laid (a b out : Array Keyed) (ia ib : Nat) : Prop := out.toList.Perm (a.toList.take ia ++ b.toList.take ib)
def Whole (a b out : Array Keyed) : Prop := out.toList.Perm (a.toList ++ b.toList)
theorem ex_list (l : List Keyed) (i j : Nat) : l.extract i j = (l.drop i).take (j - i) := rfl
theorem Laid.pushB {a b out : Array Keyed} {ia ib : Nat} (h : Laid a b out ia ib) (hi : ib < b.size) : Laid a b (out.push b[ib]) ia (ib + 1) := by
  unfold Laid at *
  rw [Array.toList_push, List.take_add_one, List.getElem?_eq_getElem (by simpa using hi), ← List.append_assoc]
  exact h.append (by simp)
theorem Laid.moreA {a b out : Array Keyed} {ia ib k : Nat} (h : Laid a b out ia ib) : Laid a b (out ++ a.extract ia (ia + k)) (ia + k) ib := by
  unfold Laid at *
  rw [Array.toList_append, Array.toList_extract, ex_list, List.take_add, show ia + k - ia = k by omega]
  refine (h.append_right _).trans ?_
  rw [List.append_assoc, List.append_assoc]
  exact (List.perm_append_comm).append_left _
theorem Laid.moreB {a b out : Array Keyed} {ia ib k : Nat} (h : Laid a b out ia ib) : Laid a b (out ++ b.extract ib (ib + k)) ia (ib + k) := by
  unfold Laid at *
  rw [Array.toList_append, Array.toList_extract, ex_list, List.take_add, show ib + k - ib = k by omega, ← List.append_assoc]
  exact h.append_right _
theorem Laid.pushA {a b out : Array Keyed} {ia ib : Nat} (h : Laid a b out ia ib) (hi : ia < a.size) : Laid a b (out.push a[ia]) (ia + 1) ib := by
  have := h.moreA (k := 1)
  unfold Laid at *
  rw [Array.toList_push]
  rw [Array.toList_append, Array.toList_extract, ex_list, show ia + 1 - ia = 1 by omega] at this
  have e : (a.toList.drop ia).take 1 = [a[ia]] := by
    rw [List.drop_eq_getElem_cons (by simpa using hi)]
    simp
  rw [e] at this
  exact this
theorem Laid.done {a b out : Array Keyed} {ia ib : Nat} (h : Laid a b out ia ib) : Whole a b (out ++ a.extract ia ++ b.extract ib) := by
  unfold Laid at h
  unfold Whole
  rw [Array.toList_append, Array.toList_append, Array.toList_extract, Array.toList_extract, ex_list, ex_list, List.take_of_length_le (by simp), List.take_of_length_le (by simp)]
  refine ((h.append_right _).append_right _).trans ?_
  have e1 : a.toList = a.toList.take ia ++ a.toList.drop ia := (List.take_append_drop ..).symm
  have e2 : b.toList = b.toList.take ib ++ b.toList.drop ib := (List.take_append_drop ..).symm
  refine List.Perm.trans ?_ (List.Perm.of_eq (by rw [← e1, ← e2] : (a.toList.take ia ++ a.toList.drop ia) ++ (b.toList.take ib ++ b.toList.drop ib) = a.toList ++ b.toList))
  rw [List.append_assoc, List.append_assoc, List.append_assoc]
  refine List.Perm.append_left _ ?_
  rw [← List.append_assoc, ← List.append_assoc]
  exact (List.perm_append_comm).append_right _
theorem Laid.last {a b out : Array Keyed} {ia ib : Nat} (h : Laid a b out ia ib) : Whole a b (out ++ b.extract ib ++ a.extract ia) := by
  have := h.done
  unfold Whole at *
  rw [Array.toList_append, Array.toList_append] at *
  refine List.Perm.trans ?_ this
  rw [List.append_assoc, List.append_assoc]
  exact (List.perm_append_comm).append_left _
def Lo (a b out : Array Keyed) (ia ib t : Nat) : Prop := ia + 1 < a.size ∧ ib < b.size ∧ t ≤ ia + ib ∧ Laid a b out ia ib
theorem key_at {xs : Array Keyed} {i : Nat} (h : KeysOf κ xs) (hi : i < xs.size) : ∃ c, κ.keyOf xs[i].1 = some c := h xs[i] (by simp)
set_option maxHeartbeats 4000000 in
theorem mergeLo_ok {a b : Array Keyed} {st : SortSt} {Q : Array Keyed → SortSt → Prop} (hO : κ.OneLt) (hk : kindOf st = oneType') (ha : KeysOf κ a) (hb : KeysOf κ b) (ha1 : 1 ≤ a.size) (hb1 : 1 ≤ b.size)
    (h : ∀ out st', Whole a b out → Sm st st' → Q out st') : wpS (model prog w) A E s (mergeLoP a b) Q st := by
  refine wpS_bind (wpS_lift (wpAny_rule ⟨rfl, ?_⟩))
  refine wpS_bind (elem_ok (by omega) ?_)
  dsimp only
  have l0 : Laid a b #[b[0]] 0 1 := by
    have : Laid a b #[] 0 0 := List.Perm.refl _
    exact this.pushB (by omega)
  by_cases z1 : (1 == b.size) = true
  · rw [if_pos z1]
    exact wpS_pure (h _ _ l0.done (.refl _))
  rw [if_neg z1]
  by_cases z2 : (0 + 1 == a.size) = true
  · rw [if_pos z2]
    exact wpS_pure (h _ _ l0.last (.refl _))
  rw [if_neg z2]
  simp only [beq_iff_eq] at z1 z2
  refine wpS_bind (wpS_get ?_)
  refine wpS_bind (wpS_mono (wpS_forRange (I := fun i c st' => c.1 = none ∧ Sm st st' ∧ Lo a b c.2.1 c.2.2.1 c.2.2.2.1 (1 + i)) (Q := fun c st' => Sm st st' ∧ ∃ r, c.1 = some r ∧ Whole a b r) ?_ ?_ ⟨rfl, .refl _, by dsimp only; omega, by dsimp only; omega, by dsimp only; omega, l0⟩) ?_)
  · rintro i ⟨r, out, ia, ib, mg⟩ st1 _ _ ⟨rfl, s1, p1, p2, p3, p4⟩
    dsimp only at p1 p2 p3 p4 ⊢
    refine wpS_bind (wpS_mono (wpS_forRange (I := fun j c st' => c.1 = none ∧ Sm st st' ∧ Lo a b c.2.1 c.2.2.1 c.2.2.2.1 (1 + i + j)) (Q := fun c st' => Sm st st' ∧ ((∃ r, c.1 = some r ∧ Whole a b r) ∨ (c.1 = none ∧ Lo a b c.2.1 c.2.2.1 c.2.2.2.1 (1 + i + 1)))) ?_ ?_ ⟨rfl, s1, p1, p2, p3, p4⟩) ?_)
    · rintro j ⟨r, out, ia, ib, ac, bc⟩ st2 _ _ ⟨rfl, s2, q1, q2, q3, q4⟩
      dsimp only at q1 q2 q3 q4 ⊢
      obtain ⟨ka, hka⟩ := key_at ha (i := ia) (by omega)
      obtain ⟨kb, hkb⟩ := key_at hb q2
      refine wpS_bind (elem_ok q2 (wpS_bind (elem_ok (xs := a) (i := ia) (by omega) (wpS_bind (lt_ok hO (s2.1.trans hk) hkb hka fun c => ?_)))))
      cases c with
      | true =>
        dsimp only
        rw [if_pos rfl]
        refine wpS_bind (elem_ok q2 ?_)
        have q5 := q4.pushB q2
        by_cases y1 : (ib + 1 == b.size) = true
        · rw [if_pos y1]
          exact wpS_pure ⟨s2, .inl ⟨_, rfl, q5.done⟩⟩
        rw [if_neg y1]
        simp only [beq_iff_eq] at y1
        by_cases y2 : bc + 1 ≥ mg
        · rw [if_pos y2]
          exact wpS_pure ⟨s2, .inr ⟨rfl, q1, by dsimp only; omega, by dsimp only; omega, q5⟩⟩
        · rw [if_neg y2]
          exact wpS_pure ⟨rfl, s2, q1, by dsimp only; omega, by dsimp only; omega, q5⟩
      | false =>
        dsimp only
        rw [if_neg (by decide)]
        refine wpS_bind (elem_ok (xs := a) (i := ia) (by omega) ?_)
        have q5 := q4.pushA (by omega)
        by_cases y1 : (ia + 1 + 1 == a.size) = true
        · rw [if_pos y1]
          exact wpS_pure ⟨s2, .inl ⟨_, rfl, q5.last⟩⟩
        rw [if_neg y1]
        simp only [beq_iff_eq] at y1
        by_cases y2 : ac + 1 ≥ mg
        · rw [if_pos y2]
          exact wpS_pure ⟨s2, .inr ⟨rfl, by dsimp only; omega, q2, by dsimp only; omega, q5⟩⟩
        · rw [if_neg y2]
          exact wpS_pure ⟨rfl, s2, by dsimp only; omega, q2, by dsimp only; omega, q5⟩
    · rintro ⟨r, out, ia, ib, ac, bc⟩ st2 ⟨rfl, s2, q1, q2, q3, q4⟩
      dsimp only at q1 q2 q3
      omega
    · rintro ⟨r, out, ia, ib, ac, bc⟩ st2 ⟨s2, ⟨r', e, hr⟩ | ⟨e, q1, q2, q3, q4⟩⟩
      · dsimp only at e
        subst e
        exact wpS_pure ⟨s2, _, rfl, hr⟩
      dsimp only at e q1 q2 q3 q4
      subst e
      dsimp only
      refine wpS_bind (wpS_lift (wpAny_rule ⟨rfl, ?_⟩))
      refine wpS_bind (wpS_mono (wpS_forRange (I := fun j c st' => c.1 = none ∧ Sm st st' ∧ Lo a b c.2.1 c.2.2.1 c.2.2.2.1 (1 + i + 1 + j)) (Q := fun c st' => Sm st st' ∧ ((∃ r, c.1 = some r ∧ Whole a b r) ∨ (c.1 = none ∧ Lo a b c.2.1 c.2.2.1 c.2.2.2.1 (1 + i + 1)))) ?_ ?_ ⟨rfl, s2, q1, q2, q3, q4⟩) ?_)
      · rintro j ⟨r, out, ia, ib, mg2, ac, bc⟩ st3 _ _ ⟨rfl, s3, q1, q2, q3, q4⟩
        dsimp only at q1 q2 q3 q4
        refine wpS_if (fun _ => ?_) (fun _ => ?_)
        all_goals
          refine wpS_bind (gal_ok fun st4 z4 => ?_)
          have s4 := s3.trans z4
          refine wpS_bind (elem_ok (xs := b) (i := ib) q2 ?_)
          refine wpS_bind (gallop_ok (arr := a) (base := ia) (n := a.size - ia) (hint := 0) hO (s4.1.trans hk) (key_at hb q2) ha (by omega) (by omega) fun k hkn => ?_)
          refine wpS_if (fun y0 => ?_) (fun y0 => ?_)
          · have q5 := q4.moreA (k := k)
            refine wpS_if (fun y1 => wpS_pure ⟨s4, .inl ⟨_, rfl, q5.last⟩⟩) (fun y1 => ?_)
            refine wpS_if (fun y2 => wpS_pure ⟨s4, .inl ⟨_, rfl, q5.done⟩⟩) (fun y2 => ?_)
            dsimp only at y1 y2
            simp only [beq_iff_eq] at y1 y2
            refine wpS_bind (elem_ok (xs := b) (i := ib) q2 ?_)
            have t5 := q5.pushB q2
            refine wpS_if (fun y3 => wpS_pure ⟨s4, .inl ⟨_, rfl, t5.done⟩⟩) (fun y3 => ?_)
            dsimp only at y3
            simp only [beq_iff_eq] at y3
            refine wpS_bind (elem_ok (xs := a) (i := ia + k) (by omega) ?_)
            refine wpS_bind (gallop_ok (arr := b) (base := ib + 1) (n := b.size - (ib + 1)) (hint := 0) hO (s4.1.trans hk) (key_at (i := ia + k) ha (by omega)) hb (by omega) (by omega) fun k2 hk2 => ?_)
            refine wpS_if (fun y4 => ?_) (fun y4 => ?_)
            · have t6 := t5.moreB (k := k2)
              refine wpS_if (fun y5 => wpS_pure ⟨s4, .inl ⟨_, rfl, t6.done⟩⟩) (fun y5 => ?_)
              dsimp only at y5
              simp only [beq_iff_eq] at y5
              refine wpS_bind (elem_ok (xs := a) (i := ia + k) (by omega) ?_)
              have t7 := t6.pushA (by omega)
              refine wpS_if (fun y6 => wpS_pure ⟨s4, .inl ⟨_, rfl, t7.last⟩⟩) (fun y6 => ?_)
              dsimp only at y6
              simp only [beq_iff_eq] at y6
              refine wpS_if (fun _ => ?_) (fun _ => ?_)
              · exact wpS_pure ⟨s4, .inr ⟨rfl, by dsimp only; omega, by dsimp only; omega, by dsimp only; omega, t7⟩⟩
              · exact wpS_pure ⟨rfl, s4, by dsimp only; omega, by dsimp only; omega, by dsimp only; omega, t7⟩
            ·
              refine wpS_bind (elem_ok (xs := a) (i := ia + k) (by omega) ?_)
              have t7 := t5.pushA (by omega)
              refine wpS_if (fun y6 => wpS_pure ⟨s4, .inl ⟨_, rfl, t7.last⟩⟩) (fun y6 => ?_)
              dsimp only at y6
              simp only [beq_iff_eq] at y6
              refine wpS_if (fun _ => ?_) (fun _ => ?_)
              · exact wpS_pure ⟨s4, .inr ⟨rfl, by dsimp only; omega, by dsimp only; omega, by dsimp only; omega, t7⟩⟩
              · exact wpS_pure ⟨rfl, s4, by dsimp only; omega, by dsimp only; omega, by dsimp only; omega, t7⟩
          ·
            refine wpS_bind (elem_ok (xs := b) (i := ib) q2 ?_)
            have t5 := q4.pushB q2
            refine wpS_if (fun y3 => wpS_pure ⟨s4, .inl ⟨_, rfl, t5.done⟩⟩) (fun y3 => ?_)
            dsimp only at y3
            simp only [beq_iff_eq] at y3
            refine wpS_bind (elem_ok (xs := a) (i := ia) (by omega) ?_)
            refine wpS_bind (gallop_ok (arr := b) (base := ib + 1) (n := b.size - (ib + 1)) (hint := 0) hO (s4.1.trans hk) (key_at (i := ia) ha (by omega)) hb (by omega) (by omega) fun k2 hk2 => ?_)
            refine wpS_if (fun y4 => ?_) (fun y4 => ?_)
            · have t6 := t5.moreB (k := k2)
              refine wpS_if (fun y5 => wpS_pure ⟨s4, .inl ⟨_, rfl, t6.done⟩⟩) (fun y5 => ?_)
              dsimp only at y5
              simp only [beq_iff_eq] at y5
              refine wpS_bind (elem_ok (xs := a) (i := ia) (by omega) ?_)
              have t7 := t6.pushA (by omega)
              refine wpS_if (fun y6 => wpS_pure ⟨s4, .inl ⟨_, rfl, t7.last⟩⟩) (fun y6 => ?_)
              dsimp only at y6
              simp only [beq_iff_eq] at y6
              refine wpS_if (fun _ => ?_) (fun _ => ?_)
              · exact wpS_pure ⟨s4, .inr ⟨rfl, by dsimp only; omega, by dsimp only; omega, by dsimp only; omega, t7⟩⟩
              · exact wpS_pure ⟨rfl, s4, by dsimp only; omega, by dsimp only; omega, by dsimp only; omega, t7⟩
            ·
              refine wpS_bind (elem_ok (xs := a) (i := ia) (by omega) ?_)
              have t7 := t5.pushA (by omega)
              refine wpS_if (fun y6 => wpS_pure ⟨s4, .inl ⟨_, rfl, t7.last⟩⟩) (fun y6 => ?_)
              dsimp only at y6
              simp only [beq_iff_eq] at y6
              refine wpS_if (fun _ => ?_) (fun _ => ?_)
              · exact wpS_pure ⟨s4, .inr ⟨rfl, by dsimp only; omega, by dsimp only; omega, by dsimp only; omega, t7⟩⟩
              · exact wpS_pure ⟨rfl, s4, by dsimp only; omega, by dsimp only; omega, by dsimp only; omega, t7⟩
      · rintro ⟨r, out, ia, ib, mg2, ac, bc⟩ st3 ⟨rfl, s3, q1, q2, q3, q4⟩
        dsimp only at q1 q2 q3
        omega
      · rintro ⟨r, out, ia, ib, mg2, ac, bc⟩ st3 ⟨s3, ⟨r', e, hr⟩ | ⟨e, q1, q2, q3, q4⟩⟩
        · dsimp only at e
          subst e
          exact wpS_pure ⟨s3, _, rfl, hr⟩
        dsimp only at e q1 q2 q3 q4
        subst e
        exact wpS_bind (gal_ok fun st4 z4 => wpS_pure ⟨rfl, s3.trans z4, q1, q2, by dsimp only; omega, q4⟩)
  · rintro ⟨r, out, ia, ib, mg⟩ st1 ⟨rfl, s1, p1, p2, p3, p4⟩
    dsimp only at p1 p2 p3
    omega
  · rintro ⟨r, out, ia, ib, mg⟩ st1 ⟨s1, r', e, hr⟩
    dsimp only at e
    subst e
    exact wpS_pure (h _ _ hr s1)
def LaidH (a b out : Array Keyed) (na nb : Nat) : Prop := out.toList.Perm (a.toList.drop na ++ b.toList.drop nb)
theorem LaidH.pushA {a b out : Array Keyed} {na nb : Nat} (h : LaidH a b out na nb) (h1 : 1 ≤ na) (hi : na - 1 < a.size) : LaidH a b (out.push a[na - 1]) (na - 1) nb := by
  unfold LaidH at *
  rw [Array.toList_push, List.drop_eq_getElem_cons (i := na - 1) (by simpa using hi), show na - 1 + 1 = na by omega]
  refine (h.append_right _).trans ?_
  refine List.perm_append_comm.trans ?_
  simp
theorem LaidH.pushB {a b out : Array Keyed} {na nb : Nat} (h : LaidH a b out na nb) (h1 : 1 ≤ nb) (hi : nb - 1 < b.size) : LaidH a b (out.push b[nb - 1]) na (nb - 1) := by
  unfold LaidH at *
  rw [Array.toList_push, List.drop_eq_getElem_cons (l := b.toList) (i := nb - 1) (by simpa using hi), show nb - 1 + 1 = nb by omega]
  refine (h.append_right _).trans ?_
  rw [List.append_assoc]
  refine List.Perm.append_left _ (List.perm_append_comm.trans ?_)
  simp
theorem cut_back (l : List Keyed) {i j : Nat} (h : i ≤ j) : l.drop i = (l.drop i).take (j - i) ++ l.drop j := by
  have := (List.take_append_drop (j - i) (l.drop i)).symm
  rw [List.drop_drop, show i + (j - i) = j by omega] at this
  exact this
theorem LaidH.moreA {a b out : Array Keyed} {na nb i : Nat} (h : LaidH a b out na nb) (hi : i ≤ na) : LaidH a b (out ++ (a.extract i na).reverse) i nb := by
  unfold LaidH at *
  rw [Array.toList_append, Array.toList_reverse, Array.toList_extract, ex_list]
  have key : (out.toList ++ ((a.toList.drop i).take (na - i)).reverse).Perm (((a.toList.drop i).take (na - i) ++ a.toList.drop na) ++ b.toList.drop nb) := by
    rw [List.append_assoc]
    exact List.perm_append_comm.trans ((List.reverse_perm _).append h)
  rw [← cut_back a.toList hi] at key
  exact key
theorem LaidH.moreB {a b out : Array Keyed} {na nb i : Nat} (h : LaidH a b out na nb) (hi : i ≤ nb) (_ : 0 ≤ nb) : LaidH a b (out ++ (b.extract i nb).reverse) na i := by
  unfold LaidH at *
  rw [Array.toList_append, Array.toList_reverse, Array.toList_extract, ex_list]
  have key : (out.toList ++ ((b.toList.drop i).take (nb - i)).reverse).Perm (a.toList.drop na ++ ((b.toList.drop i).take (nb - i) ++ b.toList.drop nb)) := by
    refine ((h.append (List.reverse_perm _))).trans ?_
    rw [List.append_assoc]
    exact List.Perm.append_left _ List.perm_append_comm
  rw [← cut_back b.toList hi] at key
  exact key
theorem LaidH.done {a b out : Array Keyed} {na nb : Nat} (h : LaidH a b out na nb) : Whole a b (a.extract 0 na ++ b.extract 0 nb ++ out.reverse) := by
  unfold LaidH at h
  unfold Whole
  rw [Array.toList_append, Array.toList_append, Array.toList_reverse, Array.toList_extract, Array.toList_extract, ex_list, ex_list, List.drop_zero, List.drop_zero, Nat.sub_zero, Nat.sub_zero]
  refine (((List.reverse_perm _).trans h).append_left _).trans ?_
  have e1 : a.toList = a.toList.take na ++ a.toList.drop na := (List.take_append_drop ..).symm
  have e2 : b.toList = b.toList.take nb ++ b.toList.drop nb := (List.take_append_drop ..).symm
  refine List.Perm.trans ?_ (List.Perm.of_eq (by rw [← e1, ← e2] : (a.toList.take na ++ a.toList.drop na) ++ (b.toList.take nb ++ b.toList.drop nb) = a.toList ++ b.toList))
  rw [List.append_assoc, List.append_assoc]
  refine List.Perm.append_left _ ?_
  rw [← List.append_assoc, ← List.append_assoc]
  exact (List.perm_append_comm).append_right _
theorem LaidH.first {a b out : Array Keyed} {na nb : Nat} (h : LaidH a b out na nb) : Whole a b (b.extract 0 nb ++ a.extract 0 na ++ out.reverse) := by
  have := h.done
  unfold Whole at *
  rw [Array.toList_append, Array.toList_append] at *
  exact ((List.perm_append_comm).append_right _).trans this
def Hi (a b out : Array Keyed) (na nb t : Nat) : Prop := 1 ≤ na ∧ na ≤ a.size ∧ 2 ≤ nb ∧ nb ≤ b.size ∧ na + nb + t ≤ a.size + b.size ∧ LaidH a b out na nb
set_option maxHeartbeats 4000000 in
theorem mergeHi_ok {a b : Array Keyed} {st : SortSt} {Q : Array Keyed → SortSt → Prop} (hO : κ.OneLt) (hk : kindOf st = oneType') (ha : KeysOf κ a) (hb : KeysOf κ b) (ha1 : 1 ≤ a.size) (hb1 : 1 ≤ b.size)
    (h : ∀ out st', Whole a b out → Sm st st' → Q out st') : wpS (model prog w) A E s (mergeHiP a b) Q st := by
  refine wpS_bind (wpS_lift (wpAny_rule ⟨rfl, ?_⟩))
  refine wpS_bind (elem_ok (xs := a) (i := a.size - 1) (by omega) ?_)
  have l0 : LaidH a b #[a[a.size - 1]] (a.size - 1) b.size := by
    have : LaidH a b #[] a.size b.size := by
      unfold LaidH
      rw [List.drop_of_length_le (by simp), List.drop_of_length_le (by simp)]
      exact List.Perm.refl _
    exact this.pushA ha1 (by omega)
  refine wpS_if (fun z1 => wpS_pure (h _ _ l0.done (.refl _))) (fun z1 => ?_)
  refine wpS_if (fun z2 => wpS_pure (h _ _ l0.first (.refl _))) (fun z2 => ?_)
  simp only [beq_iff_eq] at z1 z2
  refine wpS_bind (wpS_get ?_)
  refine wpS_bind (wpS_mono (wpS_forRange (I := fun i c st' => c.1 = none ∧ Sm st st' ∧ Hi a b c.2.2.2.1 c.2.1 c.2.2.1 (1 + i)) (Q := fun c st' => Sm st st' ∧ ∃ r, c.1 = some r ∧ Whole a b r) ?_ ?_ ⟨rfl, .refl _, by dsimp only; omega, by dsimp only; omega, by dsimp only; omega, by dsimp only; omega, by dsimp only; omega, l0⟩) ?_)
  · rintro i ⟨r, na, nb, out, mg⟩ st1 _ _ ⟨rfl, s1, p1, p2, p3, p4, p5, p6⟩
    dsimp only at p1 p2 p3 p4 p5 p6
    refine wpS_bind (wpS_mono (wpS_forRange (I := fun j c st' => c.1 = none ∧ Sm st st' ∧ Hi a b c.2.2.2.1 c.2.1 c.2.2.1 (1 + i + j)) (Q := fun c st' => Sm st st' ∧ ((∃ r, c.1 = some r ∧ Whole a b r) ∨ (c.1 = none ∧ Hi a b c.2.2.2.1 c.2.1 c.2.2.1 (1 + i + 1)))) ?_ ?_ ⟨rfl, s1, p1, p2, p3, p4, p5, p6⟩) ?_)
    · rintro j ⟨r, na, nb, out, ac, bc⟩ st4 _ _ ⟨rfl, s4, q1, q2, q3, q4, q5, q6⟩
      dsimp only at q1 q2 q3 q4 q5 q6
      obtain ⟨ka, hka⟩ := key_at ha (i := na - 1) (by omega)
      obtain ⟨kb, hkb⟩ := key_at hb (i := nb - 1) (by omega)
      refine wpS_bind (elem_ok (xs := b) (i := nb - 1) (by omega) (wpS_bind (elem_ok (xs := a) (i := na - 1) (by omega) (wpS_bind (lt_ok hO (s4.1.trans hk) hkb hka fun c => ?_)))))
      refine wpS_if (fun _ => ?_) (fun _ => ?_)
      · refine wpS_bind (elem_ok (xs := a) (i := na - 1) (by omega) ?_)
        have t7 := q6.pushA (by omega) (by omega)
        refine wpS_if (fun y6 => wpS_pure ⟨s4, .inl ⟨_, rfl, t7.done⟩⟩) (fun y6 => ?_)
        dsimp only at y6
        simp only [beq_iff_eq] at y6
        refine wpS_if (fun _ => ?_) (fun _ => ?_)
        · exact wpS_pure ⟨s4, .inr ⟨rfl, by dsimp only; omega, by dsimp only; omega, by dsimp only; omega, by dsimp only; omega, by dsimp only; omega, t7⟩⟩
        · exact wpS_pure ⟨rfl, s4, by dsimp only; omega, by dsimp only; omega, by dsimp only; omega, by dsimp only; omega, by dsimp only; omega, t7⟩
      · refine wpS_bind (elem_ok (xs := b) (i := nb - 1) (by omega) ?_)
        have t7 := q6.pushB (by omega) (by omega)
        refine wpS_if (fun y6 => wpS_pure ⟨s4, .inl ⟨_, rfl, t7.first⟩⟩) (fun y6 => ?_)
        dsimp only at y6
        simp only [beq_iff_eq] at y6
        refine wpS_if (fun _ => ?_) (fun _ => ?_)
        · exact wpS_pure ⟨s4, .inr ⟨rfl, by dsimp only; omega, by dsimp only; omega, by dsimp only; omega, by dsimp only; omega, by dsimp only; omega, t7⟩⟩
        · exact wpS_pure ⟨rfl, s4, by dsimp only; omega, by dsimp only; omega, by dsimp only; omega, by dsimp only; omega, by dsimp only; omega, t7⟩
    · rintro ⟨r, na, nb, out, ac, bc⟩ st2 ⟨rfl, s2, q1, q2, q3, q4, q5, q6⟩
      dsimp only at q1 q2 q3 q4 q5
      omega
    · rintro ⟨r, na, nb, out, ac, bc⟩ st2 ⟨s2, ⟨r', e, hr⟩ | ⟨e, q1, q2, q3, q4, q5, q6⟩⟩
      · dsimp only at e
        subst e
        exact wpS_pure ⟨s2, _, rfl, hr⟩
      dsimp only at e q1 q2 q3 q4 q5 q6
      subst e
      refine wpS_bind (wpS_lift (wpAny_rule ⟨rfl, ?_⟩))
      refine wpS_bind (wpS_mono (wpS_forRange (I := fun j c st' => c.1 = none ∧ Sm st st' ∧ Hi a b c.2.2.2.1 c.2.1 c.2.2.1 (1 + i + 1 + j)) (Q := fun c st' => Sm st st' ∧ ((∃ r, c.1 = some r ∧ Whole a b r) ∨ (c.1 = none ∧ Hi a b c.2.2.2.1 c.2.1 c.2.2.1 (1 + i + 1)))) ?_ ?_ ⟨rfl, s2, q1, q2, q3, q4, q5, q6⟩) ?_)
      · rintro j ⟨r, na, nb, out, mg2, ac, bc⟩ st3 _ _ ⟨rfl, s3, q1, q2, q3, q4, q5, q6⟩
        dsimp only at q1 q2 q3 q4 q5 q6
        refine wpS_if (fun _ => ?_) (fun _ => ?_)
        all_goals
          refine wpS_bind (gal_ok fun st4 z4 => ?_)
          have s4 := s3.trans z4
          refine wpS_bind (elem_ok (xs := b) (i := nb - 1) (by omega) ?_)
          refine wpS_bind (gallop_ok (arr := a) (base := 0) (n := na) (hint := na - 1) hO (s4.1.trans hk) (key_at (i := nb - 1) hb (by omega)) ha (by omega) (by omega) fun k hkn => ?_)
          refine wpS_if (fun y0 => ?_) (fun y0 => ?_)
          · have t4 := q6.moreA hkn
            refine wpS_if (fun y1 => wpS_pure ⟨s4, .inl ⟨_, rfl, t4.done⟩⟩) (fun y1 => ?_)
            simp only [beq_iff_eq] at y1
            refine wpS_bind (elem_ok (xs := b) (i := nb - 1) (by omega) ?_)
            have t5 := t4.pushB (by omega) (by omega)
            refine wpS_if (fun y3 => wpS_pure ⟨s4, .inl ⟨_, rfl, t5.first⟩⟩) (fun y3 => ?_)
            try dsimp only at y3
            simp only [beq_iff_eq] at y3
            refine wpS_bind (elem_ok (xs := a) (i := k - 1) (by omega) ?_)
            refine wpS_bind (gallop_ok (arr := b) (base := 0) (n := nb - 1) (hint := nb - 1 - 1) hO (s4.1.trans hk) (key_at (i := k - 1) ha (by omega)) hb (by omega) (by omega) fun k2 hk2 => ?_)
            refine wpS_if (fun y4 => ?_) (fun y4 => ?_)
            · have t6 := t5.moreB hk2 (by omega)
              refine wpS_if (fun y5 => wpS_pure ⟨s4, .inl ⟨_, rfl, t6.first⟩⟩) (fun y5 => ?_)
              refine wpS_if (fun y7 => wpS_pure ⟨s4, .inl ⟨_, rfl, t6.done⟩⟩) (fun y7 => ?_)
              simp only [beq_iff_eq] at y5 y7
              refine wpS_bind (elem_ok (xs := a) (i := k - 1) (by omega) ?_)
              have t7 := t6.pushA (by omega) (by omega)
              refine wpS_if (fun y6 => wpS_pure ⟨s4, .inl ⟨_, rfl, t7.done⟩⟩) (fun y6 => ?_)
              try dsimp only at y6
              simp only [beq_iff_eq] at y6
              refine wpS_if (fun _ => ?_) (fun _ => ?_)
              · exact wpS_pure ⟨s4, .inr ⟨rfl, by dsimp only; omega, by dsimp only; omega, by dsimp only; omega, by dsimp only; omega, by dsimp only; omega, t7⟩⟩
              · exact wpS_pure ⟨rfl, s4, by dsimp only; omega, by dsimp only; omega, by dsimp only; omega, by dsimp only; omega, by dsimp only; omega, t7⟩
            ·
              refine wpS_bind (elem_ok (xs := a) (i := k - 1) (by omega) ?_)
              have t7 := t5.pushA (by omega) (by omega)
              refine wpS_if (fun y6 => wpS_pure ⟨s4, .inl ⟨_, rfl, t7.done⟩⟩) (fun y6 => ?_)
              try dsimp only at y6
              simp only [beq_iff_eq] at y6
              refine wpS_if (fun _ => ?_) (fun _ => ?_)
              · exact wpS_pure ⟨s4, .inr ⟨rfl, by dsimp only; omega, by dsimp only; omega, by dsimp only; omega, by dsimp only; omega, by dsimp only; omega, t7⟩⟩
              · exact wpS_pure ⟨rfl, s4, by dsimp only; omega, by dsimp only; omega, by dsimp only; omega, by dsimp only; omega, by dsimp only; omega, t7⟩
          ·
            refine wpS_bind (elem_ok (xs := b) (i := nb - 1) (by omega) ?_)
            have t5 := q6.pushB (by omega) (by omega)
            refine wpS_if (fun y3 => wpS_pure ⟨s4, .inl ⟨_, rfl, t5.first⟩⟩) (fun y3 => ?_)
            try dsimp only at y3
            simp only [beq_iff_eq] at y3
            refine wpS_bind (elem_ok (xs := a) (i := na - 1) (by omega) ?_)
            refine wpS_bind (gallop_ok (arr := b) (base := 0) (n := nb - 1) (hint := nb - 1 - 1) hO (s4.1.trans hk) (key_at (i := na - 1) ha (by omega)) hb (by omega) (by omega) fun k2 hk2 => ?_)
            refine wpS_if (fun y4 => ?_) (fun y4 => ?_)
            · have t6 := t5.moreB hk2 (by omega)
              refine wpS_if (fun y5 => wpS_pure ⟨s4, .inl ⟨_, rfl, t6.first⟩⟩) (fun y5 => ?_)
              refine wpS_if (fun y7 => wpS_pure ⟨s4, .inl ⟨_, rfl, t6.done⟩⟩) (fun y7 => ?_)
              simp only [beq_iff_eq] at y5 y7
              refine wpS_bind (elem_ok (xs := a) (i := na - 1) (by omega) ?_)
              have t7 := t6.pushA (by omega) (by omega)
              refine wpS_if (fun y6 => wpS_pure ⟨s4, .inl ⟨_, rfl, t7.done⟩⟩) (fun y6 => ?_)
              try dsimp only at y6
              simp only [beq_iff_eq] at y6
              refine wpS_if (fun _ => ?_) (fun _ => ?_)
              · exact wpS_pure ⟨s4, .inr ⟨rfl, by dsimp only; omega, by dsimp only; omega, by dsimp only; omega, by dsimp only; omega, by dsimp only; omega, t7⟩⟩
              · exact wpS_pure ⟨rfl, s4, by dsimp only; omega, by dsimp only; omega, by dsimp only; omega, by dsimp only; omega, by dsimp only; omega, t7⟩
            ·
              refine wpS_bind (elem_ok (xs := a) (i := na - 1) (by omega) ?_)
              have t7 := t5.pushA (by omega) (by omega)
              refine wpS_if (fun y6 => wpS_pure ⟨s4, .inl ⟨_, rfl, t7.done⟩⟩) (fun y6 => ?_)
              try dsimp only at y6
              simp only [beq_iff_eq] at y6
              refine wpS_if (fun _ => ?_) (fun _ => ?_)
              · exact wpS_pure ⟨s4, .inr ⟨rfl, by dsimp only; omega, by dsimp only; omega, by dsimp only; omega, by dsimp only; omega, by dsimp only; omega, t7⟩⟩
              · exact wpS_pure ⟨rfl, s4, by dsimp only; omega, by dsimp only; omega, by dsimp only; omega, by dsimp only; omega, by dsimp only; omega, t7⟩
      · rintro ⟨r, na, nb, out, mg2, ac, bc⟩ st3 ⟨rfl, s3, q1, q2, q3, q4, q5, q6⟩
        dsimp only at q1 q2 q3 q4 q5
        omega
      · rintro ⟨r, na, nb, out, mg2, ac, bc⟩ st3 ⟨s3, ⟨r', e, hr⟩ | ⟨e, q1, q2, q3, q4, q5, q6⟩⟩
        · dsimp only at e
          subst e
          exact wpS_pure ⟨s3, _, rfl, hr⟩
        dsimp only at e q1 q2 q3 q4 q5 q6
        subst e
        exact wpS_bind (gal_ok fun st4 z4 => wpS_pure ⟨rfl, s3.trans z4, q1, q2, q3, q4, by dsimp only; omega, q6⟩)
  · rintro ⟨r, na, nb, out, mg⟩ st1 ⟨rfl, s1, p1, p2, p3, p4, p5, p6⟩
    dsimp only at p1 p2 p3 p4 p5
    omega
  · rintro ⟨r, na, nb, out, mg⟩ st1 ⟨s1, r', e, hr⟩
    dsimp only at e
    subst e
    exact wpS_pure (h _ _ hr s1)
def SW (a₀ : Array Keyed) (st : SortSt) : Prop := kindOf st = oneType' ∧ failedOf st = none ∧ (arrOf st).toList.Perm a₀.toList
theorem SW.size {a₀ : Array Keyed} {st : SortSt} (h : SW a₀ st) : (arrOf st).size = a₀.size := by
  have := h.2.2.length_eq
  simpa using this
theorem SW.keys {a₀ : Array Keyed} {st : SortSt} (h : SW a₀ st) (k : KeysOf κ a₀) : KeysOf κ (arrOf st) := fun p hp => k p (h.2.2.mem_iff.mp hp)
theorem ltAt_ok {a₀ : Array Keyed} {i j : Nat} {st : SortSt} {Q : Option Bool → SortSt → Prop} (hO : κ.OneLt) (h0 : KeysOf κ a₀) (hW : SW a₀ st) (hi : i < a₀.size) (hj : j < a₀.size) (h : ∀ c, Q (some c) st) : wpS (model prog w) A E s (ltAt' i j) Q st := by
  have hi' : i < (arrOf st).size := by rw [hW.size]; exact hi
  have hj' : j < (arrOf st).size := by rw [hW.size]; exact hj
  obtain ⟨a, ha⟩ := key_at (hW.keys h0) hi'
  obtain ⟨b, hb⟩ := key_at (hW.keys h0) hj'
  rw [ltAt'_eq]
  refine wpS_bind (wpS_get (wpS_bind (elem_ok hi' (wpS_bind (elem_ok hj' (lt_ok hO hW.1 ha hb h))))))
theorem rev_ok {a₀ : Array Keyed} {i j : Nat} {st : SortSt} {Q : Unit → SortSt → Prop} (hW : SW a₀ st) (h : ∀ st', SW a₀ st' → pendingOf st' = pendingOf st → Q () st') : wpS (model prog w) A E s (reverseSlice' i j) Q st := by
  rw [reverseSlice'_eq]
  exact wpS_modify (h _ ⟨hW.1, hW.2.1, (Array.perm_iff_toList_perm.mp (mirror_perm _ _ _ _)).trans hW.2.2⟩ rfl)
theorem down_ok {a₀ : Array Keyed} {i j : Nat} {st : SortSt} {Q : Unit → SortSt → Prop} (hW : SW a₀ st) (h : ∀ st', SW a₀ st' → pendingOf st' = pendingOf st → Q () st') : wpS (model prog w) A E s (moveDown' i j) Q st := by
  rw [moveDown'_eq]
  exact wpS_modify (h _ ⟨hW.1, hW.2.1, (Array.perm_iff_toList_perm.mp (bubble_perm _ _ _)).trans hW.2.2⟩ rfl)
theorem binary_ok {a₀ : Array Keyed} {lo n ok : Nat} {st : SortSt} {Q : Bool → SortSt → Prop} (hO : κ.OneLt) (h0 : KeysOf κ a₀) (hW : SW a₀ st) (hn : lo + n ≤ a₀.size) (h : ∀ st', SW a₀ st' → pendingOf st' = pendingOf st → Q true st') : wpS (model prog w) A E s (binarySort' lo n ok) Q st := by
  refine wpS_bind (wpS_mono (wpS_forRange (I := fun _ c st' => c.1 = none ∧ SW a₀ st' ∧ pendingOf st' = pendingOf st) (Q := fun c st' => c.1 = none ∧ SW a₀ st' ∧ pendingOf st' = pendingOf st) ?_ (fun _ _ z => z) ⟨rfl, hW, rfl⟩) ?_)
  · rintro k ⟨r, u⟩ st1 _ hkn ⟨rfl, w1, e1⟩
    refine wpS_bind (wpS_mono (wpS_forRange (I := fun _ c st' => c.1 = none ∧ c.2.2 ≤ k ∧ st' = st1) (Q := fun c st' => c.1 = none ∧ c.2.2 ≤ k ∧ st' = st1) ?_ (fun _ _ z => z) ⟨rfl, Nat.le_refl _, rfl⟩) ?_)
    · rintro i ⟨r, l, rr⟩ st2 _ _ ⟨rfl, hr, rfl⟩
      dsimp only at hr
      refine wpS_if (fun y => wpS_pure ⟨rfl, hr, rfl⟩) (fun y => ?_)
      dsimp only at y
      refine wpS_bind (ltAt_ok (i := lo + k) (j := lo + (l + rr) / 2) hO h0 w1 (by omega) (by omega) fun c => ?_)
      refine wpS_if (fun _ => wpS_pure ⟨rfl, (by dsimp only; omega), rfl⟩) (fun _ => wpS_pure ⟨rfl, hr, rfl⟩)
    · rintro ⟨r, l, rr⟩ st2 ⟨rfl, hr, rfl⟩
      exact wpS_bind (down_ok w1 fun st3 w3 e3 => wpS_pure ⟨rfl, w3, e3.trans e1⟩)
  · rintro ⟨r, u⟩ st1 ⟨rfl, w1, e1⟩
    exact wpS_pure (h _ w1 e1)
theorem count_ok {a₀ : Array Keyed} {lo nrem : Nat} {st : SortSt} {Q : Option Nat → SortSt → Prop} (hO : κ.OneLt) (h0 : KeysOf κ a₀) (hW : SW a₀ st) (hn : lo + nrem ≤ a₀.size) (h1 : 1 ≤ nrem) (h : ∀ n st', SW a₀ st' → pendingOf st' = pendingOf st → 1 ≤ n → n ≤ nrem → Q (some n) st') :
    wpS (model prog w) A E s (countRun' lo nrem) Q st := by
  refine wpS_bind (wpS_mono (wpS_forRange (I := fun i c st' => c.1 = none ∧ c.2 = i ∧ st' = st) (Q := fun c st' => c.1 = none ∧ 1 ≤ c.2 ∧ c.2 ≤ nrem ∧ st' = st) ?_ ?_ ⟨rfl, rfl, rfl⟩) ?_)
  · rintro i ⟨r, n⟩ st1 h1i hi ⟨rfl, rfl, rfl⟩
    refine wpS_bind (ltAt_ok (i := lo + n) (j := lo + n - 1) hO h0 hW (by dsimp only at hi; omega) (by dsimp only at hi; omega) fun c => ?_)
    dsimp only at hi h1i
    exact wpS_if (fun _ => wpS_pure ⟨rfl, h1i, Nat.le_of_lt hi, rfl⟩) (fun _ => wpS_pure ⟨rfl, rfl, rfl⟩)
  · rintro ⟨r, n⟩ st1 ⟨rfl, e, rfl⟩
    dsimp only at e
    exact ⟨rfl, by dsimp only; omega, by dsimp only; omega, rfl⟩
  rintro ⟨r, n⟩ st1 ⟨rfl, n1, n2, rfl⟩
  dsimp only at n1 n2
  refine wpS_if (fun y => wpS_pure (h _ _ hW rfl n1 n2)) (fun y => ?_)
  dsimp only at y
  simp only [beq_iff_eq] at y
  refine wpS_if (fun _ => ?_) (fun _ => ?_)
  · refine wpS_bind (ltAt_ok (i := lo) (j := lo + n - 1) hO h0 hW (by omega) (by omega) fun c => ?_)
    refine wpS_if (fun _ => wpS_pure (h _ _ hW rfl n1 n2)) (fun _ => ?_)
    refine wpS_bind (rev_ok hW fun st2 w2 e2 => ?_)
    refine wpS_bind (wpS_lift (wpAny_rule ⟨rfl, ?_⟩))
    refine wpS_bind (wpS_mono (wpS_forRange (I := fun i c st' => c.1 = none ∧ c.2.1 = i ∧ SW a₀ st' ∧ pendingOf st' = pendingOf st1) (Q := fun c st' => c.1 = none ∧ 1 ≤ c.2.1 ∧ c.2.1 ≤ nrem ∧ SW a₀ st' ∧ pendingOf st' = pendingOf st1) ?_ ?_ ⟨rfl, rfl, w2, e2⟩) ?_)
    · rintro i ⟨r, m, neq⟩ st3 hi1 hi2 ⟨rfl, rfl, w3, e3⟩
      dsimp only at hi1 hi2
      refine wpS_bind (ltAt_ok (i := lo + m) (j := lo + m - 1) hO h0 w3 (by omega) (by omega) fun c => ?_)
      refine wpS_if (fun _ => ?_) (fun _ => ?_)
      · refine wpS_if (fun _ => ?_) (fun _ => ?_)
        · exact wpS_bind (rev_ok w3 fun st4 w4 e4 => wpS_pure ⟨rfl, rfl, w4, e4.trans e3⟩)
        · exact wpS_pure ⟨rfl, rfl, w3, e3⟩
      · refine wpS_bind (ltAt_ok (i := lo + m - 1) (j := lo + m) hO h0 w3 (by omega) (by omega) fun c2 => ?_)
        exact wpS_if (fun _ => wpS_pure ⟨rfl, (by dsimp only; omega), Nat.le_of_lt hi2, w3, e3⟩) (fun _ => wpS_pure ⟨rfl, rfl, w3, e3⟩)
    · rintro ⟨r, m, neq⟩ st3 ⟨rfl, e, w3, e3⟩
      dsimp only at e
      exact ⟨rfl, by dsimp only; omega, by dsimp only; omega, w3, e3⟩
    · rintro ⟨r, m, neq⟩ st3 ⟨rfl, m1, m2, w3, e3⟩
      dsimp only at m1 m2
      refine wpS_if (fun _ => ?_) (fun _ => ?_)
      · refine wpS_bind (rev_ok w3 fun st4 w4 e4 => ?_)
        refine wpS_bind (rev_ok w4 fun st5 w5 e5 => ?_)
        refine wpS_bind (wpS_mono (wpS_forRange (I := fun i c st' => c.1 = none ∧ c.2 = i ∧ st' = st5) (Q := fun c st' => c.1 = none ∧ 1 ≤ c.2 ∧ c.2 ≤ nrem ∧ st' = st5) ?_ ?_ ⟨rfl, rfl, rfl⟩) ?_)
        · rintro i ⟨r, q⟩ st6 hi1 hi2 ⟨rfl, rfl, rfl⟩
          dsimp only at hi1 hi2
          refine wpS_bind (ltAt_ok (i := lo + q) (j := lo + q - 1) hO h0 w5 (by omega) (by omega) fun c => ?_)
          exact wpS_if (fun _ => wpS_pure ⟨rfl, (by dsimp only; omega), Nat.le_of_lt hi2, rfl⟩) (fun _ => wpS_pure ⟨rfl, rfl, rfl⟩)
        · rintro ⟨r, q⟩ st6 ⟨rfl, e, rfl⟩
          dsimp only at e
          exact ⟨rfl, by dsimp only; omega, by dsimp only; omega, rfl⟩
        · rintro ⟨r, q⟩ st6 ⟨rfl, b1, b2, rfl⟩
          exact wpS_pure (h _ _ w5 (e5.trans (e4.trans e3)) b1 b2)
      ·
        refine wpS_bind (rev_ok w3 fun st5 w5 e5 => ?_)
        refine wpS_bind (wpS_mono (wpS_forRange (I := fun i c st' => c.1 = none ∧ c.2 = i ∧ st' = st5) (Q := fun c st' => c.1 = none ∧ 1 ≤ c.2 ∧ c.2 ≤ nrem ∧ st' = st5) ?_ ?_ ⟨rfl, rfl, rfl⟩) ?_)
        · rintro i ⟨r, q⟩ st6 hi1 hi2 ⟨rfl, rfl, rfl⟩
          dsimp only at hi1 hi2
          refine wpS_bind (ltAt_ok (i := lo + q) (j := lo + q - 1) hO h0 w5 (by omega) (by omega) fun c => ?_)
          exact wpS_if (fun _ => wpS_pure ⟨rfl, (by dsimp only; omega), Nat.le_of_lt hi2, rfl⟩) (fun _ => wpS_pure ⟨rfl, rfl, rfl⟩)
        · rintro ⟨r, q⟩ st6 ⟨rfl, e, rfl⟩
          dsimp only at e
          exact ⟨rfl, by dsimp only; omega, by dsimp only; omega, rfl⟩
        · rintro ⟨r, q⟩ st6 ⟨rfl, b1, b2, rfl⟩
          exact wpS_pure (h _ _ w5 (e5.trans e3) b1 b2)
  ·
    refine wpS_bind (wpS_lift (wpAny_rule ⟨rfl, ?_⟩))
    refine wpS_bind (wpS_mono (wpS_forRange (I := fun i c st' => c.1 = none ∧ c.2.1 = i ∧ SW a₀ st' ∧ pendingOf st' = pendingOf st1) (Q := fun c st' => c.1 = none ∧ 1 ≤ c.2.1 ∧ c.2.1 ≤ nrem ∧ SW a₀ st' ∧ pendingOf st' = pendingOf st1) ?_ ?_ ⟨rfl, rfl, hW, rfl⟩) ?_)
    · rintro i ⟨r, m, neq⟩ st3 hi1 hi2 ⟨rfl, rfl, w3, e3⟩
      dsimp only at hi1 hi2
      refine wpS_bind (ltAt_ok (i := lo + m) (j := lo + m - 1) hO h0 w3 (by omega) (by omega) fun c => ?_)
      refine wpS_if (fun _ => ?_) (fun _ => ?_)
      · refine wpS_if (fun _ => ?_) (fun _ => ?_)
        · exact wpS_bind (rev_ok w3 fun st4 w4 e4 => wpS_pure ⟨rfl, rfl, w4, e4.trans e3⟩)
        · exact wpS_pure ⟨rfl, rfl, w3, e3⟩
      · refine wpS_bind (ltAt_ok (i := lo + m - 1) (j := lo + m) hO h0 w3 (by omega) (by omega) fun c2 => ?_)
        exact wpS_if (fun _ => wpS_pure ⟨rfl, (by dsimp only; omega), Nat.le_of_lt hi2, w3, e3⟩) (fun _ => wpS_pure ⟨rfl, rfl, w3, e3⟩)
    · rintro ⟨r, m, neq⟩ st3 ⟨rfl, e, w3, e3⟩
      dsimp only at e
      exact ⟨rfl, by dsimp only; omega, by dsimp only; omega, w3, e3⟩
    · rintro ⟨r, m, neq⟩ st3 ⟨rfl, m1, m2, w3, e3⟩
      dsimp only at m1 m2
      refine wpS_if (fun _ => ?_) (fun _ => ?_)
      · refine wpS_bind (rev_ok w3 fun st4 w4 e4 => ?_)
        refine wpS_bind (rev_ok w4 fun st5 w5 e5 => ?_)
        refine wpS_bind (wpS_mono (wpS_forRange (I := fun i c st' => c.1 = none ∧ c.2 = i ∧ st' = st5) (Q := fun c st' => c.1 = none ∧ 1 ≤ c.2 ∧ c.2 ≤ nrem ∧ st' = st5) ?_ ?_ ⟨rfl, rfl, rfl⟩) ?_)
        · rintro i ⟨r, q⟩ st6 hi1 hi2 ⟨rfl, rfl, rfl⟩
          dsimp only at hi1 hi2
          refine wpS_bind (ltAt_ok (i := lo + q) (j := lo + q - 1) hO h0 w5 (by omega) (by omega) fun c => ?_)
          exact wpS_if (fun _ => wpS_pure ⟨rfl, (by dsimp only; omega), Nat.le_of_lt hi2, rfl⟩) (fun _ => wpS_pure ⟨rfl, rfl, rfl⟩)
        · rintro ⟨r, q⟩ st6 ⟨rfl, e, rfl⟩
          dsimp only at e
          exact ⟨rfl, by dsimp only; omega, by dsimp only; omega, rfl⟩
        · rintro ⟨r, q⟩ st6 ⟨rfl, b1, b2, rfl⟩
          exact wpS_pure (h _ _ w5 (e5.trans (e4.trans e3)) b1 b2)
      ·
        refine wpS_bind (rev_ok w3 fun st5 w5 e5 => ?_)
        refine wpS_bind (wpS_mono (wpS_forRange (I := fun i c st' => c.1 = none ∧ c.2 = i ∧ st' = st5) (Q := fun c st' => c.1 = none ∧ 1 ≤ c.2 ∧ c.2 ≤ nrem ∧ st' = st5) ?_ ?_ ⟨rfl, rfl, rfl⟩) ?_)
        · rintro i ⟨r, q⟩ st6 hi1 hi2 ⟨rfl, rfl, rfl⟩
          dsimp only at hi1 hi2
          refine wpS_bind (ltAt_ok (i := lo + q) (j := lo + q - 1) hO h0 w5 (by omega) (by omega) fun c => ?_)
          exact wpS_if (fun _ => wpS_pure ⟨rfl, (by dsimp only; omega), Nat.le_of_lt hi2, rfl⟩) (fun _ => wpS_pure ⟨rfl, rfl, rfl⟩)
        · rintro ⟨r, q⟩ st6 ⟨rfl, e, rfl⟩
          dsimp only at e
          exact ⟨rfl, by dsimp only; omega, by dsimp only; omega, rfl⟩
        · rintro ⟨r, q⟩ st6 ⟨rfl, b1, b2, rfl⟩
          exact wpS_pure (h _ _ w5 (e5.trans e3) b1 b2)
theorem over_ok {sa : Nat} : ∀ (l : List Keyed) (k : Nat) (a : Array Keyed), sa + k + l.length ≤ a.size → ((l.zipIdx k).foldl (fun a (p, j) => a.setIfInBounds (sa + j) p) a).toList = a.toList.take (sa + k) ++ l ++ a.toList.drop (sa + k + l.length)
  | [], k, a, _ => by simp
  | p :: r, k, a, h => by
    rw [List.length_cons] at h
    rw [List.zipIdx_cons, List.foldl_cons]
    have ih := over_ok (sa := sa) r (k + 1) (a.setIfInBounds (sa + k) p) (by rw [Array.size_setIfInBounds]; omega)
    rw [ih, Array.toList_setIfInBounds]
    have hlt : sa + k < a.toList.length := by simp; omega
    rw [List.take_set, List.drop_set_of_lt (by omega), show sa + (k + 1) = sa + k + 1 by omega, List.take_add_one, List.getElem?_eq_getElem hlt, List.length_cons, show sa + k + 1 + r.length = sa + k + (r.length + 1) by omega]
    have hmin : min (sa + k) a.size = sa + k := Nat.min_eq_left (by omega)
    simp [List.set_append, hmin]
theorem part_perm {l m : List Keyed} {i j : Nat} (hij : i ≤ j) (hj : j ≤ l.length) (h : m.Perm ((l.drop i).take (j - i))) : (l.take i ++ m ++ l.drop (i + m.length)).Perm l := by
  have hl : m.length = j - i := by
    rw [h.length_eq, List.length_take, List.length_drop]
    omega
  rw [hl, show i + (j - i) = j by omega]
  have e := cut_back l hij
  have e2 : l = l.take i ++ ((l.drop i).take (j - i) ++ l.drop j) := by rw [← e, List.take_append_drop]
  refine List.Perm.trans ?_ (List.Perm.of_eq e2.symm)
  rw [List.append_assoc]
  exact List.Perm.append_left _ (h.append_right _)
theorem set_ok {x st : SortSt} {Q : PUnit → SortSt → Prop} (h : Q ⟨⟩ x) : wpS (model prog w) A E s (set x : StateT SortSt Sem PUnit) Q st := by
  unfold wpS
  rw [StateT.run_set]
  exact wpAny_pure ⟨rfl, h⟩
theorem fin_ok {st : SortSt} {Q : Bool → SortSt → Prop} (hf : failedOf st = none) {st' : SortSt} (h : Q true st') : wpS (model prog w) A E s (pure (failedOf st).isNone : StateT SortSt Sem Bool) Q st' := by
  rw [hf]
  exact wpS_pure h
theorem mergeAt_ok {a₀ : Array Keyed} {n1 n2 p1 p2 : Nat} {st : SortSt} {Q : Bool → SortSt → Prop} (hO : κ.OneLt) (h0 : KeysOf κ a₀) (hW : SW a₀ st) (hp : pendingOf st = #[(0, n1, p1), (n1, n2, p2)]) (hn : n1 + n2 = a₀.size) (hn1 : 1 ≤ n1) (hn2 : 1 ≤ n2)
    (h : ∀ st', SW a₀ st' → (pendingOf st').size = 1 → Q true st') : wpS (model prog w) A E s (mergeAt' 0) Q st := by
  have e0 : ((sortPriv% PySem.Builtin.SortState.pending) st)[0]? = some (0, n1, p1) := by
    show (pendingOf st)[0]? = _
    rw [hp]
    rfl
  have e1 : ((sortPriv% PySem.Builtin.SortState.pending) st)[0 + 1]? = some (n1, n2, p2) := by
    show (pendingOf st)[0 + 1]? = _
    rw [hp]
    rfl
  have hsz := hW.size
  have hK := hW.keys h0
  have exk : ∀ i j, KeysOf κ ((arrOf st).extract i j) := fun i j p hp => hK p (by
    rw [Array.toList_extract, ex_list] at hp
    exact List.mem_of_mem_drop (List.mem_of_mem_take hp))
  refine wpS_bind (wpS_get ?_)
  rw [e0, e1]
  refine wpS_bind (set_ok ?_)
  have psz : (((pendingOf st).setIfInBounds 0 (0, n1 + n2, p1)).eraseIdxIfInBounds (0 + 1)).size = 1 := by
    rw [hp]
    simp [Array.eraseIdxIfInBounds]
  refine wpS_bind (elem_ok (xs := arrOf st) (i := n1) (by omega) ?_)
  refine wpS_bind (gallop_ok (arr := arrOf st) (base := 0) (n := n1) (hint := 0) hO hW.1 (key_at hK (by omega)) hK (by omega) (by omega) fun k hk => ?_)
  refine wpS_if (fun _ => wpS_pure (h _ hW psz)) (fun y => ?_)
  simp only [beq_iff_eq] at y
  refine wpS_bind (elem_ok (xs := arrOf st) (i := 0 + k + (n1 - k) - 1) (by omega) ?_)
  refine wpS_bind (gallop_ok (arr := arrOf st) (base := n1) (n := n2) (hint := n2 - 1) hO hW.1 (key_at hK (by omega)) hK (by omega) (by omega) fun m hm => ?_)
  refine wpS_if (fun _ => wpS_pure (h _ hW psz)) (fun y2 => ?_)
  simp only [beq_iff_eq] at y2
  have joined : ((arrOf st).extract (0 + k) n1).toList ++ ((arrOf st).extract n1 (n1 + m)).toList = ((arrOf st).toList.drop (0 + k)).take (n1 + m - (0 + k)) := by
    rw [Array.toList_extract, Array.toList_extract, ex_list, ex_list, show n1 + m - (0 + k) = (n1 - (0 + k)) + (n1 + m - n1) by omega, List.take_add, List.drop_drop, show 0 + k + (n1 - (0 + k)) = n1 by omega]
  refine wpS_if (fun _ => ?_) (fun _ => ?_)
  · refine wpS_bind (mergeLo_ok (a := (arrOf st).extract (0 + k) n1) (b := (arrOf st).extract n1 (n1 + m)) hO hW.1 (exk _ _) (exk _ _) (by rw [Array.size_extract]; omega) (by rw [Array.size_extract]; omega) fun out st2 hw hs => ?_)
    have hl : out.toList.Perm (((arrOf st).toList.drop (0 + k)).take (n1 + m - (0 + k))) := hw.trans (List.Perm.of_eq joined)
    have hlen : out.toList.length = n1 + m - k := by
      rw [hl.length_eq, List.length_take, List.length_drop]
      simp only [Array.length_toList, hW.size]
      omega
    have fs : failedOf st2 = none := hs.2.2.2.trans hW.2.1
    refine wpS_bind (wpS_modify (wpS_bind (wpS_get ?_)))
    refine fin_ok fs (h _ ⟨hs.1.trans hW.1, fs, ?_⟩ ?_)
    · have ea : arrOf st2 = arrOf st := hs.2.1
      show (List.foldl (fun a (x : Keyed × Nat) => match x with | (p, j) => a.setIfInBounds (0 + k + j) p) (arrOf st2) out.toList.zipIdx).toList.Perm a₀.toList
      rw [ea, over_ok (sa := 0 + k) out.toList 0 (arrOf st) (by rw [hlen, hW.size]; omega)]
      refine List.Perm.trans ?_ hW.2.2
      exact part_perm (i := 0 + k) (j := n1 + m) (by omega) (by simp only [Array.length_toList, hW.size]; omega) hl
    · show (pendingOf st2).size = 1
      rw [hs.2.2.1]
      exact psz
  · refine wpS_bind (mergeHi_ok (a := (arrOf st).extract (0 + k) n1) (b := (arrOf st).extract n1 (n1 + m)) hO hW.1 (exk _ _) (exk _ _) (by rw [Array.size_extract]; omega) (by rw [Array.size_extract]; omega) fun out st2 hw hs => ?_)
    have hl : out.toList.Perm (((arrOf st).toList.drop (0 + k)).take (n1 + m - (0 + k))) := hw.trans (List.Perm.of_eq joined)
    have hlen : out.toList.length = n1 + m - k := by
      rw [hl.length_eq, List.length_take, List.length_drop]
      simp only [Array.length_toList, hW.size]
      omega
    have fs : failedOf st2 = none := hs.2.2.2.trans hW.2.1
    refine wpS_bind (wpS_modify (wpS_bind (wpS_get ?_)))
    refine fin_ok fs (h _ ⟨hs.1.trans hW.1, fs, ?_⟩ ?_)
    · have ea : arrOf st2 = arrOf st := hs.2.1
      show (List.foldl (fun a (x : Keyed × Nat) => match x with | (p, j) => a.setIfInBounds (0 + k + j) p) (arrOf st2) out.toList.zipIdx).toList.Perm a₀.toList
      rw [ea, over_ok (sa := 0 + k) out.toList 0 (arrOf st) (by rw [hlen, hW.size]; omega)]
      refine List.Perm.trans ?_ hW.2.2
      exact part_perm (i := 0 + k) (j := n1 + m) (by omega) (by simp only [Array.length_toList, hW.size]; omega) hl
    · show (pendingOf st2).size = 1
      rw [hs.2.2.1]
      exact psz
theorem minRun_ok {n : Nat} (h2 : 2 ≤ n) (h : n ≤ 65) : minRun' n n 0 ≤ n ∧ n ≤ 2 * minRun' n n 0 := by
  have key : ∀ m, m < 66 → 2 ≤ m → minRun' m m 0 ≤ m ∧ m ≤ 2 * minRun' m m 0 := by decide +kernel
  exact key n (by omega) h2
theorem pend2 {p : Array (Nat × Nat × Nat)} {F : Nat × Nat × Nat → Nat × Nat × Nat} {lo n : Nat} (hp : p = #[(0, lo, 0)]) (hF : ∃ q, F (0, lo, 0) = (0, lo, q)) : ∃ p1, (p.modify (p.size - 1) F).push (lo, n, 0) = #[(0, lo, p1), (lo, n, 0)] := by
  obtain ⟨q, e⟩ := hF
  subst hp
  refine ⟨q, ?_⟩
  have : (#[(0, lo, 0)] : Array (Nat × Nat × Nat)).modify 0 F = #[F (0, lo, 0)] := by simp [Array.modify, Array.modifyM]
  show ((#[(0, lo, 0)] : Array (Nat × Nat × Nat)).modify 0 F).push (lo, n, 0) = _
  rw [this, e]
  rfl
def PF (n : Nat) (p : Array (Nat × Nat × Nat)) : Prop := p.size ≤ 1 ∨ ∃ n1 n2 p1, p = #[(0, n1, p1), (n1, n2, 0)] ∧ n1 + n2 = n ∧ 1 ≤ n1 ∧ 1 ≤ n2
theorem sortRuns_ok {a₀ : Array Keyed} {st : SortSt} {Q : Unit → SortSt → Prop} (hO : κ.OneLt) (h0 : KeysOf κ a₀) (hW : SW a₀ st) (hp : pendingOf st = #[]) (h2 : 2 ≤ a₀.size) (h65 : a₀.size ≤ 65) (h : ∀ st', SW a₀ st' → Q () st') : wpS (model prog w) A E s sortRuns' Q st := by
  have hsz := hW.size
  have hmr := minRun_ok h2 h65
  rw [← hsz] at hmr h2
  refine wpS_bind (wpS_get ?_)
  refine wpS_bind (wpS_mono (wpS_forRange (I := fun i c st' => c.1 = none ∧ SW a₀ st' ∧ ((i = 0 ∧ c.2 = 0 ∧ pendingOf st' = #[]) ∨ (i = 1 ∧ 1 ≤ c.2 ∧ c.2 < (arrOf st).size ∧ minRun' (arrOf st).size (arrOf st).size 0 ≤ c.2 ∧ pendingOf st' = #[(0, c.2, 0)]) ∨ (c.2 = (arrOf st).size ∧ PF (arrOf st).size (pendingOf st')))) (Q := fun c st' => c.1 = none ∧ SW a₀ st' ∧ PF (arrOf st).size (pendingOf st')) ?_ ?_ ⟨rfl, hW, .inl ⟨rfl, rfl, hp⟩⟩) ?_)
  · rintro i ⟨r, lo⟩ st1 _ hi ⟨rfl, w1, ⟨rfl, e0, e1⟩ | ⟨rfl, l1, l2, l3, e1⟩ | ⟨e0, pf⟩⟩
    · dsimp only at e0
      subst e0
      refine wpS_if (fun y => absurd y (by dsimp only; omega)) (fun _ => ?_)
      refine wpS_bind (count_ok (lo := 0) (nrem := (arrOf st).size - 0) hO h0 w1 (by omega) (by omega) fun n st2 w2 e2 n1 n2 => ?_)
      refine wpS_if (fun y => ?_) (fun y => ?_)
      · refine wpS_bind (wpS_lift (wpAny_rule ⟨rfl, ?_⟩))
        refine wpS_bind (binary_ok (lo := 0) (n := min ((arrOf st).size - 0) (minRun' (arrOf st).size (arrOf st).size 0)) (ok := n) hO h0 w2 (by omega) fun st3 w3 e3' => ?_)
        have e3 := e3'.trans e2
        refine wpS_if (fun y => absurd y (by decide)) (fun _ => ?_)
        have b3 : ((sortPriv% PySem.Builtin.SortState.pending) st3).back? = none := by
          show (pendingOf st3).back? = none
          rw [e3, e1]
          rfl
        refine wpS_bind (wpS_get ?_)
        rw [b3]
        refine wpS_bind (wpS_modify (wpS_pure ⟨rfl, w3, ?_⟩))
        have pe : (pendingOf st3).push (0, (min ((arrOf st).size - 0) (minRun' (arrOf st).size (arrOf st).size 0)), 0) = #[(0, (min ((arrOf st).size - 0) (minRun' (arrOf st).size (arrOf st).size 0)), 0)] := by
          rw [e3, e1]
          rfl
        by_cases z : (min ((arrOf st).size - 0) (minRun' (arrOf st).size (arrOf st).size 0)) = (arrOf st).size
        · refine .inr (.inr ⟨?_, .inl ?_⟩)
          · show 0 + (min ((arrOf st).size - 0) (minRun' (arrOf st).size (arrOf st).size 0)) = _
            omega
          · show ((pendingOf st3).push (0, (min ((arrOf st).size - 0) (minRun' (arrOf st).size (arrOf st).size 0)), 0)).size ≤ 1
            rw [pe]
            exact Nat.le_refl 1
        · refine .inr (.inl ⟨rfl, ?_, ?_, ?_, ?_⟩)
          · show 1 ≤ 0 + (min ((arrOf st).size - 0) (minRun' (arrOf st).size (arrOf st).size 0))
            omega
          · show 0 + (min ((arrOf st).size - 0) (minRun' (arrOf st).size (arrOf st).size 0)) < _
            omega
          · show _ ≤ 0 + (min ((arrOf st).size - 0) (minRun' (arrOf st).size (arrOf st).size 0))
            omega
          · show (pendingOf st3).push (0, (min ((arrOf st).size - 0) (minRun' (arrOf st).size (arrOf st).size 0)), 0) = #[(0, 0 + (min ((arrOf st).size - 0) (minRun' (arrOf st).size (arrOf st).size 0)), 0)]
            rw [pe, Nat.zero_add]
      · have w3 := w2
        have e3 := e2
        have y : ¬ n < minRun' (arrOf st).size (arrOf st).size 0 := y
        have b3 : ((sortPriv% PySem.Builtin.SortState.pending) st2).back? = none := by
          show (pendingOf st2).back? = none
          rw [e3, e1]
          rfl
        refine wpS_bind (wpS_get ?_)
        rw [b3]
        refine wpS_bind (wpS_modify (wpS_pure ⟨rfl, w3, ?_⟩))
        have pe : (pendingOf st2).push (0, n, 0) = #[(0, n, 0)] := by
          rw [e3, e1]
          rfl
        by_cases z : n = (arrOf st).size
        · refine .inr (.inr ⟨?_, .inl ?_⟩)
          · show 0 + n = _
            omega
          · show ((pendingOf st2).push (0, n, 0)).size ≤ 1
            rw [pe]
            exact Nat.le_refl 1
        · refine .inr (.inl ⟨rfl, ?_, ?_, ?_, ?_⟩)
          · show 1 ≤ 0 + n
            omega
          · show 0 + n < _
            omega
          · show _ ≤ 0 + n
            omega
          · show (pendingOf st2).push (0, n, 0) = #[(0, 0 + n, 0)]
            rw [pe, Nat.zero_add]
    · dsimp only at l1 l2 l3 e1
      refine wpS_if (fun y => absurd (show lo ≥ (arrOf st).size from y) (by omega)) (fun _ => ?_)
      refine wpS_bind (count_ok (lo := lo) (nrem := (arrOf st).size - lo) hO h0 w1 (by omega) (by omega) fun n st2 w2 e2 n1 n2 => ?_)
      refine wpS_if (fun y => ?_) (fun y => ?_)
      · refine wpS_bind (wpS_lift (wpAny_rule ⟨rfl, ?_⟩))
        refine wpS_bind (binary_ok (lo := lo) (n := min ((arrOf st).size - lo) (minRun' (arrOf st).size (arrOf st).size 0)) (ok := n) hO h0 w2 (by omega) fun st3 w3 e3' => ?_)
        have e3 := e3'.trans e2
        refine wpS_if (fun y => absurd y (by decide)) (fun _ => ?_)
        have b3 : ((sortPriv% PySem.Builtin.SortState.pending) st3).back? = some (0, lo, 0) := by
          show (pendingOf st3).back? = _
          rw [e3, e1]
          rfl
        refine wpS_bind (wpS_get ?_)
        rw [b3]
        refine wpS_bind (wpS_mono (wpS_forRange (I := fun _ c st' => c.1 = none ∧ st' = st3) (Q := fun c st' => c.1 = none ∧ st' = st3) ?_ (fun _ _ z => z) ⟨rfl, rfl⟩) ?_)
        · rintro j ⟨r, u⟩ st4 _ _ ⟨rfl, rfl⟩
          have b4 : ((sortPriv% PySem.Builtin.SortState.pending) st4).size = 1 := by
            show (pendingOf st4).size = 1
            rw [e3, e1]
            rfl
          refine wpS_bind (wpS_get ?_)
          dsimp only
          rw [b4]
          exact wpS_pure ⟨rfl, rfl⟩
        · rintro ⟨r, u⟩ st4 ⟨rfl, rfl⟩
          refine wpS_bind (wpS_modify (wpS_bind (wpS_modify (wpS_pure ⟨rfl, w3, .inr (.inr ⟨?_, .inr ?_⟩)⟩))))
          · show lo + (min ((arrOf st).size - lo) (minRun' (arrOf st).size (arrOf st).size 0)) = _
            omega
          · exact Exists.elim (pend2 (n := (min ((arrOf st).size - lo) (minRun' (arrOf st).size (arrOf st).size 0))) (e3.trans e1) (by exact ⟨_, rfl⟩)) fun p1 ep => ⟨lo, (min ((arrOf st).size - lo) (minRun' (arrOf st).size (arrOf st).size 0)), p1, ep, by omega, by omega, by omega⟩
      · have w3 := w2
        have e3 := e2
        have y : ¬ n < minRun' (arrOf st).size (arrOf st).size 0 := y
        have b3 : ((sortPriv% PySem.Builtin.SortState.pending) st2).back? = some (0, lo, 0) := by
          show (pendingOf st2).back? = _
          rw [e3, e1]
          rfl
        refine wpS_bind (wpS_get ?_)
        rw [b3]
        refine wpS_bind (wpS_mono (wpS_forRange (I := fun _ c st' => c.1 = none ∧ st' = st2) (Q := fun c st' => c.1 = none ∧ st' = st2) ?_ (fun _ _ z => z) ⟨rfl, rfl⟩) ?_)
        · rintro j ⟨r, u⟩ st4 _ _ ⟨rfl, rfl⟩
          have b4 : ((sortPriv% PySem.Builtin.SortState.pending) st4).size = 1 := by
            show (pendingOf st4).size = 1
            rw [e3, e1]
            rfl
          refine wpS_bind (wpS_get ?_)
          dsimp only
          rw [b4]
          exact wpS_pure ⟨rfl, rfl⟩
        · rintro ⟨r, u⟩ st4 ⟨rfl, rfl⟩
          refine wpS_bind (wpS_modify (wpS_bind (wpS_modify (wpS_pure ⟨rfl, w3, .inr (.inr ⟨?_, .inr ?_⟩)⟩))))
          · show lo + n = _
            omega
          · exact Exists.elim (pend2 (n := n) (e3.trans e1) (by exact ⟨_, rfl⟩)) fun p1 ep => ⟨lo, n, p1, ep, by omega, by omega, by omega⟩
    · dsimp only at e0
      exact wpS_if (fun y => wpS_pure ⟨rfl, w1, pf⟩) (fun y => absurd (Nat.le_of_eq e0.symm) y)
  · rintro ⟨r, lo⟩ st1 ⟨rfl, w1, ⟨e, _⟩ | ⟨e, _⟩ | ⟨e0, pf⟩⟩
    · have e : max 0 (arrOf st).size = 0 := e
      omega
    · have e : max 0 (arrOf st).size = 1 := e
      omega
    · exact ⟨rfl, w1, pf⟩
  · rintro ⟨r, lo⟩ st1 ⟨rfl, w1, pf⟩
    refine wpS_bind (wpS_mono (wpS_forRange (I := fun _ c st' => c.1 = none ∧ SW a₀ st' ∧ PF (arrOf st).size (pendingOf st')) (Q := fun c st' => c.1 = none ∧ SW a₀ st') ?_ (fun _ _ z => ⟨z.1, z.2.1⟩) ⟨rfl, w1, pf⟩) ?_)
    · rintro i ⟨r, u⟩ st2 _ _ ⟨rfl, w2, pf⟩
      refine wpS_bind (wpS_get ?_)
      refine wpS_if (fun _ => wpS_pure ⟨rfl, w2⟩) (fun y => ?_)
      rcases pf with pf | ⟨n1, n2, p1, e2, hn, hn1, hn2⟩
      · exact absurd pf y
      · have e2' : (sortPriv% PySem.Builtin.SortState.pending) st2 = #[(0, n1, p1), (n1, n2, 0)] := e2
        rw [e2']
        refine wpS_bind (mergeAt_ok hO h0 w2 e2 (hn.trans hW.size) hn1 hn2 fun st3 w3 e3 => ?_)
        refine wpS_if (fun y => absurd y (by decide)) (fun _ => ?_)
        exact wpS_pure ⟨rfl, w3, .inl (Nat.le_of_eq e3)⟩
    · rintro ⟨r, u⟩ st2 ⟨rfl, w2⟩
      exact wpS_pure (h _ w2)
theorem back_perm {vs : List Value} {xs : Array Keyed} (h : xs.toList.Perm (pairsOf vs).toList) : (xs.map (·.2)).toList.Perm vs := by
  rw [Array.toList_map]
  refine (h.map _).trans (List.Perm.of_eq ?_)
  rw [pairsOf_toList]
  exact List.map_snd_zip (Nat.le_refl _)
theorem sort_any {a : Addr} {vs : List Value} {ss : List Str} {n : Nat} {P : Fin → Shared → Prop} (ho : s.heap.get? a = some (seqObj "list" vs.toArray n)) (hS : StrsAre vs ss) (h65 : vs.length ≤ 65)
    (h : ∀ out : Array Value, out.toList.Perm vs → P (.done (.ret .none)) { s with heap := sortedHeap s.heap a vs out }) : wpAny (model prog w) A (Builtin.«list.sort» ⟨[.ref a], []⟩) P E s := by
  have lt := Heap.lt_size ho
  obtain ⟨e1, g1⟩ : ∃ k, (s.heap.update a (Obj.mapSeq fun _ => #[])).get? a = some (seqObj "list" #[] k) := ⟨_, get?_update_seq ho fun _ => #[]⟩
  have g2 : (((s.heap.update a (Obj.mapSeq fun _ => #[])).push (seqObj "tuple" vs.toArray 0)).push (seqObj "list" #[] 0)).get? a = some (seqObj "list" #[] e1) :=
    Heap.get?_push_of_some _ (Heap.get?_push_of_some _ g1)
  have fit : ∀ out : Array Value, out.toList.Perm vs → out.size ≤ sizeLine + 1 := fun out p => by
    have := p.length_eq
    rw [Array.length_toList] at this
    rw [sizeLine_eq]
    omega
  rw [list_sort_plain]
  refine wpAny_bind (listItems_at ho rfl (wpAny_bind (listUpdate_at ho rfl (wpAny_bind (seqEpoch_at g1 rfl (wpAny_bind (wpAny_newTuple (wpAny_bind (wpAny_newList (wpAny_holding ?_)))))))) ))
  (show wpAny (model prog w) A _ P E { s with heap := ((s.heap.update a (Obj.mapSeq fun _ => #[])).push (seqObj "tuple" vs.toArray 0)).push (seqObj "list" #[] 0) }); dsimp only
  have sz : vs.toArray.size = vs.length := List.size_toArray ..
  by_cases few : vs.toArray.size < 2
  · have p0 : ((pairsOf vs).map (·.2)).toList.Perm vs := back_perm (List.Perm.refl _)
    rw [if_pos few, if_pos few]
    refine wpAny_bind (wpAny_pure ?_); rw [StateT.run_pure]
    refine wpAny_bind (wpAny_pure ?_); dsimp only
    refine wpAny_bind (seqEpoch_at g2 rfl (wpAny_bind (listUpdate_at g2 rfl ?_ (hsz2 := fit _ p0))))
    simp only [bne_self_eq_false, Bool.false_eq_true, if_false]; exact wpAny_pure (h _ p0)
  · match vs, few, hS, sz with
    | [], few, _, _ => exact absurd (show ([] : List Value).toArray.size < 2 by decide) few
    | [v], few, _, _ => exact absurd (show [v].toArray.size < 2 by simp) few
    | v1 :: v2 :: rest, few, hS, _ =>
      rw [if_neg few, if_neg few, keyKind_strs hS]
      refine wpAny_bind (wpAny_pure (wpAny_bind (wpAny_mono (sortRuns_ok (κ := strKind) strKind_oneLt (a₀ := pairsOf (v1 :: v2 :: rest)) (st := SortSt.mk' oneType' (pairsOf (v1 :: v2 :: rest)) #[] 7 none) (Q := fun _ st' => SW (pairsOf (v1 :: v2 :: rest)) st') hS.keysOf ⟨rfl, rfl, List.Perm.refl _⟩ rfl
        (by rw [pairsOf_size]; simp) (by rw [pairsOf_size]; exact h65) fun _ z => z) ?_ fun _ _ z => z)))
      rintro ⟨⟨⟩, st'⟩ s' ⟨rfl, z⟩
      have p0 := back_perm z.2.2
      dsimp only
      refine wpAny_bind (seqEpoch_at g2 rfl (wpAny_bind (listUpdate_at g2 rfl ?_ (hsz2 := fit _ p0))))
      rw [z.2.1]; simp only [bne_self_eq_false, Bool.false_eq_true, if_false]; exact wpAny_pure (h _ p0)
theorem sort_new {vs : List Value} {ss : List Str} {Q : Fin → Shared → Prop} (hS : StrsAre vs ss) (h65 : vs.length ≤ 65)
    (h : ∀ h' out k, (∀ b o, s.heap.get? b = some o → h'.get? b = some o) → h'.get? s.heap.objs.size = some (seqObj "list" out k) → out.toList.Perm vs → Q (.done (.ret (.ref s.heap.objs.size))) { s with heap := h' }) :
    wpAny (model prog w) A (do
      let y ← newList vs
      let _ ← holding [y] (call (.builtin "list.sort") [y] [])
      ret y) Q E s := by
  have hoL : (s.heap.push (seqObj "list" vs.toArray 0)).get? s.heap.objs.size = some (seqObj "list" vs.toArray 0) := Heap.get?_push_size _ rfl
  refine wpAny_bind (wpAny_newList (wpAny_bind (wpAny_holding (wpAny_call_entry slot_list_sort ⟨_, hoL, rfl⟩ entry_list_sort (sort_any hoL hS h65 fun out hp => ⟨_, rfl, ?_⟩) (args_list_sort _)))))
  obtain ⟨e, he⟩ := sortedHeap_at (out := out) hoL
  refine wpAny_pure (h _ out e (fun b o q => ?_) he hp)
  rw [sortedHeap_old (Nat.ne_of_lt (Heap.lt_size q)) (by rw [size_push']; exact Nat.lt_succ_of_lt (Heap.lt_size q))]
  exact Heap.get?_push_of_some _ q
end
end L2
set_option Elab.async false
set_option linter.all false
set_option maxRecDepth 100000
namespace L2
open PySem PySem.Spec PyProof.Rows
section
variable {X : Cx} {pins : List (Addr × Obj)} {σ : St} {H : Hp} {s : Shared}
theorem Inv.laidN {h' : Heap} {a : Addr} {o : HO} {t' : Nat} (I : Inv X pins σ H s) (k : ∀ b u, s.heap.get? b = some u → h'.get? b = some u) (hp : s.heap.get? a = none) (new : ObjOk X.prog X.w (upd H a o) h' a o) : Inv X pins σ (upd H a o) { s with heap := h', toks := t' } := by
  have hn : H a = none := I.hok.gone hp
  have ne : ∀ b u, s.heap.get? b = some u → b ≠ a := fun b u q z => by rw [z, hp] at q; cases q
  exact I.un ⟨fun b u q _ _ _ => k b u q, fun b u q _ _ _ => ⟨u.slots, k b u q⟩, fun b u q n _ => by rw [upd_ne (ne b u q)]; exact n, fun b u q _ => ⟨u, k b u q⟩, fun b xs q => by rw [upd_ne (ne_of_none q hn)]; exact q, fun b u xs q => by rw [upd_ne (ne_of_none q hn)]; exact q,
    fun b ps q => ⟨#[], by rw [upd_ne (ne_of_none q hn), q]; simp⟩⟩ (I.hok.track hn (fun b u _ q => k b u q) new)
def signsOf (z : Str) : List Str := z.cps.toList.map fun c => (⟨#[c]⟩ : Str)
theorem vals_strs : ∀ {l : List Value}, (∀ v ∈ l, ∃ x t, v = Value.str x t) → Vals ((l.map PyProof.Rows.strOf).map V.str) l
  | [], _ => .nil
  | v :: l, h => by
    obtain ⟨x, t, rfl⟩ := h v List.mem_cons_self
    exact .cons ⟨t, rfl⟩ (vals_strs fun u hu => h u (List.mem_cons_of_mem _ hu))
theorem items_signs {z : Str} {acc : Array Value} (h : ItemsOf (SignAt z) acc z.cps.size) : (∀ v ∈ acc.toList, ∃ x t, v = Value.str x t) ∧ acc.toList.map PyProof.Rows.strOf = signsOf z := by
  have at_ : ∀ i v, acc.toList[i]? = some v → ∃ c u, z.cps[i]? = some c ∧ v = Value.str ⟨#[c]⟩ u := fun i v e => h.2 i v (by rw [← Array.getElem?_toList]; exact e)
  refine ⟨fun v hv => ?_, List.ext_getElem? fun i => ?_⟩
  · obtain ⟨i, e⟩ := List.getElem?_of_mem hv
    obtain ⟨c, u, _, rfl⟩ := at_ i v e
    exact ⟨_, _, rfl⟩
  · unfold signsOf
    rw [List.getElem?_map, List.getElem?_map, Array.getElem?_toList (xs := z.cps)]
    cases e : acc.toList[i]? with
    | some v =>
      obtain ⟨c, u, hc, rfl⟩ := at_ i v e
      rw [hc]
      rfl
    | none =>
      have : z.cps[i]? = none := by
        have := List.getElem?_eq_none_iff.mp e
        rw [Array.length_toList, h.1] at this
        exact Array.getElem?_eq_none_iff.mpr this
      rw [this]
      rfl
theorem lay_strs {h' : Heap} {out : Array Value} {k t' : Nat} {l : Addr} {Q : VK} (I : Inv X pins σ H s) (kp : ∀ b u, s.heap.get? b = some u → h'.get? b = some u) (hp : s.heap.get? l = none) (he : h'.get? l = some (seqObj "list" out k)) (all : ∀ v ∈ out.toList, ∃ x t, v = Value.str x t) (hz : out.size ≤ sizeLine)
    (q : Q (.ref l) (upd H l (.lst ((out.toList.map PyProof.Rows.strOf).map V.str)))) : EP X pins σ Q (.ref l) { s with heap := h', toks := t' } :=
  ⟨.ref l, upd H l (.lst ((out.toList.map PyProof.Rows.strOf).map V.str)), I.laidN (o := .lst ((out.toList.map PyProof.Rows.strOf).map V.str)) kp hp ⟨by rw [List.length_map, List.length_map, Array.length_toList]; exact hz, out.toList, k, vals_strs all, by rw [he]⟩, rfl, q⟩
theorem call_sortedS (hc : X.calm = true) : CallR X (.builtin "sorted") (fun xs H Q => ∃ z, xs = [.str z] ∧ z.cps.size ≤ 65 ∧ ∀ (l : Addr) (ys : List Str), H l = none → ys.Perm (signsOf z) → Q (.ref l) (upd H l (.lst (ys.map V.str)))) := by
  intro pins s σ H xs us Q I r h
  obtain ⟨z, rfl, hz, q⟩ := h
  obtain ⟨u, rfl, t, rfl⟩ := vals1 r
  have hd : X.A.in1.handled = none := I.ok.hd hc
  refine Calls.call_function_entry kind_sorted plain_sorted entry_sorted (args_sorted1 _) ?_
  unfold Builtin.«sorted»
  refine wpAny_bind (m := checkCount "sorted" 1 1 _) (wpAny_pure (wpAny_bind (wpAny_collect_str hd z t (fun s' acc hk hg hdr ho hi => ?_) (by rw [sizeLine_eq]; omega))))
  obtain ⟨all, em⟩ := items_signs hi
  have hsz : acc.toList.length = z.cps.size := by rw [Array.length_toList, hi.1]
  refine sort_new (s := s') (strsAre_map _ all) (by omega) fun h' out k hk' he hp => ⟨_, rfl, ?_⟩
  have fresh : s.heap.get? s'.heap.objs.size = none := by
    cases e : s.heap.get? s'.heap.objs.size with
    | none => rfl
    | some o => exact absurd (Heap.lt_size (hk _ _ e)) (Nat.lt_irrefl _)
  obtain ⟨hp', g', d', tk', os'⟩ := s'
  dsimp only at hg hdr ho
  subst hg hdr ho
  refine lay_strs (s := s) (t' := tk') I (fun b o e => hk' b o (hk b o e)) fresh he (fun v hv => all v (hp.mem_iff.mp hv)) (by have := hp.length_eq; rw [Array.length_toList] at this; rw [sizeLine_eq]; omega) (q _ _ (I.hok.gone fresh) ?_)
  rw [← em]
  exact hp.map _
theorem sort_newK {prog : Program} {w : World} {A : Around} {E : Value → Shared → Prop} {s : Shared} {vs : List Value} {ss : List Str} {Q : Fin → Shared → Prop} (hS : StrsAre vs ss) (h64 : vs.length < 64)
    (h : ∀ h' out k ss', (∀ b o, s.heap.get? b = some o → h'.get? b = some o) → h'.get? s.heap.objs.size = some (seqObj "list" out k) → StrsAre out.toList ss' → ss'.Perm ss → sortedS ss' = true → Q (.done (.ret (.ref s.heap.objs.size))) { s with heap := h' }) :
    wpAny (model prog w) A (do
      let y ← newList vs
      let _ ← holding [y] (call (.builtin "list.sort") [y] [])
      ret y) Q E s := by
  have hoL : (s.heap.push (seqObj "list" vs.toArray 0)).get? s.heap.objs.size = some (seqObj "list" vs.toArray 0) := Heap.get?_push_size _ rfl
  refine wpAny_bind (wpAny_newList (wpAny_bind (wpAny_holding (wpAny_call_entry slot_list_sort ⟨_, hoL, rfl⟩ entry_list_sort (list_sort_treeK strKind_oneLt hoL hS.keysOf (fun v1 v2 rest e => by subst e; exact keyKind_strs hS) h64 fun st' a1 a2 => ⟨_, rfl, ?_⟩) (args_list_sort _)))))
  obtain ⟨ss', b1, b2, b3⟩ := sorted_out_str hS a1 a2
  obtain ⟨e, he⟩ := sortedHeap_at (out := (arrOf st').map (·.2)) hoL
  refine wpAny_pure (h _ _ e ss' (fun b o q => ?_) he b1 b2 b3)
  rw [sortedHeap_old (Nat.ne_of_lt (Heap.lt_size q)) (by rw [size_push']; exact Nat.lt_succ_of_lt (Heap.lt_size q))]
  exact Heap.get?_push_of_some _ q
theorem items_keys {kvs : List (Key × V)} {vs : List (Key × Value)} {ks : List Str} {acc : Array Value} {P : Program} {w : World} (rel : KV kvs vs) (hk : kvs.map (·.1) = ks.map Sum.inr) (h : ItemsOf (fun i v => ∃ k x, vs[i]? = some (k, x) ∧ (mixKind P w).is k v = true) acc vs.length) : StrsAre acc.toList ks := by
  have hl : vs.length = ks.length := by
    have h1 := rel.length
    have h2 := congrArg List.length hk
    rw [List.length_map, List.length_map] at h2
    omega
  have at_ : ∀ i v, acc.toList[i]? = some v → ∃ x t, ks[i]? = some x ∧ v = Value.str x t := fun i v e => by
    obtain ⟨k, x, hx, hkk⟩ := h.2 i v (by rw [← Array.getElem?_toList]; exact e)
    have e1 : (kvs.map (·.1))[i]? = some k := by
      rw [rel.keys, List.getElem?_map, hx]
      rfl
    rw [hk, List.getElem?_map] at e1
    cases hki : ks[i]? with
    | none => rw [hki] at e1; cases e1
    | some y =>
      rw [hki] at e1
      cases e1
      obtain ⟨t, rfl⟩ := Value.isStrOf_shape (x := y) (v := v) hkk
      exact ⟨y, t, hki, rfl⟩
  have key : ∀ (l : List Value) (ks : List Str), l.length = ks.length → (∀ (i : Nat) (v : Value), l[i]? = some v → ∃ (x : Str) (t : Tok), ks[i]? = some x ∧ v = Value.str x t) → StrsAre l ks := by
    intro l
    induction l with
    | nil => intro ks hl _; cases ks with | nil => exact .nil | cons _ _ => simp at hl
    | cons v r ih =>
      intro ks hl hh
      cases ks with
      | nil => simp at hl
      | cons y ys =>
        obtain ⟨x, t, e1, rfl⟩ := hh 0 v rfl
        cases e1
        exact .cons _ _ (ih ys (by simpa using hl) fun i v e => hh (i + 1) v e)
  exact key _ _ (by rw [Array.length_toList, h.1, hl]) at_
theorem call_sortedD (hc : X.calm = true) : CallR X (.builtin "sorted") (fun xs H Q => ∃ (d : Addr) (kvs : List (Key × V)) (ks : List Str), xs = [.ref d] ∧ H d = some (.dK kvs) ∧ kvs.map (·.1) = ks.map Sum.inr ∧ ks.length < 64 ∧ ∀ (l : Addr) (ys : List Str), H l = none → ys.Perm ks → sortedS ys = true → Q (.ref l) (upd H l (.lst (ys.map V.str)))) := by
  intro pins s σ H xs us Q I r h
  obtain ⟨d, kvs, ks, rfl, hdk, hkk, h64, q⟩ := h
  obtain ⟨u, rfl, rx⟩ := vals1 r
  cases rx
  obtain ⟨hz, lo, vs, rel, dd⟩ := dk_of I.hok hdk
  obtain ⟨ep, hat⟩ := dd.dictAt
  have hl : vs.length = kvs.length := rel.length.symm
  have hd : X.A.in1.handled = none := I.ok.hd hc
  refine Calls.call_function_entry kind_sorted plain_sorted entry_sorted (args_sorted1 _) ?_
  unfold Builtin.«sorted»
  refine wpAny_bind (m := checkCount "sorted" 1 1 _) (wpAny_pure (wpAny_bind (PySem.W.kdu_collect (PySem.W.kdl_dict (knd := mixKind X.prog X.w) (kvs := vs) (ep := ep) lo) hd hat (by omega) fun h1 tk acc hk hi => ?_)))
  have hS := items_keys rel hkk hi
  have hkl : kvs.length = ks.length := by
    have := congrArg List.length hkk
    rw [List.length_map, List.length_map] at this
    exact this
  refine sort_newK (s := { s with heap := h1, toks := tk }) hS (by rw [Array.length_toList, hi.1, hl, hkl]; exact h64) fun h' out k ss' hk' he b1 b2 b3 => ⟨_, rfl, ?_⟩
  have fresh : s.heap.get? h1.objs.size = none := by
    cases e : s.heap.get? h1.objs.size with
    | none => rfl
    | some o => exact absurd (Heap.lt_size (hk _ _ e)) (Nat.lt_irrefl _)
  have es : out.toList.map PyProof.Rows.strOf = ss' := b1.strs
  have hos : out.size = ss'.length := by rw [← es, List.length_map, Array.length_toList]
  refine lay_strs (s := s) (t' := tk) I (fun b o e => hk' b o (hk b o e)) fresh he b1.all (by rw [hos, b2.length_eq, sizeLine_eq]; omega) ?_
  rw [es]
  exact q _ ss' (I.hok.gone fresh) b2 b3
inductive I_rFind (x : V) (vs : List V) (H : Hp) (Q : VK) : Prop
  | mk (z y : Str) (q1 : x = .str z) (q2 : vs = [.str y]) (q3 : Q (.int (Txt.find z y)) H)
def rFind : V → List V → Hp → VK → Prop := fun x vs H Q => I_rFind x vs H Q
theorem mt_find : MtR X "str.find" rFind := by
  intro pins s σ H x xs v us Q I rx rv h
  obtain ⟨z, y, rfl, rfl, q⟩ := h
  obtain ⟨t, rfl⟩ := rx
  obtain ⟨u, rfl, u', rfl⟩ := vals1 rv
  exact call_gives F.slot_str_find (typeIs_str _ _ _) F.entry_str_find (F.args_str_find_2 _ _) (gives_str_find z y t u') ⟨.int (Txt.find z y), H, I.tok _, ⟨_, rfl⟩, q⟩
theorem preSum_list (ns : List Int) : ∀ j, PySem.preSum (fun i => (ns[i]?).getD 0) j = (ns.take j).sum
  | 0 => rfl
  | j + 1 => by
    show PySem.preSum _ j + (ns[j]?).getD 0 = _
    rw [preSum_list ns j, List.take_add_one, List.sum_append]
    cases ns[j]? <;> simp
theorem kvs_ints {κ : Type} {kvs : List (κ × V)} {vs : List (κ × Value)} (rel : KV kvs vs) : ∀ {ns : List Int}, kvs.map (·.2) = ns.map V.int → ∀ (i : Nat) (v : Value), (∃ k, vs[i]? = some (k, v)) → ∃ t : Tok, v = Value.int ((ns[i]?).getD 0) t := by
  unfold KV at rel
  induction rel with
  | nil => intro ns _ i v ⟨k, e⟩; cases e
  | cons h _ ih =>
    intro ns hn i v ⟨k, e⟩
    cases ns with
    | nil => cases hn
    | cons n ns =>
      injection hn with h1 h2
      cases i with
      | zero =>
        cases e
        have h3 := h.2
        dsimp only at h1; rw [h1] at h3
        obtain ⟨t, h3⟩ := h3
        exact ⟨t, h3⟩
      | succ i => exact ih h2 i v ⟨k, e⟩
inductive I_tSumV (x : V) (H1 : Hp) (Q : VK) : Prop
  | mk (a : Addr) (kvs : List (Key × V)) (ns : List Int) (q1 : x = .ref a) (q2 : H1 a = some (.dK kvs)) (q3 : kvs.map (·.2) = ns.map V.int) (q4 : Q (.int ns.sum) H1)
def tSumV (td : TE) : TE := fun σ H Q => td σ H fun x H1 => I_tSumV x H1 Q
theorem pe_sumVals {e : Expr} {te : TE} {p apos pos1 pos : Pos} (hc : X.calm = true) (hg : Gl X "sum") (hm : X.mg "sum" = none) (he : PE X e te)
    (hbase : attributeBase e "values" X.env (eval e X.env) = eval e X.env := by rfl) (hline : (apos.endLine == pos1.line) = true := by rfl)
    (hs0 : starEach [Expr.Call (.Attribute e "values" apos) [] [] pos1] X.env = (false, eval (Expr.Call (.Attribute e "values" apos) [] [] pos1) X.env) :: starEach [] X.env := by rfl)
    (hp0 : (backTo pos (starEach [] X.env)).any (·.1) = false := by rfl) :
    PE X (.Call (.Name "sum" p) [.Call (.Attribute e "values" apos) [] [] pos1] [] pos) (tSumV te) := by
  intro pins s σ H Q I h
  refine wpAny_Call_Name_kw (ld_blt I hg hm boot_sum ?_ (by decide) (by decide))
  refine PyProof.Rows.callWith_builtin1 ?_ hs0 hp0
  rw [hs0]
  show wpAny _ _ (spliced ((false, eval (Expr.Call (.Attribute e "values" apos) [] [] pos1) X.env) :: backTo pos (starEach [] X.env))) _ _ s
  refine Calls.spliced_cons ?_
  refine wpAny_Call_method0_late hbase hline (thn (he pins s σ H _ I h) fun v s1 ⟨x, H1, I1, r1, q1⟩ => ?_)
  obtain ⟨a, kvs, ns, rfl, hdk, hns, q⟩ := q1
  cases r1
  obtain ⟨hz, lo, vs, rel, dd⟩ := dk_of I1.hok hdk
  obtain ⟨ep, hat⟩ := dd.dictAt
  obtain ⟨t1, t2, _⟩ := isD_at I1 (.inl ⟨kvs, .of hdk⟩)
  refine ⟨"dict", _, PySem.F.plainAttrs_dict, PySem.F.slot_dict_values, PySem.F.type_dict_values, t1, t2, Calls.callWith_builtin rfl (PySem.evalArgs_none ?_)⟩
  refine call_meetsIn PySem.F.slot_dict_values dd.typeIs PySem.F.entry_dict_values (PySem.F.args_dict_values_1 _) (meets_dict_values (mixKind X.prog X.w) a lo) ⟨⟨vs, dd⟩, ?_⟩
  refine Calls.spliced_nil ?_
  have hal : a < s1.heap.objs.size := hat.lt_size
  have vw : (s1.heap.push { cls := .type "dict_values", data := .fields #[.ref a] }).IsValuesView s1.heap.objs.size a := ⟨_, Heap.get?_push_size _ rfl, rfl, rfl⟩
  generalize hp : s1.heap.push { cls := .type "dict_values", data := .fields #[.ref a] } = h1 at vw
  have hk1 : ∀ b o, s1.heap.get? b = some o → h1.get? b = some o := fun b o z => by rw [← hp]; exact Heap.get?_push_of_some _ z
  have hat1 : h1.DictAt (mixKind X.prog X.w) a vs ep := hat.at' fun o z => hk1 _ o z
  have hK := PySem.W.kdl_values (prog := X.prog) (w := X.w) (r := s1.heap.objs.size) (d := a) (knd := mixKind X.prog X.w) (kvs := vs) (ep := ep)
  refine call_sum_walkAnyS ?_
  obtain ⟨oI, St, hit, W, st⟩ := hK.iter X.A.in1 { s1 with heap := h1 } (I1.ok.hd hc) ⟨vw, hat1⟩
  refine hit _ _ ⟨h1.objs.size, _, _, _, vs.length, _, _, fun i => (ns[i]?).getD 0, rfl, W.toS, st, fun b hb => ?_, fun i v hv => kvs_ints rel hns i v hv, fun s' t' hm => ?_⟩
  · show b < (h1.push oI).objs.size
    rw [size_push']
    rcases List.mem_cons.mp hb with z | hb
    · rw [z]; exact Nat.lt_succ_self _
    · rw [List.mem_singleton.mp hb]; exact Nat.lt_succ_of_lt hat1.lt_size
  · have hk : ∀ b o, s1.heap.get? b = some o → s'.heap.get? b = some o := fun b o z =>
      hm.heap b o (fun hI => absurd (Heap.lt_size (hk1 b o z)) (by rw [List.mem_singleton.mp hI]; exact Nat.lt_irrefl _)) (Heap.get?_push_of_some _ (hk1 b o z))
    rw [Moved.eq_with hm]
    refine ⟨.int ns.sum, H1, I1.kept hk, ⟨t', ?_⟩, q⟩
    have hl : vs.length = ns.length := by
      have e1 := congrArg List.length hns
      rw [List.length_map, List.length_map] at e1
      rw [← rel.length, e1]
    rw [preSum_list, hl, List.take_length]
theorem Inv.turnedL {h' : Heap} {t' : Nat} {wr : List Addr} (I : Inv X pins σ H s) (k : ∀ b o, b ∉ wr → s.heap.get? b = some o → h'.get? b = some o) (hf : ∀ b ∈ wr, FpOk X pins H b) : Inv X pins σ H { s with heap := h', toks := t' } := by
  have nit : ∀ b u, H b = some u → b ∉ wr := fun b u e z => by rw [(hf b z).1] at e; cases e
  refine I.step (g' := s.gens) (d' := s.drawn) (ch := wr) (fun b hb => ⟨(hf b hb).2.2.2.1, (hf b hb).2.1, (hf b hb).2.2.2.2.1, (hf b hb).2.2.2.2.2⟩) (fun b o _ _ hc e _ => k b o hc e) (fun b o _ _ hc e _ => ⟨o.slots, k b o hc e⟩) (fun _ _ _ _ n => n)
    (fun b o hc e => ⟨o, k b o hc e⟩) (fun _ _ e => e) (fun _ _ _ e => e) (fun b ps e => ⟨#[], by rw [e]; simp⟩) (fun m hm => ?_) (fun b u e => ?_) I.bare
  · obtain ⟨o, es, ep, ho, r⟩ := hm
    exact ⟨o, es, ep, k _ o (fun z => (hf _ z).2.1 rfl) ho, r⟩
  · refine (I.hok b u e).stay (fun c v hc q => k c v ?_ q) (fun _ q => q) fun _ _ q => q
    rcases hc with z | z
    · rw [z]; exact nit b u e
    · exact nit c _ z
theorem Inv.turnLaid {h' : Heap} {t' : Nat} {wr : List Addr} {T : Addr} {o : HO} (I : Inv X pins σ H s) (k : ∀ b o, b ∉ wr → s.heap.get? b = some o → h'.get? b = some o) (hf : ∀ b ∈ wr, FpOk X pins H b) (hT : s.heap.get? T = none) (new : ObjOk X.prog X.w (upd H T o) h' T o) : Inv X pins σ (upd H T o) { s with heap := h', toks := t' } := by
  have hn : H T = none := I.hok.gone hT
  have ne : ∀ b u, s.heap.get? b = some u → b ≠ T := fun b u q z => by rw [z, hT] at q; cases q
  refine I.step (g' := s.gens) (d' := s.drawn) (ch := wr) (fun b hb => ⟨(hf b hb).2.2.2.1, (hf b hb).2.1, (hf b hb).2.2.2.2.1, (hf b hb).2.2.2.2.2⟩) (fun b o _ _ hc e _ => k b o hc e) (fun b o _ _ hc e _ => ⟨o.slots, k b o hc e⟩) (fun b u _ e n => by rw [upd_ne (ne b u e)]; exact n)
    (fun b o hc e => ⟨o, k b o hc e⟩) (fun b xs e => by rw [upd_ne (ne_of_none e hn)]; exact e) (fun b u xs e => by rw [upd_ne (ne_of_none e hn)]; exact e) (fun b ps e => ⟨#[], by rw [upd_ne (ne_of_none e hn), e]; simp⟩) (fun m hm => ?_) (I.hok.track hn (fun b u hb q => k b u (fun z => hb (hf b z).1) q) new) I.bare
  obtain ⟨o, es, ep, ho, r⟩ := hm
  exact ⟨o, es, ep, k _ o (fun z => (hf _ z).2.1 rfl) ho, r⟩
def Ite (x : Str) : It := ⟨fun i _ => i < x.cps.size, fun i H v H' => ∃ (T : Addr) (c : _), H T = none ∧ x.cps[i]? = some c ∧ v = .ref T ∧ H' = upd H T (.tup [.int (i : Int), .str ⟨#[c]⟩]), fun i _ => x.cps.size = i⟩
theorem turn_enum {P : Program} {w : World} {K : PySem.W.Frag} {elts : List Expr} {k : Nat} {pos : Pos} (e it : Addr) (x : Str) (nm : String) (t : Tok) (hne : e ≠ it)
    (W : ∀ A' : Around, A'.handled = none → Draws P w A' it [it] x.cps.size (fun i v => ∃ c u, x.cps[i]? = some c ∧ v = .str ⟨#[c]⟩ u) (fun i h => h.IsStrIter it nm x t i)) :
    Turn P w K (.Tuple elts k pos) (Ite x) [e, it] e (fun i h => (∃ old, IsEnum h e it (i : Int) old) ∧ h.IsStrIter it nm x t i) where
  mem := by simp
  obj := fun i h st b hb => by
    obtain ⟨⟨old, h1⟩, o, h2, c, d⟩ := st
    rcases List.mem_cons.mp hb with z | hb
    · subst z
      exact ⟨_, h1, fun v z => by cases z⟩
    · have z : b = it := by simpa using hb
      subst z
      exact ⟨o, h2, fun v z => by rw [d] at z; cases z⟩
  keep := fun i h h' st k => by
    obtain ⟨⟨old, h1⟩, o, h2, r⟩ := st
    exact ⟨⟨old, k e (by simp) _ h1⟩, o, k it (by simp) o h2, r⟩
  item := by
    intro X hP hw hK hc i pins s σ H E I hf st hg
    subst hP hw hK
    have WT := WalksT.enumerateD (A := X.A) (W X.A.in1 (I.ok.hd hc)) e hne (by simpa using hne) (by simp)
    refine WT.item i s _ _ hg st fun T vals h' tk hv hsz hT md kk => ⟨_, rfl, ?_⟩
    obtain ⟨t1, x1, ⟨c, u, hcc, rfl⟩, rfl⟩ := hv
    refine WT.go elts k pos i T { s with heap := h', toks := tk } _ _ md fun h2 st2 kk2 => ?_
    have hT2 : h2.IsTuple T #[.int (i : Int) t1, .str ⟨#[c]⟩ u] := by
      obtain ⟨o, ho, r⟩ := hT
      exact ⟨o, kk2 T o (WT.apart i T h' md) ho, r⟩
    have hN : s.heap.get? T = none := by
      cases z : s.heap.get? T with
      | none => rfl
      | some o => exact absurd (Heap.lt_size z) (Nat.not_lt.mpr hsz)
    have hTn : ∀ b ∈ [e, it], b ≠ T := fun b hb z => WT.apart i T h' md (by rw [← z]; exact hb)
    refine ⟨.ref T, upd H T (.tup [.int (i : Int), .str ⟨#[c]⟩]), I.turnLaid (wr := [e, it]) (fun b o hb z => kk2 b o hb (kk b o hb z)) hf hN ?_, rfl, ⟨T, c, I.hok.gone hN, hcc, rfl, rfl⟩, st2, fun b hb => ?_⟩
    · exact ⟨by rw [sizeLine_eq]; show 2 ≤ 16777216; omega, [.int (i : Int) t1, .str ⟨#[c]⟩ u], .cons ⟨t1, rfl⟩ (.cons ⟨u, rfl⟩ .nil), hT2⟩
    · rw [upd_ne (hTn b hb)]
      exact (hf b hb).1
  done := by
    intro X hP hw hK hc i pins s σ H E I hf st hg
    subst hP hw hK
    have hg : x.cps.size = i := hg
    subst hg
    have WT := WalksT.enumerateD (A := X.A) (W X.A.in1 (I.ok.hd hc)) e hne (by simpa using hne) (by simp)
    exact WT.done s _ _ st fun h' tk kk => ⟨rfl, I.turnedL (wr := [e, it]) (fun b o hb z => kk b o hb z) hf⟩
  self := fun A i s Q E st h => by
    obtain ⟨⟨old, h1⟩, _⟩ := st
    exact wpAny_pyIter_enum h1 h
inductive I_iEnum (x : V) (H1 : Hp) (R : It → Hp → Prop) : Prop
  | mk (z : _) (q1 : x = .str z) (q2 : R (Ite z) H1)
def iEnum (tl : TE) : TI := fun σ H R => tl σ H fun x H1 => I_iEnum x H1 R
theorem pi_enum {l : Expr} {tl : TE} {elts : List Expr} {k : Nat} {tp p pos : Pos} (hg : Gl X "enumerate") (hm : X.mg "enumerate" = none) (hl : PE X l tl)
    (hs0 : starEach [l] X.env = (false, eval l X.env) :: starEach [] X.env := by rfl) (hp0 : (backTo pos (starEach [] X.env)).any (·.1) = false := by rfl) :
    PI X (.Tuple elts k tp) (.Call (.Name "enumerate" p) [l] [] pos) (iEnum tl) := by
  intro pins s σ H R I h
  refine wpAny_Call_Name_kw (ld_blt I hg hm boot_enumerate ?_ (by decide) (by decide))
  refine PyProof.Rows.callWith_type1 ?_ hs0 hp0
  rw [hs0]
  show wpAny _ _ (spliced ((false, eval l X.env) :: backTo pos (starEach [] X.env))) _ _ s
  refine Calls.spliced_cons (thn (hl pins s σ H _ I h) fun v s1 ⟨x, H1, I1, r1, q1⟩ => ?_)
  obtain ⟨z, rfl, q⟩ := q1
  obtain ⟨t, rfl⟩ := r1
  refine Calls.spliced_nil (call_enumerate_str fun h' he hit hsz hk => ?_)
  refine wpAny_pyIter_enum he ?_
  have ne : s1.heap.objs.size + 1 ≠ s1.heap.objs.size := Nat.succ_ne_self _
  have fpo : ∀ b ∈ [s1.heap.objs.size + 1, s1.heap.objs.size], FpOk X pins H1 b := fun b hb => by
    have hb : s1.heap.objs.size ≤ b := by
      rcases List.mem_cons.mp hb with z | hb
      · omega
      · have : b = s1.heap.objs.size := by simpa using hb
        omega
    exact I1.fpOk hb (I1.hok.fresh hb)
  unfold strIterType at hit
  cases ha : z.cps.all (· < 128)
  · rw [ha] at hit
    exact ⟨s1.heap.objs.size + 1, [s1.heap.objs.size + 1, s1.heap.objs.size], _, _, H1, rfl, I1.kept (t' := s1.toks) hk, turn_enum _ _ z _ t ne fun A' hA => Draws.strWide hA _ z t, ⟨⟨_, he⟩, hit⟩, fpo, q⟩
  · rw [ha] at hit
    exact ⟨s1.heap.objs.size + 1, [s1.heap.objs.size + 1, s1.heap.objs.size], _, _, H1, rfl, I1.kept (t' := s1.toks) hk, turn_enum _ _ z _ t ne fun A' hA => Draws.strAscii hA _ z t, ⟨⟨_, he⟩, hit⟩, fpo, q⟩
theorem comp_enum {x : Str} {g : TG} {tt : TT} {te : TE} {σ0 : St} {H : Hp} {Fin : List V → Hp → Prop} (Pv : Nat → List V → St → Hp → Prop) (h0 : Pv 0 [] σ0 H) (hz : x.cps.size ≤ sizeLine)
    (hl : ∀ i acc σ H, i ≤ x.cps.size → Pv i acc σ H → acc.length ≤ i)
    (hs : ∀ i c T acc σ H, x.cps[i]? = some c → H T = none → Pv i acc σ H → g (.ref T) σ (upd H T (.tup [.int (i : Int), .str ⟨#[c]⟩])) fun σ2 H2 => tt σ2 H2 fun b H3 => if b = true then te σ2 H3 fun y H4 => Pv (i + 1) (acc ++ [y]) σ2 H4 else Pv (i + 1) acc σ2 H3)
    (hd : ∀ acc σ H, Pv x.cps.size acc σ H → Fin acc H) : tTurns (Ite x) g tt te σ0 H Fin := by
  refine ⟨fun i m acc σ H => m = x.cps.size - i ∧ i ≤ x.cps.size ∧ Pv i acc σ H, ⟨x.cps.size, by simp, Nat.zero_le _, h0⟩, ?_⟩
  rintro i m acc σ H ⟨rfl, hi, p⟩
  have hal := hl i acc σ H hi p
  by_cases hlt : i < x.cps.size
  · refine .inr ⟨hlt, by omega, Pv (i + 1), fun acc' σ' H' p' => ⟨x.cps.size - (i + 1), by omega, rfl, hlt, p'⟩, fun v H' y => ?_⟩
    obtain ⟨T, c, hT, hc, rfl, rfl⟩ := y
    exact hs i c T acc σ _ hc hT p
  · have e : i = x.cps.size := by omega
    subst e
    exact .inl ⟨rfl, by omega, hd acc σ H p⟩
theorem pe_bmK (K : PySem.W.Frag) (hK : X.K = K) {o e : Expr} {es : List Expr} {to : TE} {t : TA} {name : Str} {apos cpos : Pos} {T id : String} {r : V → List V → Hp → VK → Prop} (pa : PlainAttrs T) (slot : Slot T name id) (hty : typeOf (.builtin id) = pure (.type "method_descriptor")) (hm : MtR X id r) (ho : PE X o to) (ha : PA X (e :: es) t)
    (hbase : attributeBase o name X.env (eval o X.env) = eval o X.env := by rfl)
    (hfew : ((backTo cpos (starEach (e :: es) X.env)).all (fun x => !x.1) && (backToKw cpos (keywordEach [] X.env)).all (fun x => x.1.isSome)
      && decide ((e :: es).length + ([] : List Keyword).length + (if ([] : List Keyword).isEmpty then 0 else 1) < 30)) = true := by rfl)
    (hline : (apos.endLine == cpos.line) = true := by rfl) (hs : starEach (e :: es) X.env = (false, eval e X.env) :: starEach es X.env := by rfl) (hplain : (backTo cpos (starEach es X.env)).any (·.1) = false := by rfl) :
    PE X (.Call (.Attribute o name apos) (e :: es) [] cpos) (tBM K T r to t) := by
  subst hK
  exact pe_bm pa slot hty hm ho ha hbase hfew hline hs hplain
end
end L2
set_option Elab.async false
set_option linter.all false
set_option maxRecDepth 100000
namespace My
open PySem L2 Mth PyProof.Rows
def flat (ts : List Str) : List Str := ts.flatMap sgs
def tallyK (ks L : List Str) : List (Key × V) := ks.map fun c => ((Sum.inr c : Key), V.int ((L.count c : Nat) : Int))
theorem tally_keys (ks L : List Str) : (tallyK ks L).map (·.1) = ks.map Sum.inr := by
  unfold tallyK
  rw [List.map_map]
  rfl
theorem tally_vals (ks L : List Str) : (tallyK ks L).map (·.2) = (ks.map fun c => ((L.count c : Nat) : Int)).map V.int := by
  unfold tallyK
  rw [List.map_map, List.map_map]
  rfl
theorem tally_in {ks L : List Str} {c : Str} (h : c ∈ ks) : valV (tallyK ks L) (Sum.inr c : Key) = some (.int ((L.count c : Nat) : Int)) := by
  induction ks with
  | nil => cases h
  | cons k ks ih =>
    unfold valV tallyK
    rw [List.map_cons, List.find?_cons]
    by_cases e : k = c
    · subst e
      rw [decide_eq_true rfl]
      rfl
    · rw [decide_eq_false (fun z => e (Sum.inr.inj z))]
      have hc : c ∈ ks := by
        rcases List.mem_cons.mp h with z | z
        · exact absurd z.symm e
        · exact z
      exact ih hc
theorem tally_out {ks L : List Str} {c : Str} (h : c ∉ ks) : valV (tallyK ks L) (Sum.inr c : Key) = none := by
  refine valV_no ?_
  rw [tally_keys]
  intro z
  obtain ⟨x, hx, e⟩ := List.mem_map.mp z
  rw [Sum.inr.inj e] at hx
  exact h hx
theorem tally_get {ks L : List Str} (h : ∀ c, c ∈ ks ↔ c ∈ L) (c : Str) : (valV (tallyK ks L) (Sum.inr c : Key)).getD (.int 0) = .int ((L.count c : Nat) : Int) := by
  by_cases hc : c ∈ ks
  · rw [tally_in hc]
    rfl
  · rw [tally_out hc, List.count_eq_zero.mpr (fun z => hc ((h c).mpr z))]
    rfl
theorem tally_put {ks L : List Str} (nd : ks.Nodup) (h : ∀ c, c ∈ ks ↔ c ∈ L) (c : Str) : ∃ ks' : List Str, ks'.Nodup ∧ (∀ x, x ∈ ks' ↔ x ∈ L ++ [c]) ∧ putK (tallyK ks L) (Sum.inr c : Key) (.int (((L.count c : Nat) : Int) + 1)) = tallyK ks' (L ++ [c]) := by
  have cnt : ∀ x, x ≠ c → (L ++ [c]).count x = L.count x := fun x hx => by
    rw [List.count_append, List.count_singleton, if_neg (by simpa using fun z => hx z.symm)]
    rfl
  have cntc : (L ++ [c]).count c = L.count c + 1 := by
    rw [List.count_append, List.count_singleton, if_pos (by simp)]
  by_cases hc : c ∈ ks
  · refine ⟨ks, nd, fun x => ?_, ?_⟩
    · rw [h x, List.mem_append, List.mem_singleton]
      constructor
      · exact .inl
      · rintro (z | z)
        · exact z
        · rw [z]; exact (h c).mp hc
    · unfold putK
      have ha : ((tallyK ks L).any fun kv => decide (kv.1 = (Sum.inr c : Key))) = true := List.any_eq_true.mpr ⟨((Sum.inr c : Key), V.int ((L.count c : Nat) : Int)), List.mem_map.mpr ⟨c, hc, rfl⟩, decide_eq_true rfl⟩
      rw [if_pos ha]
      unfold tallyK
      rw [List.map_map]
      refine List.map_congr_left fun x _ => ?_
      show (if (Sum.inr x : Key) = Sum.inr c then ((Sum.inr x : Key), V.int _) else (Sum.inr x, V.int _)) = _
      by_cases e : x = c
      · subst e
        rw [if_pos rfl, cntc]
        rfl
      · rw [if_neg (fun z => e (Sum.inr.inj z)), cnt x e]
  · refine ⟨ks ++ [c], ?_, fun x => ?_, ?_⟩
    · refine List.nodup_append.mpr ⟨nd, by simp, ?_⟩
      intro a ha b hb e
      have : b = c := by simpa using hb
      rw [e, this] at ha
      exact hc ha
    · rw [List.mem_append, List.mem_append, h x]
    · rw [putK_new _ (tally_out hc)]
      unfold tallyK
      rw [List.map_append, List.map_cons, List.map_nil, cntc]
      congr 1
      refine List.map_congr_left fun x hx => ?_
      rw [cnt x (fun z => hc (z ▸ hx))]
theorem sum_add_list {α : Type} (f g : α → Int) : ∀ l : List α, (l.map fun x => f x + g x).sum = (l.map f).sum + (l.map g).sum
  | [] => rfl
  | x :: l => by
    rw [List.map_cons, List.map_cons, List.map_cons, List.sum_cons, List.sum_cons, List.sum_cons, sum_add_list f g l]
    omega
theorem sum_ind (c : Str) : ∀ l : List Str, (l.map fun x => if c == x then (1 : Int) else 0).sum = ((l.count c : Nat) : Int)
  | [] => rfl
  | x :: l => by
    rw [List.map_cons, List.sum_cons, sum_ind c l, List.count_cons]
    by_cases e : c = x
    · rw [if_pos (by simpa using e), if_pos (by simpa using e.symm)]
      omega
    · rw [if_neg (by simpa using e), if_neg (by simpa using fun z => e z.symm)]
      omega
theorem cnt1 {c : Str} : ∀ {ks : List Str}, ks.Nodup → c ∈ ks → ks.count c = 1
  | [], _, h => by cases h
  | k :: ks, nd, h => by
    obtain ⟨h1, h2⟩ := List.nodup_cons.mp nd
    rw [List.count_cons]
    by_cases e : k = c
    · subst e
      rw [List.count_eq_zero.mpr h1, if_pos (by simp)]
    · rw [if_neg (by simpa using e), cnt1 h2 ((List.mem_cons.mp h).resolve_left fun z => e z.symm)]
theorem sum_counts {ks : List Str} (nd : ks.Nodup) : ∀ L : List Str, (∀ c ∈ L, c ∈ ks) → (ks.map fun c => ((L.count c : Nat) : Int)).sum = ((L.length : Nat) : Int)
  | [], _ => by
    clear nd
    induction ks with
    | nil => rfl
    | cons k ks ih =>
      rw [List.map_cons, List.sum_cons, ih (fun _ z => nomatch z)]
      rfl
  | c :: L, h => by
    have e : (ks.map fun x => (((c :: L).count x : Nat) : Int)) = ks.map fun x => ((L.count x : Nat) : Int) + (if c == x then (1 : Int) else 0) := by
      refine List.map_congr_left fun x _ => ?_
      rw [List.count_cons]
      by_cases z : (c == x) = true
      · rw [if_pos z, if_pos z]
        omega
      · rw [if_neg z, if_neg z]
        omega
    rw [e, sum_add_list, sum_counts nd L fun x hx => h x (List.mem_cons_of_mem _ hx), sum_ind, cnt1 nd (h c List.mem_cons_self)]
    rfl
theorem eq_of_inc {α : Type} {R : α → α → Prop} (as : ∀ a b, R a b → ¬ R b a) : ∀ {l m : List α}, l.Pairwise R → m.Pairwise R → (∀ x, x ∈ l ↔ x ∈ m) → l = m
  | [], [], _, _, _ => rfl
  | [], b :: m, _, _, h => by have := (h b).mpr List.mem_cons_self; cases this
  | a :: l, [], _, _, h => by have := (h a).mp List.mem_cons_self; cases this
  | a :: l, b :: m, hl, hm, h => by
    obtain ⟨l1, l2⟩ := List.pairwise_cons.mp hl
    obtain ⟨m1, m2⟩ := List.pairwise_cons.mp hm
    have e : a = b := by
      rcases List.mem_cons.mp ((h a).mp List.mem_cons_self) with z | z
      · exact z
      · rcases List.mem_cons.mp ((h b).mpr List.mem_cons_self) with y | y
        · exact y.symm
        · exact absurd (m1 a z) (as a b (l1 b y))
    subst e
    have irr : ∀ x, x = a → (x ∈ l → False) ∧ (x ∈ m → False) := fun x z => by
      subst z
      exact ⟨fun y => as _ _ (l1 _ y) (l1 _ y), fun y => as _ _ (m1 _ y) (m1 _ y)⟩
    rw [eq_of_inc as l2 m2 fun x => ⟨fun hx => ?_, fun hx => ?_⟩]
    · rcases List.mem_cons.mp ((h x).mp (List.mem_cons_of_mem _ hx)) with z | z
      · exact ((irr x z).1 hx).elim
      · exact z
    · rcases List.mem_cons.mp ((h x).mpr (List.mem_cons_of_mem _ hx)) with z | z
      · exact ((irr x z).2 hx).elim
      · exact z
def cpt (x : Str) : Nat := x.cps.toList.headD 0
def Inc (x y : Str) : Prop := cpt x < cpt y
theorem inc_of_sorted : ∀ {ys : List Str}, (∀ y ∈ ys, IsSg y) → ys.Nodup → sortedS ys = true → ys.Pairwise Inc := by
  have key : ∀ (r : List Str) (p : Str), IsSg p → (∀ y ∈ r, IsSg y) → risingS p r = true → (p :: r).Pairwise fun x y => cpt x ≤ cpt y := by
    intro r
    induction r with
    | nil => intro p _ _ _; exact List.pairwise_singleton _ _
    | cons x r ih =>
      intro p hp hr h
      have h : (!Spec.ltCps x.cps.toList p.cps.toList && risingS x r) = true := h
      rw [Bool.and_eq_true] at h
      have hx := hr x List.mem_cons_self
      have t := ih x hx (fun y hy => hr y (List.mem_cons_of_mem _ hy)) h.2
      have hle : cpt p ≤ cpt x := by
        obtain ⟨c, rfl, _⟩ := hp
        obtain ⟨d, rfl, _⟩ := hx
        have h1 : (!(decide (d < c) || (d == c && false))) = true := h.1
        show c ≤ d
        by_cases z : d < c
        · rw [decide_eq_true z] at h1
          cases h1
        · omega
      refine List.pairwise_cons.mpr ⟨fun y hy => ?_, t⟩
      rcases List.mem_cons.mp hy with z | z
      · rw [z]; exact hle
      · exact Nat.le_trans hle ((List.pairwise_cons.mp t).1 y z)
  intro ys hs nd h
  cases ys with
  | nil => exact .nil
  | cons x r =>
    have t := key r x (hs x List.mem_cons_self) (fun y hy => hs y (List.mem_cons_of_mem _ hy)) h
    have t2 := (t.and nd).imp_of_mem (R := fun x y => cpt x ≤ cpt y ∧ x ≠ y) (S := Inc) fun {a b} ha hb ⟨h1, h2⟩ => by
      obtain ⟨c, rfl, _⟩ := hs a ha
      obtain ⟨d, rfl, _⟩ := hs b hb
      have h1 : c ≤ d := h1
      show c < d
      have : c ≠ d := fun z => h2 (by rw [z])
      omega
    exact t2
def abc : List Str := (List.range 26).map fun i => sg (97 + i)
theorem abc_inc : abc.Pairwise Inc := by
  unfold abc
  refine List.pairwise_map.mpr (List.pairwise_lt_range.imp fun {a b} h => ?_)
  show 97 + a < 97 + b
  omega
theorem mem_abc {x : Str} : x ∈ abc ↔ IsSg x := by
  unfold abc
  rw [List.mem_map]
  constructor
  · rintro ⟨i, hi, rfl⟩
    have := List.mem_range.mp hi
    exact ⟨97 + i, rfl, by omega, by omega⟩
  · rintro ⟨c, rfl, h1, h2⟩
    exact ⟨c - 97, List.mem_range.mpr (by omega), by rw [show 97 + (c - 97) = c by omega]⟩
theorem sorted_is {ks ys L : List Str} (nd : ks.Nodup) (h : ∀ c, c ∈ ks ↔ c ∈ L) (hl : ∀ c ∈ L, IsSg c) (p : ys.Perm ks) (hs : sortedS ys = true) : ys = abc.filter fun c => decide (c ∈ L) := by
  have hm : ∀ x, x ∈ ys ↔ x ∈ L := fun x => p.mem_iff.trans (h x)
  refine eq_of_inc (R := Inc) (fun a b h1 h2 => by unfold Inc at h1 h2; omega) (inc_of_sorted (fun y hy => hl y ((hm y).mp hy)) (p.nodup_iff.mpr nd) hs) (abc_inc.filter _) fun x => ?_
  rw [List.mem_filter, mem_abc, decide_eq_true_eq, hm x]
  exact ⟨fun z => ⟨hl x z, z⟩, fun z => z.2⟩
def shareOf (L : List Str) (n : Nat) (c : Str) : Str × Int :=
  (c, if ((L.length : Nat) : Int) + (n : Int) - ((L.count c : Nat) : Int) < ((L.count c : Nat) : Int) then ((L.length : Nat) : Int) + (n : Int) - ((L.count c : Nat) : Int) else ((L.count c : Nat) : Int))
def dueOf (L : List Str) (n : Nat) : List (Str × Int) := (abc.filter fun c => decide (c ∈ L)).map (shareOf L n)
theorem due_few (L : List Str) (n : Nat) : (dueOf L n).length ≤ 26 := by
  unfold dueOf
  rw [List.length_map]
  exact List.length_filter_le _ _
def AllSg (L : List Str) : Prop := ∀ c ∈ L, IsSg c
structure TextsOk (ts : List Str) : Prop where
  few : ts.length ≤ 1000
  len : (flat ts).length ≤ 1000
  sane : ∀ t ∈ ts, Sane t
theorem flat_snoc {ts : List Str} {i : Nat} {z : Str} (h : ts[i]? = some z) : flat (ts.take (i + 1)) = flat (ts.take i) ++ sgs z := by
  unfold flat
  rw [List.take_add_one, h, List.flatMap_append]
  simp
theorem flat_take_all (ts : List Str) : flat (ts.take ts.length) = flat ts := by rw [List.take_length]
theorem mem_flat {ts : List Str} {z c : Str} (hz : z ∈ ts) (hc : c ∈ sgs z) : c ∈ flat ts := List.mem_flatMap.mpr ⟨z, hz, hc⟩
theorem sane_sg {z : Str} {i c : Nat} (h : Sane z) (hc : z.cps[i]? = some c) : Sane (sg c) := by
  refine ⟨by show 1 ≤ 1000; omega, fun d hd => ?_⟩
  have : d = c := by simpa [sg] using hd
  rw [this]
  exact h.2 c (List.mem_of_getElem? (by rw [Array.getElem?_toList]; exact hc))
theorem sgs_at {z : Str} {i c : Nat} (hc : z.cps[i]? = some c) : (sgs z)[i]? = some (sg c) := by
  unfold sgs
  rw [List.getElem?_map, Array.getElem?_toList, hc]
  rfl
theorem str_at {ts : List Str} {i : Nat} {x : V} (h : (ts.map V.str)[i]? = some x) : ∃ t, ts[i]? = some t ∧ x = .str t := by
  rw [List.getElem?_map] at h
  cases e : ts[i]? with
  | none => rw [e] at h; cases h
  | some t => rw [e] at h; cases h; exact ⟨t, rfl, rfl⟩
theorem take_snoc {α : Type} {l : List α} {i : Nat} {x : α} (h : l[i]? = some x) : l.take (i + 1) = l.take i ++ [x] := by
  rw [List.take_add_one, h]
  rfl
theorem all_snoc {L : List Str} {c : Str} (h : AllSg L) (hc : IsSg c) : AllSg (L ++ [c]) := fun x hx => by
  rcases List.mem_append.mp hx with z | z
  · exact h x z
  · rw [List.mem_singleton.mp z]; exact hc
theorem nodup_len {α : Type} [DecidableEq α] : ∀ {ks L : List α}, ks.Nodup → (∀ c ∈ ks, c ∈ L) → ks.length ≤ L.length
  | [], _, _, _ => Nat.zero_le _
  | k :: ks, L, nd, h => by
    obtain ⟨h1, h2⟩ := List.nodup_cons.mp nd
    have hm := h k List.mem_cons_self
    have := nodup_len (L := L.erase k) h2 fun c hc => (List.mem_erase_of_ne (fun (z : c = k) => h1 (z ▸ hc))).mpr (h c (List.mem_cons_of_mem _ hc))
    rw [List.length_erase_of_mem hm] at this
    have := List.length_pos_of_mem hm
    rw [List.length_cons]
    omega
theorem take_app_le {ts : List Str} {i j : Nat} {t : Str} (h : ts[i]? = some t) : (flat (ts.take i) ++ (sgs t).take j).length ≤ (flat ts).length := by
  have e : flat ts = flat (ts.take i) ++ (sgs t ++ flat (ts.drop (i + 1))) := by
    obtain ⟨hi, e⟩ := List.getElem?_eq_some_iff.mp h
    have e2 : ts = ts.take i ++ t :: ts.drop (i + 1) := by
      rw [← e, ← List.drop_eq_getElem_cons hi, List.take_append_drop]
    conv => lhs; rw [e2]
    unfold flat
    rw [List.flatMap_append, List.flatMap_cons]
  rw [e, List.length_append, List.length_append, List.length_append, List.length_take]
  omega
theorem tally_few {ks L L' : List Str} (nd : ks.Nodup) (h : ∀ c, c ∈ ks ↔ c ∈ L') (hl : L'.length ≤ 1000) : (tallyK ks L).length ≤ 1000 := by
  unfold tallyK
  rw [List.length_map]
  exact Nat.le_trans (nodup_len nd fun c hc => (h c).mp hc) hl
inductive I_spCounts (cNS : Addr) (vs : List V) (H : Hp) (Q : VK) (E : XK) : Prop
  | mk (l : Addr) (ts : List Str) (q1 : vs = [.ref l]) (q2 : H l = some (.lst (ts.map V.str))) (q3 : TextsOk ts)
      (q4 : AllSg (flat ts) → ∀ d ks H', Same H H' → H' d = some (.dK (tallyK ks (flat ts))) → ks.Nodup → (∀ c, c ∈ ks ↔ c ∈ flat ts) → Q (.ref d) H')
      (q5 : ¬ AllSg (flat ts) → ∀ H', Same H H' → E (.ref cNS) none H')
def spCounts (cNS : Addr) : Sp := fun vs H Q E => I_spCounts cNS vs H Q E
inductive I_spCounted (cNS : Addr) (vs : List V) (H : Hp) (Q : VK) (E : XK) : Prop
  | mk (l : Addr) (ts : List Str) (q1 : vs = [.ref l]) (q2 : H l = some (.lst (ts.map V.str))) (q3 : TextsOk ts)
      (q4 : AllSg (flat ts) → flat ts ≠ [] → ∀ u H', Same H H' → ModelAt H' u ⟨false, dueOf (flat ts) ts.length, (ts.length : Nat)⟩ → Q u H')
      (q5 : ¬ (AllSg (flat ts) ∧ flat ts ≠ []) → ∀ H', Same H H' → E (.ref cNS) none H')
def spCounted (cNS : Addr) : Sp := fun vs H Q E => I_spCounted cNS vs H Q E
inductive I_spEvened (vs : List V) (H : Hp) (Q : VK) (E : XK) : Prop
  | mk (z : Str) (q1 : vs = [.str z]) (q2 : z.cps.size ≤ 1000) (q3 : ∀ i c, z.cps[i]? = some c → Txt.find z (sg c) = ((i : Nat) : Int))
      (q4 : ∀ u H', Same H H' → ModelAt H' u ⟨true, (sgs z).map fun c => (c, 1), 1⟩ → Q u H')
def spEvened : Sp := fun vs H Q E => I_spEvened vs H Q E
theorem alike_texts {H : Hp} : ∀ (xs : List Str), Alikes H (xs.map V.str) (xs.map V.str) xs.length
  | [] => .nil
  | x :: xs => .str x (alike_texts xs)
theorem join_flat : ∀ ts : List Str, sgs (Txt.join (Str.ofString "") ts) = flat ts := by
  intro ts
  show sgs (Builtin.Str.glued (Str.ofString "") ts) = flat ts
  rw [StrLaws.glued_eq_join]
  induction ts with
  | nil => rfl
  | cons t r ih =>
    cases r with
    | nil =>
      show sgs t = sgs t ++ []
      rw [List.append_nil]
    | cons d r =>
      show sgs (t ++ Str.ofString "" ++ Str.join (Str.ofString "") (d :: r)) = _
      rw [sgs_app, sgs_app, ih]
      show sgs t ++ [] ++ flat (d :: r) = sgs t ++ flat (d :: r)
      rw [List.append_nil]
def lettersS : Str := Str.ofString "abcdefghijklmnopqrstuvwxyz"
theorem letters_cps : lettersS.cps.toList = (List.range 26).map (97 + ·) := by decide +kernel
theorem in_letters (c : Nat) : (!(Builtin.Str.occurrences lettersS ⟨#[c]⟩ 0 lettersS.length 1).isEmpty) = isSg (sg c) := by
  have hm : c ∈ lettersS.cps.toList ↔ isSg (sg c) = true := by
    rw [letters_cps, List.mem_map]
    show _ ↔ (decide (97 ≤ c) && decide (c ≤ 122)) = true
    rw [Bool.and_eq_true, decide_eq_true_eq, decide_eq_true_eq]
    constructor
    · rintro ⟨i, hi, rfl⟩
      have := List.mem_range.mp hi
      omega
    · rintro ⟨h1, h2⟩
      exact ⟨c - 97, List.mem_range.mpr (by omega), by omega⟩
  rcases StrLaws.occ_head lettersS ⟨#[c]⟩ 1 (Nat.le_refl 1) with ⟨h0, hn⟩ | ⟨i, r, h0, hi, _⟩
  · rw [h0]
    cases hd : isSg (sg c) with
    | false => rfl
    | true =>
      obtain ⟨i, h⟩ := (mem_iff_at _ c).mp (hm.mpr hd)
      exact absurd h (hn i)
  · rw [h0]
    exact (hm.mp ((mem_iff_at _ c).mpr ⟨i, hi⟩)).symm
theorem sgs_letters : sgs lettersS = abc := by
  unfold sgs abc
  rw [letters_cps, List.map_map]
  rfl
theorem abc_at {i c : Nat} (h : lettersS.cps[i]? = some c) : abc[i]? = some (sg c) := by
  rw [← sgs_letters]
  exact sgs_at h
theorem flat_app (a b : List Str) : flat (a ++ b) = flat a ++ flat b := List.flatMap_append
theorem flat_one (t : Str) : flat [t] = sgs t := by
  unfold flat
  simp
theorem flat_last (a : List Str) (t : Str) : flat (a ++ [t]) = flat a ++ sgs t := by rw [flat_app, flat_one]
theorem flat_len (ts : List Str) : (flat ts).length = (ts.map (·.length)).sum := by
  unfold flat
  rw [List.length_flatMap]
  congr 1
  refine List.map_congr_left fun t _ => ?_
  exact sgs_length t
theorem sub_len {ts : List Str} {t : Str} (h : t ∈ ts) : t.cps.size ≤ (flat ts).length := by
  obtain ⟨i, e⟩ := List.getElem?_of_mem h
  have := take_app_le (j := (sgs t).length) e
  rw [List.length_append, List.take_length, sgs_length] at this
  omega
theorem sane_of_all {ts : List Str} (h : AllSg (flat ts)) (hl : (flat ts).length ≤ 1000) : ∀ t ∈ ts, Sane t := fun t ht => by
  refine ⟨Nat.le_trans (sub_len ht) hl, fun c hc => ?_⟩
  obtain ⟨d, e, _, h2⟩ := h (sg c) (mem_flat ht (List.mem_map.mpr ⟨c, hc, rfl⟩))
  rw [sg_inj e]
  omega
structure Tx9 (ts : List Str) : Prop where
  few : ts.length ≤ 64
  len : (flat ts).length ≤ 65
  sane : ∀ t ∈ ts, Sane t
theorem Tx9.ok {ts : List Str} (h : Tx9 ts) : TextsOk ts := ⟨by have := h.few; omega, by have := h.len; omega, h.sane⟩
structure TxI (ts : List Str) (n : Nat) : Prop where
  ne : ts ≠ []
  few : ts.length ≤ n + 1
  len : (flat ts).length ≤ n
  all : AllSg (flat ts)
theorem TxI.start : TxI [Str.ofString ""] 0 := ⟨(fun z => nomatch z), Nat.le_refl _, by decide +kernel, fun c hc => by rw [flat_one] at hc; cases hc⟩
theorem TxI.more {ts : List Str} {n : Nat} (h : TxI ts n) : TxI (ts ++ [Str.ofString ""]) (n + 1) := by
  have e : flat (ts ++ [Str.ofString ""]) = flat ts := by
    rw [flat_last]
    exact List.append_nil _
  have h1 := h.few
  have h2 := h.len
  refine ⟨by simp, ?_, ?_, ?_⟩
  · rw [List.length_append, List.length_singleton]; omega
  · rw [e]; omega
  · rw [e]; exact h.all
theorem TxI.sign {ts : List Str} {t : Str} {n c : Nat} (h : TxI (ts ++ [t]) n) (hc : IsSg (sg c)) : TxI (ts ++ [t ++ sg c]) (n + 1) := by
  have e : flat (ts ++ [t ++ sg c]) = flat (ts ++ [t]) ++ [sg c] := by
    rw [flat_last, flat_last, sgs_app, List.append_assoc]
    rfl
  have h1 := h.few
  have h2 := h.len
  rw [List.length_append, List.length_singleton] at h1
  refine ⟨by simp, ?_, ?_, ?_⟩
  · rw [List.length_append, List.length_singleton]; omega
  · rw [e, List.length_append, List.length_singleton]; omega
  · rw [e]; exact all_snoc h.all hc
theorem TxI.tx9 {ts : List Str} {n : Nat} (h : TxI ts n) (hn : n ≤ 62) : Tx9 ts := by
  have h1 := h.few
  have h2 := h.len
  exact ⟨by omega, by omega, sane_of_all h.all (by omega)⟩
theorem TxI.odd {ts : List Str} {n : Nat} (h : TxI ts n) (hn : n ≤ 62) {t : Str} (ht : Sane t) (h3 : t.cps.size ≤ 3) : Tx9 (ts ++ [t]) := by
  have h1 := h.few
  have h2 := h.len
  refine ⟨?_, ?_, fun x hx => ?_⟩
  · rw [List.length_append, List.length_singleton]; omega
  · rw [flat_last, List.length_append, sgs_length]; omega
  · rcases List.mem_append.mp hx with z | z
    · exact (h.tx9 hn).sane x z
    · rw [List.mem_singleton.mp z]; exact ht
theorem rep_texts (k : Nat) : (List.replicate k [V.str (Str.ofString "")]).flatten = (List.replicate k (Str.ofString "")).map V.str := by
  induction k with
  | zero => rfl
  | succ k ih =>
    rw [List.replicate_succ, List.replicate_succ, List.flatten_cons, ih]
    rfl
theorem Tx9.rep {k : Nat} (hk : k ≤ 3) : Tx9 (List.replicate k (Str.ofString "")) := by
  have e : flat (List.replicate k (Str.ofString "")) = [] := by
    clear hk
    induction k with
    | zero => rfl
    | succ k ih =>
      rw [List.replicate_succ]
      show sgs (Str.ofString "") ++ flat (List.replicate k (Str.ofString "")) = []
      rw [ih]
      rfl
  refine ⟨by rw [List.length_replicate]; omega, by rw [e]; exact Nat.zero_le _, fun t ht => ?_⟩
  rw [List.eq_of_mem_replicate ht]
  exact ⟨by decide +kernel, fun c hc => nomatch hc⟩
theorem two_at {a b i : Int} (ha : 0 ≤ a ∧ a < 26) (hb : 0 ≤ b ∧ b < 26) (hi : 0 ≤ i ∧ i < 2) : ∃ v, atI [V.int a, V.int b] i = some (.int v) ∧ 0 ≤ v ∧ v < 26 := by
  have : i = 0 ∨ i = 1 := by omega
  rcases this with rfl | rfl
  · exact ⟨a, rfl, ha⟩
  · exact ⟨b, rfl, hb⟩
theorem four_at {i : Int} (hi : 0 ≤ i ∧ i < 4) : ∃ t : Str, atI [V.str (Str.ofString "A"), V.str (Str.ofString "a b"), V.str (Str.ofString "z1"), V.str (Str.ofString ".")] i = some (.str t) ∧ Sane t ∧ t.cps.size ≤ 3 := by
  have : i = 0 ∨ i = 1 ∨ i = 2 ∨ i = 3 := by omega
  rcases this with rfl | rfl | rfl | rfl
  · exact ⟨_, rfl, ⟨by decide +kernel, by decide +kernel⟩, by decide +kernel⟩
  · exact ⟨_, rfl, ⟨by decide +kernel, by decide +kernel⟩, by decide +kernel⟩
  · exact ⟨_, rfl, ⟨by decide +kernel, by decide +kernel⟩, by decide +kernel⟩
  · exact ⟨_, rfl, ⟨by decide +kernel, by decide +kernel⟩, by decide +kernel⟩
theorem letters_at {v : Int} (h0 : 0 ≤ v) (h1 : v < 26) : atI lettersS.cps.toList v = some (97 + v.toNat) := by
  obtain ⟨j, rfl⟩ : ∃ j : Nat, v = (j : Int) := ⟨v.toNat, by omega⟩
  refine atI_nat ?_
  rw [letters_cps, List.getElem?_map, List.getElem?_range (by omega)]
  rfl
theorem cut1_len (xs : List V) : (cutV xs (some 1) none).length ≤ xs.length - 1 := by
  unfold cutV
  rw [show (some (1 : Int)) = some ((1 : Nat) : Int) from rfl, HT.sIx_nat, List.length_take, List.length_drop]
  omega
theorem inV_strs (c : Str) (ys : List Str) : inV (.str c) (ys.map V.str) = decide (c ∈ ys) := by
  unfold inV
  rw [List.any_map]
  by_cases h : c ∈ ys
  · rw [decide_eq_true h, List.any_eq_true]
    exact ⟨c, h, by show (c == c) = true; exact beq_self_eq_true _⟩
  · rw [decide_eq_false h, List.any_eq_false]
    intro x hx z
    have z : (x == c) = true := z
    rw [beq_iff_eq] at z
    exact h (z ▸ hx)
theorem cnt_strs (c : Str) (ys : List Str) : (ys.map V.str).countP (fun z => eqV z (.str c)) = ys.count c := by
  rw [List.countP_map]
  rfl
theorem flat_strs (xs : List Str) : (xs.map V.str).all flatV = true := by
  rw [List.all_map]
  exact List.all_eq_true.mpr fun _ _ => rfl
theorem eqVs_nil (xs : List V) : eqVs xs [] = xs.isEmpty := by
  cases xs with
  | nil => rfl
  | cons x r => exact eqVs_len (fun z => nomatch z)
def bads (ys : List Str) : List Str := ys.filter fun c => !isSg c
theorem bads_iff {ys L : List Str} (p : ys.Perm L) : (ys.map V.str).isEmpty = false → ((!((bads ys).map V.str).isEmpty) = true ↔ ¬ (AllSg L ∧ L ≠ [])) := fun he => by
  have hne : L ≠ [] := fun z => by
    rw [z] at p
    rw [p.eq_nil] at he
    cases he
  have h1 : ((bads ys).map V.str).isEmpty = true ↔ AllSg L := by
    rw [List.isEmpty_iff, List.map_eq_nil_iff]
    unfold bads
    rw [List.filter_eq_nil_iff]
    constructor
    · intro h c hc
      have := h c (p.mem_iff.mpr hc)
      refine isSg_iff.mp ?_
      cases z : isSg c with
      | true => rfl
      | false => rw [z] at this; exact absurd rfl this
    · intro h c hc
      rw [isSg_iff.mpr (h c (p.mem_iff.mp hc))]
      decide
  rw [← h1]
  cases ((bads ys).map V.str).isEmpty with
  | true => exact ⟨(fun z => nomatch z), fun z => absurd ⟨rfl, hne⟩ z⟩
  | false => exact ⟨(fun _ z => nomatch z.1), fun _ => rfl⟩
theorem empty_bad {ys L : List Str} (p : ys.Perm L) (h : (ys.map V.str).isEmpty = true) : ¬ (AllSg L ∧ L ≠ []) := fun z => by
  rw [List.isEmpty_iff, List.map_eq_nil_iff] at h
  rw [h] at p
  exact z.2 p.symm.eq_nil
def dueUp (L : List Str) (n i : Nat) : List (Str × Int) := ((abc.take i).filter fun c => decide (c ∈ L)).map (shareOf L n)
theorem dueUp_in {L : List Str} {n i : Nat} {c : Str} (h : abc[i]? = some c) (hc : c ∈ L) : dueUp L n (i + 1) = dueUp L n i ++ [shareOf L n c] := by
  unfold dueUp
  rw [take_snoc h, List.filter_append, List.map_append]
  congr 1
  rw [List.filter_cons, if_pos (decide_eq_true hc)]
  rfl
theorem dueUp_out {L : List Str} {n i : Nat} {c : Str} (h : abc[i]? = some c) (hc : c ∉ L) : dueUp L n (i + 1) = dueUp L n i := by
  unfold dueUp
  rw [take_snoc h, List.filter_append, List.map_append, List.filter_cons, if_neg (by simpa using hc)]
  exact List.append_nil _
theorem dueUp_all (L : List Str) (n : Nat) : dueUp L n lettersS.cps.size = dueOf L n := by
  have e : lettersS.cps.size = abc.length := by decide +kernel
  unfold dueUp dueOf
  rw [e, List.take_length]
theorem dueUp_few (L : List Str) (n i : Nat) : (dueUp L n i).length ≤ 26 := by
  unfold dueUp
  rw [List.length_map]
  refine Nat.le_trans (List.length_filter_le _ _) ?_
  rw [List.length_take]
  exact Nat.min_le_right _ _
inductive MidA (p1 : Addr) (ms : List Int) (σ : L2.St) (H : Hp) : Prop
  | mk (p : Addr) (ts : List Str) (x y : Option V) (h1 : H p1 = some (.lst (ms.map V.int))) (h2 : H p = some (.lst (ts.map V.str))) (ok : Tx9 ts)
      (hs : σ = [some (.ref p1), some (.str lettersS), some (.ref p), x, y, none, none, none, none, none, none, none, none, none, none])
inductive MidB (p1 : Addr) (ms : List Int) (p l : Addr) (ts ys : List Str) (σ : L2.St) (H : Hp) : Prop
  | mk (x y : Option V) (b : Bool) (h1 : H p1 = some (.lst (ms.map V.int))) (h2 : H p = some (.lst (ts.map V.str))) (hl : H l = some (.lst (ys.map V.str))) (hb : b = true ↔ ¬ (AllSg (flat ts) ∧ flat ts ≠ []))
      (hs : σ = [some (.ref p1), some (.str lettersS), some (.ref p), x, y, some (.ref l), some (.bl b), none, none, none, none, none, none, none, none])
inductive MidD (p1 : Addr) (ms : List Int) (p q pd : Addr) (ts : List Str) (σ : L2.St) (H : Hp) : Prop
  | mk (x y a5 a8 a9 fo : Option V) (b rf : Bool) (h1 : H p1 = some (.lst (ms.map V.int))) (h2 : H p = some (.lst (ts.map V.str))) (hq : H q = some (.lst (ts.map V.str))) (hd : PairsAt H pd (dueOf (flat ts) ts.length)) (hb : b = true ↔ ¬ (AllSg (flat ts) ∧ flat ts ≠ []))
      (hr : (rf = true ∧ ¬ (AllSg (flat ts) ∧ flat ts ≠ [])) ∨ (rf = false ∧ (AllSg (flat ts) ∧ flat ts ≠ []) ∧ ∃ v, fo = some v ∧ ModelAt H v ⟨false, dueOf (flat ts) ts.length, (ts.length : Nat)⟩))
      (hs : σ = [some (.ref p1), some (.str lettersS), some (.ref p), x, y, a5, some (.bl b), some (.ref pd), a8, a9, some (.ref q), fo, some (.bl rf), none, none])
end My
set_option Elab.async false
set_option linter.all false
set_option maxRecDepth 100000
namespace My
open PySem L2 Mth PyProof.Rows
theorem bads_in {ys : List Str} {i : Nat} {c : Str} (h : ys[i]? = some c) (hc : (!isSg c) = true) : (bads (ys.take i)).map V.str ++ [V.str c] = (bads (ys.take (i + 1))).map V.str := by
  unfold bads
  rw [take_snoc h, List.filter_append, List.map_append, List.filter_cons, if_pos hc]
  rfl
theorem bads_out {ys : List Str} {i : Nat} {c : Str} (h : ys[i]? = some c) (hc : (!isSg c) = false) : (bads (ys.take i)).map V.str = (bads (ys.take (i + 1))).map V.str := by
  unfold bads
  rw [take_snoc h, List.filter_append, List.map_append, List.filter_cons, if_neg (by rw [hc]; decide)]
  exact (List.append_nil _).symm
theorem line9 (C D : Addr) : ((Value.ref C :: (.ref D :: VE)).contains (.ref C)) = true := by simp
def zaqS (m : Int) : Str := Txt.slice (Str.ofString "zaq") none (some (1 + m))
theorem zaq_all {m : Int} (h : m = 0 ∨ m = 1 ∨ m = 2) : (zaqS m).cps.size ≤ 1000 ∧ (∀ i c, (zaqS m).cps[i]? = some c → Txt.find (zaqS m) (sg c) = ((i : Nat) : Int)) ∧
    ∀ (H : Hp) (v1 v2 v3 : V), PairAt H v1 (Str.ofString "z", 1) → PairAt H v2 (Str.ofString "a", 1) → PairAt H v3 (Str.ofString "q", 1) → Paired (PairAt H) (cutV [v1, v2, v3] none (some (1 + m))) ((sgs (zaqS m)).map fun c => (c, (1 : Int))) := by
  rcases h with rfl | rfl | rfl
  · have e : zaqS 0 = Str.ofString "z" := by decide +kernel
    rw [e]
    refine ⟨by decide +kernel, fun i c hc => ?_, fun H v1 v2 v3 h1 h2 h3 => .cons h1 .nil⟩
    match i, hc with
    | 0, hc => cases hc; decide +kernel
  · have e : zaqS 1 = Str.ofString "za" := by decide +kernel
    rw [e]
    refine ⟨by decide +kernel, fun i c hc => ?_, fun H v1 v2 v3 h1 h2 h3 => .cons h1 (.cons h2 .nil)⟩
    match i, hc with
    | 0, hc => cases hc; decide +kernel
    | 1, hc => cases hc; decide +kernel
  · have e : zaqS 2 = Str.ofString "zaq" := by decide +kernel
    rw [e]
    refine ⟨by decide +kernel, fun i c hc => ?_, fun H v1 v2 v3 h1 h2 h3 => .cons h1 (.cons h2 (.cons h3 .nil))⟩
    match i, hc with
    | 0, hc => cases hc; decide +kernel
    | 1, hc => cases hc; decide +kernel
    | 2, hc => cases hc; decide +kernel
end My
set_option Elab.async false
set_option linter.all false
set_option maxRecDepth 100000
namespace L2
open PySem PySem.Spec PyProof.Rows
inductive E2 {α0 α1 : Type} (p : α0 → α1 → Prop) : Prop
  | mk (a0 : α0) (a1 : α1) (h : p a0 a1)
inductive E3 {α0 α1 α2 : Type} (p : α0 → α1 → α2 → Prop) : Prop
  | mk (a0 : α0) (a1 : α1) (a2 : α2) (h : p a0 a1 a2)
inductive E4 {α0 α1 α2 α3 : Type} (p : α0 → α1 → α2 → α3 → Prop) : Prop
  | mk (a0 : α0) (a1 : α1) (a2 : α2) (a3 : α3) (h : p a0 a1 a2 a3)
inductive E5 {α0 α1 α2 α3 α4 : Type} (p : α0 → α1 → α2 → α3 → α4 → Prop) : Prop
  | mk (a0 : α0) (a1 : α1) (a2 : α2) (a3 : α3) (a4 : α4) (h : p a0 a1 a2 a3 a4)
inductive E6 {α0 α1 α2 α3 α4 α5 : Type} (p : α0 → α1 → α2 → α3 → α4 → α5 → Prop) : Prop
  | mk (a0 : α0) (a1 : α1) (a2 : α2) (a3 : α3) (a4 : α4) (a5 : α5) (h : p a0 a1 a2 a3 a4 a5)
inductive E7 {α0 α1 α2 α3 α4 α5 α6 : Type} (p : α0 → α1 → α2 → α3 → α4 → α5 → α6 → Prop) : Prop
  | mk (a0 : α0) (a1 : α1) (a2 : α2) (a3 : α3) (a4 : α4) (a5 : α5) (a6 : α6) (h : p a0 a1 a2 a3 a4 a5 a6)
inductive E8 {α0 α1 α2 α3 α4 α5 α6 α7 : Type} (p : α0 → α1 → α2 → α3 → α4 → α5 → α6 → α7 → Prop) : Prop
  | mk (a0 : α0) (a1 : α1) (a2 : α2) (a3 : α3) (a4 : α4) (a5 : α5) (a6 : α6) (a7 : α7) (h : p a0 a1 a2 a3 a4 a5 a6 a7)
inductive E9 {α0 α1 α2 α3 α4 α5 α6 α7 α8 : Type} (p : α0 → α1 → α2 → α3 → α4 → α5 → α6 → α7 → α8 → Prop) : Prop
  | mk (a0 : α0) (a1 : α1) (a2 : α2) (a3 : α3) (a4 : α4) (a5 : α5) (a6 : α6) (a7 : α7) (a8 : α8) (h : p a0 a1 a2 a3 a4 a5 a6 a7 a8)
inductive E10 {α0 α1 α2 α3 α4 α5 α6 α7 α8 α9 : Type} (p : α0 → α1 → α2 → α3 → α4 → α5 → α6 → α7 → α8 → α9 → Prop) : Prop
  | mk (a0 : α0) (a1 : α1) (a2 : α2) (a3 : α3) (a4 : α4) (a5 : α5) (a6 : α6) (a7 : α7) (a8 : α8) (a9 : α9) (h : p a0 a1 a2 a3 a4 a5 a6 a7 a8 a9)
inductive E11 {α0 α1 α2 α3 α4 α5 α6 α7 α8 α9 α10 : Type} (p : α0 → α1 → α2 → α3 → α4 → α5 → α6 → α7 → α8 → α9 → α10 → Prop) : Prop
  | mk (a0 : α0) (a1 : α1) (a2 : α2) (a3 : α3) (a4 : α4) (a5 : α5) (a6 : α6) (a7 : α7) (a8 : α8) (a9 : α9) (a10 : α10) (h : p a0 a1 a2 a3 a4 a5 a6 a7 a8 a9 a10)
inductive E12 {α0 α1 α2 α3 α4 α5 α6 α7 α8 α9 α10 α11 : Type} (p : α0 → α1 → α2 → α3 → α4 → α5 → α6 → α7 → α8 → α9 → α10 → α11 → Prop) : Prop
  | mk (a0 : α0) (a1 : α1) (a2 : α2) (a3 : α3) (a4 : α4) (a5 : α5) (a6 : α6) (a7 : α7) (a8 : α8) (a9 : α9) (a10 : α10) (a11 : α11) (h : p a0 a1 a2 a3 a4 a5 a6 a7 a8 a9 a10 a11)
inductive E13 {α0 α1 α2 α3 α4 α5 α6 α7 α8 α9 α10 α11 α12 : Type} (p : α0 → α1 → α2 → α3 → α4 → α5 → α6 → α7 → α8 → α9 → α10 → α11 → α12 → Prop) : Prop
  | mk (a0 : α0) (a1 : α1) (a2 : α2) (a3 : α3) (a4 : α4) (a5 : α5) (a6 : α6) (a7 : α7) (a8 : α8) (a9 : α9) (a10 : α10) (a11 : α11) (a12 : α12) (h : p a0 a1 a2 a3 a4 a5 a6 a7 a8 a9 a10 a11 a12)
inductive E14 {α0 α1 α2 α3 α4 α5 α6 α7 α8 α9 α10 α11 α12 α13 : Type} (p : α0 → α1 → α2 → α3 → α4 → α5 → α6 → α7 → α8 → α9 → α10 → α11 → α12 → α13 → Prop) : Prop
  | mk (a0 : α0) (a1 : α1) (a2 : α2) (a3 : α3) (a4 : α4) (a5 : α5) (a6 : α6) (a7 : α7) (a8 : α8) (a9 : α9) (a10 : α10) (a11 : α11) (a12 : α12) (a13 : α13) (h : p a0 a1 a2 a3 a4 a5 a6 a7 a8 a9 a10 a11 a12 a13)
inductive E15 {α0 α1 α2 α3 α4 α5 α6 α7 α8 α9 α10 α11 α12 α13 α14 : Type} (p : α0 → α1 → α2 → α3 → α4 → α5 → α6 → α7 → α8 → α9 → α10 → α11 → α12 → α13 → α14 → Prop) : Prop
  | mk (a0 : α0) (a1 : α1) (a2 : α2) (a3 : α3) (a4 : α4) (a5 : α5) (a6 : α6) (a7 : α7) (a8 : α8) (a9 : α9) (a10 : α10) (a11 : α11) (a12 : α12) (a13 : α13) (a14 : α14) (h : p a0 a1 a2 a3 a4 a5 a6 a7 a8 a9 a10 a11 a12 a13 a14)
inductive E16 {α0 α1 α2 α3 α4 α5 α6 α7 α8 α9 α10 α11 α12 α13 α14 α15 : Type} (p : α0 → α1 → α2 → α3 → α4 → α5 → α6 → α7 → α8 → α9 → α10 → α11 → α12 → α13 → α14 → α15 → Prop) : Prop
  | mk (a0 : α0) (a1 : α1) (a2 : α2) (a3 : α3) (a4 : α4) (a5 : α5) (a6 : α6) (a7 : α7) (a8 : α8) (a9 : α9) (a10 : α10) (a11 : α11) (a12 : α12) (a13 : α13) (a14 : α14) (a15 : α15) (h : p a0 a1 a2 a3 a4 a5 a6 a7 a8 a9 a10 a11 a12 a13 a14 a15)
inductive E17 {α0 α1 α2 α3 α4 α5 α6 α7 α8 α9 α10 α11 α12 α13 α14 α15 α16 : Type} (p : α0 → α1 → α2 → α3 → α4 → α5 → α6 → α7 → α8 → α9 → α10 → α11 → α12 → α13 → α14 → α15 → α16 → Prop) : Prop
  | mk (a0 : α0) (a1 : α1) (a2 : α2) (a3 : α3) (a4 : α4) (a5 : α5) (a6 : α6) (a7 : α7) (a8 : α8) (a9 : α9) (a10 : α10) (a11 : α11) (a12 : α12) (a13 : α13) (a14 : α14) (a15 : α15) (a16 : α16) (h : p a0 a1 a2 a3 a4 a5 a6 a7 a8 a9 a10 a11 a12 a13 a14 a15 a16)
inductive E18 {α0 α1 α2 α3 α4 α5 α6 α7 α8 α9 α10 α11 α12 α13 α14 α15 α16 α17 : Type} (p : α0 → α1 → α2 → α3 → α4 → α5 → α6 → α7 → α8 → α9 → α10 → α11 → α12 → α13 → α14 → α15 → α16 → α17 → Prop) : Prop
  | mk (a0 : α0) (a1 : α1) (a2 : α2) (a3 : α3) (a4 : α4) (a5 : α5) (a6 : α6) (a7 : α7) (a8 : α8) (a9 : α9) (a10 : α10) (a11 : α11) (a12 : α12) (a13 : α13) (a14 : α14) (a15 : α15) (a16 : α16) (a17 : α17) (h : p a0 a1 a2 a3 a4 a5 a6 a7 a8 a9 a10 a11 a12 a13 a14 a15 a16 a17)
inductive A3 (a0 a1 a2 : Prop) : Prop
  | mk (h0 : a0) (h1 : a1) (h2 : a2)
inductive A4 (a0 a1 a2 a3 : Prop) : Prop
  | mk (h0 : a0) (h1 : a1) (h2 : a2) (h3 : a3)
inductive A5 (a0 a1 a2 a3 a4 : Prop) : Prop
  | mk (h0 : a0) (h1 : a1) (h2 : a2) (h3 : a3) (h4 : a4)
inductive A6 (a0 a1 a2 a3 a4 a5 : Prop) : Prop
  | mk (h0 : a0) (h1 : a1) (h2 : a2) (h3 : a3) (h4 : a4) (h5 : a5)
inductive A7 (a0 a1 a2 a3 a4 a5 a6 : Prop) : Prop
  | mk (h0 : a0) (h1 : a1) (h2 : a2) (h3 : a3) (h4 : a4) (h5 : a5) (h6 : a6)
inductive A8 (a0 a1 a2 a3 a4 a5 a6 a7 : Prop) : Prop
  | mk (h0 : a0) (h1 : a1) (h2 : a2) (h3 : a3) (h4 : a4) (h5 : a5) (h6 : a6) (h7 : a7)
inductive A9 (a0 a1 a2 a3 a4 a5 a6 a7 a8 : Prop) : Prop
  | mk (h0 : a0) (h1 : a1) (h2 : a2) (h3 : a3) (h4 : a4) (h5 : a5) (h6 : a6) (h7 : a7) (h8 : a8)
inductive A10 (a0 a1 a2 a3 a4 a5 a6 a7 a8 a9 : Prop) : Prop
  | mk (h0 : a0) (h1 : a1) (h2 : a2) (h3 : a3) (h4 : a4) (h5 : a5) (h6 : a6) (h7 : a7) (h8 : a8) (h9 : a9)
inductive A11 (a0 a1 a2 a3 a4 a5 a6 a7 a8 a9 a10 : Prop) : Prop
  | mk (h0 : a0) (h1 : a1) (h2 : a2) (h3 : a3) (h4 : a4) (h5 : a5) (h6 : a6) (h7 : a7) (h8 : a8) (h9 : a9) (h10 : a10)
inductive A12 (a0 a1 a2 a3 a4 a5 a6 a7 a8 a9 a10 a11 : Prop) : Prop
  | mk (h0 : a0) (h1 : a1) (h2 : a2) (h3 : a3) (h4 : a4) (h5 : a5) (h6 : a6) (h7 : a7) (h8 : a8) (h9 : a9) (h10 : a10) (h11 : a11)
inductive A13 (a0 a1 a2 a3 a4 a5 a6 a7 a8 a9 a10 a11 a12 : Prop) : Prop
  | mk (h0 : a0) (h1 : a1) (h2 : a2) (h3 : a3) (h4 : a4) (h5 : a5) (h6 : a6) (h7 : a7) (h8 : a8) (h9 : a9) (h10 : a10) (h11 : a11) (h12 : a12)
inductive A14 (a0 a1 a2 a3 a4 a5 a6 a7 a8 a9 a10 a11 a12 a13 : Prop) : Prop
  | mk (h0 : a0) (h1 : a1) (h2 : a2) (h3 : a3) (h4 : a4) (h5 : a5) (h6 : a6) (h7 : a7) (h8 : a8) (h9 : a9) (h10 : a10) (h11 : a11) (h12 : a12) (h13 : a13)
end L2
set_option Elab.async false
set_option linter.all false
namespace My
open PySem PySem.W
def topRunT (tb : String → Option Builtin) (p : Program) (w : World) (n₀ : Nat) (ann : Option Value) : Nat → SharedT → Thread → Option SharedT
  | 0, _, _ => none
  | n + 1, s, t => match through t with
    | true => some s
    | false => match stepOk n₀ ann t with
      | false => none
      | true => match stepT (denote tb) p w s t with
        | some r => topRunT tb p w n₀ ann n r.1 r.2
        | none => none
theorem topRun_ofT {tb : String → Option Builtin} {p : Program} {w : World} {n₀ : Nat} {ann : Option Value} : ∀ (n : Nat) (x y : SharedT) (t : Thread), topRunT tb p w n₀ ann n x t = some y → topRun tb p w n₀ ann n x.abs t = some y.abs
  | 0, _, _, _, h => nomatch h
  | n + 1, x, y, t, h => by
    rw [topRunT] at h
    rw [topRun]
    cases c1 : through t with
    | true => rw [c1] at h; injection h with e; rw [e]
    | false =>
      rw [c1] at h
      cases c2 : stepOk n₀ ann t with
      | false => rw [c2] at h; exact nomatch h
      | true =>
        rw [c2] at h
        cases c3 : stepT (denote tb) p w x t with
        | none => rw [c3] at h; exact nomatch h
        | some r => rw [c3] at h; rw [stepT_spec (s' := r.1) (t' := r.2) c3]; exact topRun_ofT n r.1 y r.2 h
def topAsk {α : Type} (p q : Program) (loose : List Str) (Xt : Shared → Bool) (Yf : Shared → α) (B : Params → Heap) (T : Params → BT) (n₀ : Nat) (ann : Option Value) (M : Nat) (life : Params → Life) (d₀ : Drawn) (k₀ : Nat) (w : World) (os : OsState) :=
  (topRunT treeTable p w n₀ ann M ⟨T w.params, n₀, life w.params, Array.mk [], d₀, k₀, os⟩ (topStub p)).map fun x =>
    (staticsOk (importedModules p.main.body) (B w.params) x.abs.heap && namesBound p x.abs.heap && gensDone x.abs && laidKept (B w.params) x.abs.heap, openSeen q loose (importedModules p.main.body) Xt true x.abs, Yf x.abs)
theorem left_of {p q : Program} {loose : List Str} {Xt : Shared → Bool} {α : Type} {Yf : Shared → α} {Ya : World → α} {N M n₀ : Nat} {ann : Option Value} {B : Params → Heap} {T : Params → BT} {life : Params → Life} {d₀ : Drawn} {k₀ : Nat}
    (fo : ∀ w : World, (fencedOpening treeTable p w N).map (fun s => (s.heap, s.gens, s.drawn, s.toks)) = some (B w.params, Array.mk [], d₀, k₀))
    (tr : ∀ P, B P = absHeap (T P) n₀ (life P))
    (sz : ∀ w : World, ((B w.params).isNs mainGlobals && (Array.mk ([] : List GenState)).size == 0, (B w.params).objs.size, (B w.params).nsMap mainGlobals "__annotations__") = (true, n₀, ann)) (le : Nat.ble M N = true)
    (lk : ∀ (w : World) (os : OsState), topAsk p q loose Xt Yf B T n₀ ann M life d₀ k₀ w os = some (true, openGood q loose, Ya w)) : LeftO p q loose Xt Yf Ya N := by
  intro w
  obtain ⟨s0, f1, f2⟩ := Option.map_eq_some_iff.mp (fo w)
  obtain ⟨hp, gn, dr, tk, os⟩ := s0
  injection f2 with i1 f2
  injection f2 with i2 f2
  injection f2 with i3 i4
  dsimp only at i1 i2 i3 i4
  subst i1 i2 i3 i4
  have g1 := congrArg Prod.fst (sz w)
  have g2 := congrArg (fun z => z.2.1) (sz w)
  have g3 := congrArg (fun z => z.2.2) (sz w)
  dsimp only at g1 g2 g3
  obtain ⟨y, r1, l⟩ := Option.map_eq_some_iff.mp (lk w os)
  have l1 := congrArg Prod.fst l
  have l2 := congrArg (fun z => z.2.1) l
  have l3 := congrArg (fun z => z.2.2) l
  dsimp only at l1 l2 l3
  have r2 := topRun_mono (N - M) _ _ _ _ (topRun_ofT _ _ _ _ r1)
  have hN : M + (N - M) = N := Nat.add_sub_cancel' (Nat.le_of_ble_eq_true le)
  rw [hN, show SharedT.abs ⟨T w.params, n₀, life w.params, Array.mk [], dr, tk, os⟩ = (⟨B w.params, Array.mk [], dr, tk, os⟩ : Shared) from by rw [SharedT.abs, ← tr]] at r2
  have t : topFrom treeTable p w N ⟨B w.params, Array.mk [], dr, tk, os⟩ = some y.abs := by
    unfold topFrom
    dsimp only
    rw [g1, g2, g3, r2]
    dsimp only [Option.bind]
    rw [l1]
  rw [openEnds, f1]
  show (topFrom treeTable p w N _).map _ = _
  rw [t]
  exact congrArg some (Prod.ext l2 l3)
end My
set_option Elab.async false
set_option linter.all false
set_option maxRecDepth 100000
set_option maxHeartbeats 4000000
namespace My
open PySem L2 Mth
def top (i : Nat) : Stmt := PySem.Challenge.pw_sharepress_k09_counted.main.body.getD i (.Pass ⟨0, 0, 0, 0⟩)
abbrev s_is_sign : Stmt := top 4
theorem sc_is_sign : FnScope ["text"] ["text"] (defScope s_is_sign) := ⟨rfl, rfl, rfl, by decide +kernel, rfl, by decide +kernel, by decide +kernel⟩
abbrev s__law_at : Stmt := top 10
theorem sc__law_at : FnScope ["_law_script", "_law_k"] ["_law_script", "_law_k"] (defScope s__law_at) := ⟨rfl, rfl, rfl, by decide +kernel, rfl, by decide +kernel, by decide +kernel⟩
abbrev s__law_stays_so : Stmt := top 11
theorem sc__law_stays_so : FnScope ["_law_handed", "_law_own", "_law_left", "_law_right", "_law_one", "_law_two"] ["_law_handed", "_law_own"] (defScope s__law_stays_so) := ⟨rfl, rfl, rfl, by decide +kernel, rfl, by decide +kernel, by decide +kernel⟩
abbrev s_counts_of : Stmt := top 6
theorem sc_counts_of : FnScope ["texts", "counts", "text", "sign"] ["texts"] (defScope s_counts_of) := ⟨rfl, rfl, rfl, by decide +kernel, rfl, by decide +kernel, by decide +kernel⟩
abbrev s_counted : Stmt := top 7
theorem sc_counted : FnScope ["texts", "counts", "end", "total", "shares"] ["texts"] (defScope s_counted) := ⟨rfl, rfl, rfl, by decide +kernel, rfl, by decide +kernel, by decide +kernel⟩
abbrev s_evened : Stmt := top 8
theorem sc_evened : FnScope ["signs", "shares"] ["signs"] (defScope s_evened) := ⟨rfl, rfl, rfl, by decide +kernel, rfl, by decide +kernel, by decide +kernel⟩
abbrev s_law : Stmt := top 12
theorem sc_law : FnScope ["_law_script", "_law_letters", "_law_texts", "_law_cell", "_law_spot", "_law_signs", "_law_bad", "_law_due", "_law_sign", "_law_many", "_law_handed", "_law_found", "_law_refused", "_law_told", "_law_even"] ["_law_script"] (defScope s_law) := ⟨rfl, rfl, rfl, by decide +kernel, rfl, by decide +kernel, by decide +kernel⟩
section
variable {P : Program} {w : World} {K : PySem.W.Frag} {mg : Str → Option Value} {base : Heap} {aS aK : Addr} {cl : Cls}
theorem okg_is_sign {f : Addr} {fd : FuncData} (F : Fun K "is_sign" "is_sign" s_is_sign f fd) (T : Txt K mg aS aK) : FnOk P w K mg base CX0 1 f fd ["text"] spSignG := by
  refine F.ok sc_is_sign (fun vs H Q E h => ?_) (fun cdv A outer s H vs Q E hr h => ?_)
  · obtain ⟨x, rfl, _⟩ := h
    rfl
  · obtain ⟨x, rfl, hx, k⟩ := h
    refine ⟨_, (pss_one (ps_ret (pe_and (pe_cmpR op_eq (pe_callB call_len_str (by rfl) T.len PySem.boot_len (pa_cons (pv 0) pa_nil)) pe_int (nomark _)) (pe_one (pe_chain op_le_str op_le_str pe_str (pv 0) pe_str))))), ?_⟩
    refine ⟨_, rfl, _, rfl, small_line (show x.cps.size ≤ 1000000 by omega), rfl, _, rfl, if2 (fun e => ?_) (fun e => ?_)⟩
    · have e : V.int (x.length : Nat) = V.int 1 := of_decide_eq_true e
      have e : x.cps.size = 1 := by
        injection e with e
        have e : ((x.cps.size : Nat) : Int) = 1 := e
        omega
      obtain ⟨c, rfl⟩ := one_sg e
      have kk : Q (.bl (decide (97 ≤ c) && decide (c ≤ 122))) H := k
      refine ⟨_, rfl, _, _, rfl, rfl, _, rfl, if2 (fun e2 => ?_) (fun e2 => ?_)⟩
      · refine ⟨_, _, rfl, rfl, ?_⟩
        rw [sg_leB] at e2
        rw [e2, Bool.true_and, ← sg_geB] at kk
        exact kk
      · rw [sg_leB] at e2
        rw [e2, Bool.false_and] at kk
        exact kk
    · have e : ¬ V.int (x.length : Nat) = V.int 1 := of_decide_eq_false e
      have kk : isSg x = false := by
        cases hq : isSg x with
        | false => rfl
        | true =>
          obtain ⟨c, rfl, _⟩ := isSg_iff.mp hq
          exact absurd rfl e
      rw [kk] at k
      exact k
end
section
variable {P : Program} {w : World} {K : PySem.W.Frag} {mg : Str → Option Value} {base : Heap} {aS aK : Addr}
theorem ok__law_at {f : Addr} {fd : FuncData} (F : Fun K "_law_at" "_law_at" s__law_at f fd) (T : Txt K mg aS aK) : FnOk P w K mg base CX0 1 f fd ["_law_script", "_law_k"] (spAt K) := by
  refine F.ok sc__law_at (fun vs H Q E h => ?_) (fun cdv A outer s H vs Q E hr h => ?_)
  · obtain ⟨l, ns, n, rfl, _⟩ := h
    rfl
  · obtain ⟨l, ns, n, rfl, hl, h0, k⟩ := h
    refine ⟨_, (pss_cons (ps_if (pt_cmpR op_lt (pv 1) (pe_callB call_len_seq (by rfl) T.len PySem.boot_len (pa_cons (pv 0) pa_nil)) (nomark _))
 (pss_one (ps_ret (pe_ix ix_list (pv 0) (pv 1) (fun _ _ => rfl))))
 pss_nil)
 (pss_one (ps_ret pe_int))), ?_⟩
    refine ⟨_, rfl, _, rfl, l, _, rfl, .inl hl, _, _, rfl, rfl, _, rfl, if2 (fun e => ?_) (fun e => ?_)⟩
    · have e : n < ((ns.map V.int).length : Int) := of_decide_eq_true e
      rw [List.length_map] at e
      have hx : (ns.map V.int)[n.toNat]? = some (.int (ns.getD n.toNat 0)) := by
        rw [List.getElem?_map, List.getD_eq_getElem?_getD, List.getElem?_eq_getElem (by omega)]
        rfl
      have := atI_nat hx
      rw [show ((n.toNat : Nat) : Int) = n by omega] at this
      exact ⟨_, rfl, _, rfl, l, _, _, _, rfl, rfl, hl, this, k⟩
    · have e : ¬ n < ((ns.map V.int).length : Int) := of_decide_eq_false e
      rw [List.length_map] at e
      rw [List.getD_eq_getElem?_getD, List.getElem?_eq_none (by omega)] at k
      exact k
theorem ok__law_stays_so {f : Addr} {fd : FuncData} (F : Fun K "_law_stays_so" "_law_stays_so" s__law_stays_so f fd) (T : Txt K mg aS aK) : FnOk P w K mg base CX0 1 f fd ["_law_handed", "_law_own"] spStays := by
  refine F.ok sc__law_stays_so (fun vs H Q E h => ?_) (fun cdv A outer s H vs Q E hr h => ?_)
  · obtain ⟨u, v, n, rfl, _⟩ := h
    rfl
  · obtain ⟨u, v, n0, rfl, hA, hn, k⟩ := h
    have nd := sc__law_stays_so.nd
    have hu0 := hr.units0
    refine ⟨_, (pss_cons (ps_set (i := 2) nd rfl (Or.inl rfl) (pe_lst (pa_cons (pv 0) pa_nil)))
 (pss_cons (ps_set (i := 3) nd rfl (Or.inl rfl) (pe_lst (pa_cons (pv 1) pa_nil)))
 (pss_cons (ps_while PassesOwn.never (pt_cmpR (op_neL hu0) (pv 3) (pe_lst pa_nil) (nomark _))
 (pss_cons (ps_set (i := 4) nd rfl (Or.inl rfl) (pe_bm0 PySem.F.plainAttrs_list PySem.F.slot_list_pop PySem.F.type_list_pop mt_pop (pv 2)))
 (pss_cons (ps_set (i := 5) nd rfl (Or.inl rfl) (pe_bm0 PySem.F.plainAttrs_list PySem.F.slot_list_pop PySem.F.type_list_pop mt_pop (pv 3)))
 (pss_one (ps_if (pt_val (pe_callB call_isi (by rfl) T.isinstance PyProof.Rows.boot_isinstance (pa_cons (pv 5) (pa_cons (pe_tup (pa_cons (pe_bltn (v := .ty "list") rfl T.list_ PyProof.Rows.boot_list rfl) (pa_cons (pe_bltn (v := .ty "tuple") rfl T.tuple_ PyProof.Rows.boot_tuple rfl) pa_nil))) pa_nil))))
 (pss_cons (ps_if (pt_cmpR op_ne (pe_callB call_isi (by rfl) T.isinstance PyProof.Rows.boot_isinstance (pa_cons (pv 4) (pa_cons (pe_bltn (v := .ty "list") rfl T.list_ PyProof.Rows.boot_list rfl) pa_nil))) (pe_callB call_isi (by rfl) T.isinstance PyProof.Rows.boot_isinstance (pa_cons (pv 5) (pa_cons (pe_bltn (v := .ty "list") rfl T.list_ PyProof.Rows.boot_list rfl) pa_nil))) (nomark _))
 (pss_one (ps_ret pe_bl))
 pss_nil)
 (pss_cons (ps_if (PW.pt (pw_or (pt_cmpR op_ne (pe_callB call_isi (by rfl) T.isinstance PyProof.Rows.boot_isinstance (pa_cons (pv 4) (pa_cons (pe_bltn (v := .ty "tuple") rfl T.tuple_ PyProof.Rows.boot_tuple rfl) pa_nil))) (pe_callB call_isi (by rfl) T.isinstance PyProof.Rows.boot_isinstance (pa_cons (pv 5) (pa_cons (pe_bltn (v := .ty "tuple") rfl T.tuple_ PyProof.Rows.boot_tuple rfl) pa_nil))) (nomark _)) (pw_or1 (pt_cmpR op_ne (pe_callB call_len_seq (by rfl) T.len PySem.boot_len (pa_cons (pv 4) pa_nil)) (pe_callB call_len_seq (by rfl) T.len PySem.boot_len (pa_cons (pv 5) pa_nil)) (nomark _)))))
 (pss_one (ps_ret pe_bl))
 pss_nil)
 (pss_cons (ps_expr (pe_bm PySem.F.plainAttrs_list PySem.F.slot_list_extend PySem.F.type_list_extend mt_extend (pv 2) (pa_cons (pe_callTy call_list_of (by rfl) T.list_ PyProof.Rows.boot_list (pa_cons (pv 4) pa_nil)) pa_nil)))
 (pss_one (ps_expr (pe_bm PySem.F.plainAttrs_list PySem.F.slot_list_extend PySem.F.type_list_extend mt_extend (pv 3) (pa_cons (pe_callTy call_list_of (by rfl) T.list_ PyProof.Rows.boot_list (pa_cons (pv 5) pa_nil)) pa_nil)))))))
 (pss_one (ps_if (pt_val (pe_callB call_isi (by rfl) T.isinstance PyProof.Rows.boot_isinstance (pa_cons (pv 5) (pa_cons (pe_bltn (v := .ty "str") rfl T.str_ PyProof.Rows.boot_str rfl) pa_nil))))
 (pss_one (ps_if (PW.pt (pw_or (pt_not (pt_val (pe_callB call_isi (by rfl) T.isinstance PyProof.Rows.boot_isinstance (pa_cons (pv 4) (pa_cons (pe_bltn (v := .ty "str") rfl T.str_ PyProof.Rows.boot_str rfl) pa_nil))))) (pw_or1 (pt_cmpR op_ne (pv 4) (pv 5) (nomark _)))))
 (pss_one (ps_ret pe_bl))
 pss_nil))
 (pss_one (ps_if (pt_cmp (pc_isN (pv 5)))
 (pss_one (ps_if (pt_cmp (pc_notN (pv 4)))
 (pss_one (ps_ret pe_bl))
 pss_nil))
 (pss_one (ps_if (PW.pt (pw_or (pt_not (pt_val (pe_callB call_isi (by rfl) T.isinstance PyProof.Rows.boot_isinstance (pa_cons (pv 4) (pa_cons (pe_bltn (v := .ty "int") rfl T.int_ PyProof.Rows.boot_int rfl) pa_nil))))) (pw_or (pt_val (pe_callB call_isi (by rfl) T.isinstance PyProof.Rows.boot_isinstance (pa_cons (pv 4) (pa_cons (pe_bltn (v := .ty "bool") rfl T.bool_ PyProof.Rows.boot_bool rfl) pa_nil)))) (pw_or1 (pt_cmpR op_ne (pv 4) (pv 5) (nomark _))))))
 (pss_one (ps_ret pe_bl))
 pss_nil)))))))))))
 (pss_one (ps_ret pe_bl))))), ?_⟩
    refine ⟨_, rfl, by show 1 ≤ sizeLine; decide, fun l hl => ?_⟩
    refine ⟨_, rfl, by show 1 ≤ sizeLine; decide, fun r hr' => ?_⟩
    have hlr : l ≠ r := fun e => by rw [← e, upd_same] at hr'; cases hr'
    refine ⟨fun n σ H' => ∃ vs us x y, Same H H' ∧ H' l = some (.lst vs) ∧ H' r = some (.lst us) ∧ Alikes H vs us n ∧ n ≤ n0 ∧ σ = [some u, some v, some (.ref l), some (.ref r), x, y],
      ⟨n0, [u], [v], none, none, (same_upd hl).trans (same_upd hr'), by rw [upd_ne hlr, upd_same], upd_same, hA, Nat.le_refl _, rfl⟩, ?_⟩
    rintro n σ H1 ⟨vs, us, x, y, s1, h1, h2, hal, hn0, rfl⟩
    have hH1l : H l = none := hl
    have hH1r : H r = none := by
      cases e : H r with
      | none => rfl
      | some o => exact absurd (same_upd hl _ _ e) (by rw [hr']; exact fun z => nomatch z)
    refine ⟨_, rfl, by show 0 ≤ sizeLine; decide, fun e0 he0 => ?_⟩
    have sE : Same H1 (upd H1 e0 (.lst [])) := same_upd he0
    refine ⟨r, e0, us, [], rfl, rfl, SqL.of (sE _ _ h2), SqL.of upd_same, .inl rfl, _, rfl, ?_⟩
    rcases hal.last with rfl | ⟨vs', us', a, b, n', m, rfl, rfl, hal', hab, rfl⟩
    · -- nothing left
      have : us = [] := List.length_eq_zero_iff.mp hal.length.symm
      subst this
      refine ifF rfl ?_
      exact k _ (s1.trans sE)
    · refine ifT ?_ ?_
      · show (!eqVs (us' ++ [b]) []) = true
        rw [eqVs_len (by simp)]
        rfl
      refine ⟨fun σ' H' => ∃ n'' vs us x y, n'' < n' + m ∧ Same H H' ∧ H' l = some (.lst vs) ∧ H' r = some (.lst us) ∧ Alikes H vs us n'' ∧ σ' = [some u, some v, some (.ref l), some (.ref r), x, y],
        fun σ' H' ⟨n'', vs, us, x, y, q0, q1, q2, q3, q4, q5⟩ => ⟨n'', q0, vs, us, x, y, q1, q2, q3, q4, by omega, q5⟩, ?_⟩
      have h1' := sE _ _ h1
      have h2' := sE _ _ h2
      refine ⟨_, rfl, .inl ⟨rfl, _, SqL.of h1'⟩, l, _, a, rfl, rfl, h1', by simp, ?_⟩
      rw [show (vs' ++ [a]).dropLast = vs' by simp]
      have h2'' : upd (upd H1 e0 (.lst [])) l (.lst vs') r = some (.lst (us' ++ [b])) := by rw [upd_ne (Ne.symm hlr)]; exact h2'
      refine ⟨_, rfl, .inl ⟨rfl, _, SqL.of h2''⟩, r, _, b, rfl, rfl, h2'', by simp, ?_⟩
      rw [show (us' ++ [b]).dropLast = us' by simp]
      generalize hHH : upd (upd (upd H1 e0 (.lst [])) l (.lst vs')) r (.lst us') = H2
      have sH2 : Same H H2 := fun c o e => by
        rw [← hHH, upd_ne (ne_of_none e hH1r), upd_ne (ne_of_none e hH1l)]
        exact (s1.trans sE) c o e
      have l2 : H2 l = some (.lst vs') := by rw [← hHH, upd_ne hlr, upd_same]
      have r2 : H2 r = some (.lst us') := by rw [← hHH, upd_same]
      have hsz := hal.le
      rw [List.length_append, List.length_singleton] at hsz
      have hsz2 := hal.length
      rw [List.length_append, List.length_append, List.length_singleton, List.length_singleton] at hsz2
      refine ⟨_, rfl, by show 2 ≤ sizeLine; decide, fun t ht => ?_⟩
      have s3 : Same H2 (upd H2 t (.tup [.ty "list", .ty "tuple"])) := same_upd ht
      have nlr : ∀ {q : Addr} {o : HO}, H2 q = none → (upd H2 q o) l = some (.lst vs') ∧ (upd H2 q o) r = some (.lst us') := fun hq => ⟨same_upd hq _ _ l2, same_upd hq _ _ r2⟩
      have both : ∀ (xs ys : List V) (m' : Nat), m = m' + 1 → Alikes H xs ys m' → ∀ q1 q2 : V, True := fun _ _ _ _ _ _ _ => trivial
      cases hab with
      | int i _ =>
        refine ⟨_, .ref t, _, false, rfl, .inl (.int i), .inr ⟨t, ["list", "tuple"], rfl, upd_same, kitA_int⟩, _, rfl, iteF ?_⟩
        refine ⟨_, rfl, _, _, _, false, rfl, .inl (.int i), .inl ⟨_, rfl, kit_int_str⟩, _, rfl, iteF ?_⟩
        refine ⟨_, rfl, _, rfl, iteF ?_⟩
        refine ⟨_, rfl, _, _, _, true, rfl, .inl (.int i), .inl ⟨_, rfl, kit_int_int⟩, _, rfl, iteF ?_⟩
        refine ⟨_, rfl, _, _, _, false, rfl, .inl (.int i), .inl ⟨_, rfl, kit_int_bool⟩, _, rfl, iteF ?_⟩
        refine ⟨_, rfl, _, rfl, rfl, _, rfl, ifF (by simp) ?_⟩
        exact ⟨n', vs', us', _, _, by omega, sH2.trans s3, (nlr ht).1, (nlr ht).2, hal', rfl⟩
      | str z _ =>
        refine ⟨_, .ref t, _, false, rfl, .inl (.str z), .inr ⟨t, ["list", "tuple"], rfl, upd_same, kitA_str⟩, _, rfl, iteF ?_⟩
        refine ⟨_, rfl, _, _, _, true, rfl, .inl (.str z), .inl ⟨_, rfl, kit_str_str⟩, _, rfl, iteT ?_⟩
        refine ⟨_, rfl, _, _, _, true, rfl, .inl (.str z), .inl ⟨_, rfl, kit_str_str⟩, _, rfl, iteF ?_⟩
        refine ⟨_, rfl, _, rfl, rfl, _, rfl, ifF (by simp) ?_⟩
        exact ⟨n', vs', us', _, _, by omega, sH2.trans s3, (nlr ht).1, (nlr ht).2, hal', rfl⟩
      | non _ =>
        refine ⟨_, .ref t, _, false, rfl, .inl .non, .inr ⟨t, ["list", "tuple"], rfl, upd_same, kitA_none⟩, _, rfl, iteF ?_⟩
        refine ⟨_, rfl, _, _, _, false, rfl, .inl .non, .inl ⟨_, rfl, kit_none_str⟩, _, rfl, iteF ?_⟩
        refine ⟨_, rfl, _, rfl, iteT ?_⟩
        refine ⟨_, rfl, _, rfl, iteF ?_⟩
        exact ⟨n', vs', us', _, _, by omega, sH2.trans s3, (nlr ht).1, (nlr ht).2, hal', rfl⟩
      | @lst pa pb xs ys _ _ m' _ ea eb hxy hnil =>
        cases hnil
        have ea2 := s3 _ _ (sH2 _ _ ea)
        have eb2 := s3 _ _ (sH2 _ _ eb)
        have hx1 := hxy.le
        have hx2 := hxy.length
        refine ⟨_, .ref t, _, true, rfl, .inl (.lst eb2), .inr ⟨t, ["list", "tuple"], rfl, upd_same, kitA_list⟩, _, rfl, iteT ?_⟩
        refine ⟨_, rfl, _, _, _, true, rfl, .inl (.lst ea2), .inl ⟨_, rfl, kit_list_list⟩, _, rfl, _, _, _, true, rfl, .inl (.lst eb2), .inl ⟨_, rfl, kit_list_list⟩, rfl, _, rfl, iteF ?_⟩
        refine ⟨_, rfl, _, _, _, false, rfl, .inl (.lst ea2), .inl ⟨_, rfl, kit_list_tuple⟩, _, rfl, _, _, _, false, rfl, .inl (.lst eb2), .inl ⟨_, rfl, kit_list_tuple⟩, rfl, _, rfl, iteF ?_⟩
        refine ⟨_, rfl, pa, xs, rfl, .inl (SqL.of ea2), _, rfl, pb, ys, rfl, .inl (SqL.of eb2), rfl, _, rfl, ifF (by rw [hx2]; simp) ?_⟩
        refine ⟨_, rfl, .inl ⟨rfl, _, SqL.of (nlr ht).1⟩, _, rfl, pa, xs, rfl, .inl (SqL.of ea2), fun q hq => ?_⟩
        have s4 : Same (upd H2 t (.tup [.ty "list", .ty "tuple"])) (upd (upd H2 t (.tup [.ty "list", .ty "tuple"])) q (.lst xs)) := same_upd hq
        refine ⟨l, q, vs', xs, rfl, rfl, s4 _ _ (nlr ht).1, upd_same, small_line (by omega), ?_⟩
        generalize hH3 : upd (upd (upd H2 t (.tup [.ty "list", .ty "tuple"])) q (.lst xs)) l (.lst (vs' ++ xs)) = H3
        have s5 : Same H H3 := fun c o e => by
          rw [← hH3, upd_ne (ne_of_none e hH1l)]
          exact s4 _ _ (s3 _ _ (sH2 _ _ e))
        have l3 : H3 l = some (.lst (vs' ++ xs)) := by rw [← hH3, upd_same]
        have r3 : H3 r = some (.lst us') := by rw [← hH3, upd_ne (Ne.symm hlr)]; exact s4 _ _ (nlr ht).2
        refine ⟨_, rfl, .inl ⟨rfl, _, SqL.of r3⟩, _, rfl, pb, ys, rfl, .inl (SqL.of (s5 _ _ eb)), fun q2 hq2 => ?_⟩
        refine ⟨r, q2, us', ys, rfl, rfl, same_upd hq2 _ _ r3, upd_same, small_line (by omega), ?_⟩
        refine ⟨m' + n', vs' ++ xs, us' ++ ys, _, _, by omega, fun c o e => ?_, ?_, upd_same, hal'.append hxy, rfl⟩
        · rw [upd_ne (ne_of_none e hH1r)]
          exact same_upd hq2 _ _ (s5 _ _ e)
        · rw [upd_ne hlr]
          exact same_upd hq2 _ _ l3
      | @tup pa pb xs ys _ _ m' _ ea eb hxy hnil =>
        cases hnil
        have ea2 := s3 _ _ (sH2 _ _ ea)
        have eb2 := s3 _ _ (sH2 _ _ eb)
        have hx1 := hxy.le
        have hx2 := hxy.length
        refine ⟨_, .ref t, _, true, rfl, .inl (.tup eb2), .inr ⟨t, ["list", "tuple"], rfl, upd_same, kitA_tuple⟩, _, rfl, iteT ?_⟩
        refine ⟨_, rfl, _, _, _, false, rfl, .inl (.tup ea2), .inl ⟨_, rfl, kit_tuple_list⟩, _, rfl, _, _, _, false, rfl, .inl (.tup eb2), .inl ⟨_, rfl, kit_tuple_list⟩, rfl, _, rfl, iteF ?_⟩
        refine ⟨_, rfl, _, _, _, true, rfl, .inl (.tup ea2), .inl ⟨_, rfl, kit_tuple_tuple⟩, _, rfl, _, _, _, true, rfl, .inl (.tup eb2), .inl ⟨_, rfl, kit_tuple_tuple⟩, rfl, _, rfl, iteF ?_⟩
        refine ⟨_, rfl, pa, xs, rfl, .inr (SqT.of ea2), _, rfl, pb, ys, rfl, .inr (SqT.of eb2), rfl, _, rfl, ifF (by rw [hx2]; simp) ?_⟩
        refine ⟨_, rfl, .inl ⟨rfl, _, SqL.of (nlr ht).1⟩, _, rfl, pa, xs, rfl, .inr (SqT.of ea2), fun q hq => ?_⟩
        have s4 : Same (upd H2 t (.tup [.ty "list", .ty "tuple"])) (upd (upd H2 t (.tup [.ty "list", .ty "tuple"])) q (.lst xs)) := same_upd hq
        refine ⟨l, q, vs', xs, rfl, rfl, s4 _ _ (nlr ht).1, upd_same, small_line (by omega), ?_⟩
        generalize hH3 : upd (upd (upd H2 t (.tup [.ty "list", .ty "tuple"])) q (.lst xs)) l (.lst (vs' ++ xs)) = H3
        have s5 : Same H H3 := fun c o e => by
          rw [← hH3, upd_ne (ne_of_none e hH1l)]
          exact s4 _ _ (s3 _ _ (sH2 _ _ e))
        have l3 : H3 l = some (.lst (vs' ++ xs)) := by rw [← hH3, upd_same]
        have r3 : H3 r = some (.lst us') := by rw [← hH3, upd_ne (Ne.symm hlr)]; exact s4 _ _ (nlr ht).2
        refine ⟨_, rfl, .inl ⟨rfl, _, SqL.of r3⟩, _, rfl, pb, ys, rfl, .inr (SqT.of (s5 _ _ eb)), fun q2 hq2 => ?_⟩
        refine ⟨r, q2, us', ys, rfl, rfl, same_upd hq2 _ _ r3, upd_same, small_line (by omega), ?_⟩
        refine ⟨m' + n', vs' ++ xs, us' ++ ys, _, _, by omega, fun c o e => ?_, ?_, upd_same, hal'.append hxy, rfl⟩
        · rw [upd_ne (ne_of_none e hH1r)]
          exact same_upd hq2 _ _ (s5 _ _ e)
        · rw [upd_ne hlr]
          exact same_upd hq2 _ _ l3
end
section
variable {P : Program} {w : World} {K : PySem.W.Frag} {mg : Str → Option Value} {base : Heap} {aS aK : Addr} {cl : Cls}
theorem okr_counts_of {f g : Addr} {fd gd : FuncData} (F : Fun K "counts_of" "counts_of" s_counts_of f fd) (T : Txt K mg aS aK) (T_NoShare : ExcT K mg "NoShare" cl.NS (.ref cl.PE :: VE)) (c_is_sign : Cal P w K mg base 1 "is_sign" g gd ["text"] spSignG) : FnOk P w K mg base (CXR P w) 2 f fd ["texts"] (spCounts cl.NS) := by
  refine F.okR sc_counts_of (fun vs H Q E h => ?_) (fun cdv A outer s H vs Q E hr h => ?_)
  · obtain ⟨l, ts, rfl, _⟩ := h
    rfl
  · obtain ⟨l, ts, rfl, hl, ht, k, kE⟩ := h
    have nd := sc_counts_of.nd
    have hu := hu_of hr
    refine ⟨_, (pss_cons (ps_set (i := 1) nd rfl (Or.inl rfl) pe_dnewK)
 (pss_cons (ps_for PassesOwn.leaving rfl (pi_list (pv 0)) (pg_name (i := 2) nd rfl (Or.inl rfl))
 (pss_one (ps_for PassesOwn.leaving rfl (pi_str (pv 2)) (pg_name (i := 3) nd rfl (Or.inl rfl))
 (pss_cons (ps_if (pt_not (pt_val (pe_call c_is_sign.ok (hr.mono (by decide)) rfl c_is_sign.mg c_is_sign.kp c_is_sign.b .nil pass0 (pa_cons (pv 3) pa_nil))))
 (pss_one (ps_raise raisesR rfl T_NoShare.g T_NoShare.x PySem.F.excBase_ValueError rfl (pa_cons (pe_joined (pj_cons pe_str (pj_cons (pe_repr (pv 3)) pj_nil))) pa_nil)))
 pss_nil)
 (pss_one (ps_dput hu (pv 1) (pv 3) (pe_op op_add (pe_dget2 hu (pv 1) (pv 3) pe_int ⟨rfl, rfl, rfl, rfl⟩) pe_int) rfl))))))
 (pss_one (ps_ret (pv 1))))), ?_⟩
    intro d hd
    refine ⟨_, rfl, l, rfl, ⟨_, (same_upd hd).seq (SqL.of hl)⟩, for_list (K := K) (a := l) (xs := ts.map V.str) (fun i σ H' => ∃ ks x y, Same H H' ∧ H' d = some (.dK (tallyK ks (flat (ts.take i)))) ∧ ks.Nodup ∧ (∀ c, c ∈ ks ↔ c ∈ flat (ts.take i)) ∧ AllSg (flat (ts.take i)) ∧ σ = [some (.ref l), some (.ref d), x, y])
      ⟨[], none, none, same_upd hd, upd_same, .nil, fun c => by simp [flat], fun c hc => by simp [flat] at hc, rfl⟩ (fun i σ H' _ ⟨_, _, _, s1, _⟩ => s1.seq (SqL.of hl)) ?_ ?_⟩
    · rintro i x σ H1 hx ⟨ks0, y, z, s1, h1, hnd0, hk0, hso0, rfl⟩
      obtain ⟨t, hti, rfl⟩ := str_at hx
      have htm := List.mem_of_getElem? hti
      have hsane := ht.sane t htm
      have hlen := ht.len
      refine ⟨_, rfl, t, rfl, for_str (x := t) (fun j σ H' => ∃ ks x, Same H H' ∧ H' d = some (.dK (tallyK ks (flat (ts.take i) ++ (sgs t).take j))) ∧ ks.Nodup ∧ (∀ c, c ∈ ks ↔ c ∈ flat (ts.take i) ++ (sgs t).take j) ∧ AllSg (flat (ts.take i) ++ (sgs t).take j) ∧ σ = [some (.ref l), some (.ref d), some (.str t), x])
        ⟨ks0, z, s1, by simpa using h1, hnd0, by simpa using hk0, by simpa using hso0, rfl⟩ ?_ ?_⟩
      · rintro j c σ H2 hc ⟨ks, x, s2, h2, hnd, hk, hso, rfl⟩
        have hsc := sane_sg hsane hc
        have hcm : sg c ∈ flat ts := mem_flat htm (List.mem_of_getElem? (sgs_at hc))
        refine ⟨_, rfl, sg c, rfl, hsc.1, _, rfl, if2 (fun e => ?_) (fun e => ?_)⟩
        · have hno : ¬ IsSg (sg c) := fun hs => by
            rw [isSg_iff.mpr hs] at e
            exact absurd e (by decide)
          refine ⟨_, rfl, joinLen1 (by decide +kernel), _, rfl, .inl ⟨_, rfl, hsc.rlen, _, rfl, joinLen (by decide +kernel) hsc, joinLen (by decide +kernel) hsc, by show 1 ≤ sizeLine; decide, ?_⟩⟩
          exact kE (fun hs => hno (hs _ hcm)) H2 s2
        · have hsg : IsSg (sg c) := by
            refine isSg_iff.mp ?_
            cases hq : isSg (sg c) with
            | true => rfl
            | false => rw [hq] at e; exact absurd e (by decide)
          obtain ⟨ks', hnd', hk', hp⟩ := tally_put hnd hk (sg c)
          refine ⟨_, rfl, d, rfl, .inl ⟨_, .of h2⟩, _, rfl, _, DGet.k (k := Sum.inr (sg c)) h2, _, _, tally_get hk (sg c), rfl, ?_⟩
          refine ⟨_, rfl, _, rfl, d, _, rfl, DPut.k (k := Sum.inr (sg c)) h2 (small1000 (tally_few hnd hk (Nat.le_trans (take_app_le hti) hlen))), ?_⟩
          rw [hp]
          rw [List.append_assoc, ← take_snoc (sgs_at hc)] at hk'
          rw [List.append_assoc, ← take_snoc (sgs_at hc)]
          refine ⟨ks', _, fun b o e => ?_, upd_same, hnd', hk', ?_, rfl⟩
          · rw [upd_ne (ne_of_none e hd)]
            exact s2 b o e
          · rw [take_snoc (sgs_at hc), ← List.append_assoc]
            exact all_snoc hso hsg
      · rintro σ H2 ⟨ks, x, s2, h2, hnd, hk, hso, rfl⟩
        rw [← sgs_length, List.take_length, ← flat_snoc hti] at h2 hk hso
        exact ⟨ks, _, _, s2, h2, hnd, hk, hso, rfl⟩
    · rintro σ H1 ⟨ks, y, z, s1, h1, hnd, hk, hso, rfl⟩
      rw [List.length_map, flat_take_all] at h1 hk hso
      exact ⟨_, rfl, k hso d ks H1 s1 h1 hnd hk⟩
theorem okr_counted {f g : Addr} {fd gd : FuncData} (F : Fun K "counted" "counted" s_counted f fd) (T : Txt K mg aS aK) (T_NoShare : ExcT K mg "NoShare" cl.NS (.ref cl.PE :: VE)) (c_counts_of : CalR P w K mg base 2 "counts_of" g gd ["texts"] (spCounts cl.NS)) : FnOk P w K mg base (CXR P w) 3 f fd ["texts"] (spCounted cl.NS) := by
  refine F.okR sc_counted (fun vs H Q E h => ?_) (fun cdv A outer s H vs Q E hr h => ?_)
  · obtain ⟨l, ts, rfl, _⟩ := h
    rfl
  · obtain ⟨l, ts, rfl, hl, ht, k, kE⟩ := h
    have nd := sc_counted.nd
    have hu := hu_of hr
    refine ⟨_, (pss_cons (ps_set (i := 1) nd rfl (Or.inr rfl) (pe_call c_counts_of.ok (hr.mono (by decide)) rfl c_counts_of.mg c_counts_of.kp c_counts_of.b .nil passR (pa_cons (pv 0) pa_nil)))
 (pss_cons (ps_if (pt_cmpR op_eq (pe_callB call_lenD (by rfl) T.len PySem.boot_len (pa_cons (pv 1) pa_nil)) pe_int (nomark _))
 (pss_one (ps_raise raisesR rfl T_NoShare.g T_NoShare.x PySem.F.excBase_ValueError rfl (pa_cons pe_str pa_nil)))
 pss_nil)
 (pss_cons (ps_set (i := 2) nd rfl (Or.inl rfl) (pe_callB call_len_seq (by rfl) T.len PySem.boot_len (pa_cons (pv 0) pa_nil)))
 (pss_cons (ps_set (i := 3) nd rfl (Or.inr rfl) (pe_op op_add (pe_sumVals rfl (by rfl) T.sum (pv 1)) (pv 2)))
 (pss_cons (ps_comp (i := 4) ["sign", "counts", "total"] [none, some 1, some 3] rfl nd rfl rfl .of (pi_list (pe_callB (call_sortedD rfl) (by rfl) T.sorted_ PyProof.Rows.boot_sorted (pa_cons (pv 1) pa_nil))) (fun _ _ _ _ _ => (pg_name (i := 0) (show (["sign", "counts", "total"] : List Str).Nodup by decide +kernel) rfl (Or.inl rfl))) (fun _ _ _ _ _ => pts_nil) (fun _ _ _ _ _ => (pe_tup (pa_cons (pv 0) (pa_cons (pe_callB (call_min2 rfl) (by rfl) T.min PyProof.Rows.boot_min (pa_cons (pe_dget hu (pv 1) (pv 0) (fun _ _ => rfl)) (pa_cons (pe_op op_sub (pv 2) (pe_dget hu (pv 1) (pv 0) (fun _ _ => rfl))) pa_nil))) pa_nil)))))
 (pss_one (ps_ret (pe_tup (pa_cons pe_str (pa_cons (pv 4) (pa_cons (pv 2) pa_nil))))))))))), ?_⟩
    refine ⟨_, rfl, l, ts, rfl, hl, ht, fun hA d ks H1 s1 h1 hnd hk => ?_, fun hA H1 s1 => kE (fun z => hA z.1) H1 s1⟩
    refine ⟨_, rfl, d, _, rfl, h1, rfl, _, rfl, if2 (fun e => ?_) (fun e => ?_)⟩
    · refine ⟨by show 1 ≤ sizeLine; decide, kE (fun z => z.2 ?_) H1 s1⟩
      have e : V.int ((tallyK ks (flat ts)).length : Nat) = V.int 0 := of_decide_eq_true e
      injection e with e
      have e : (tallyK ks (flat ts)).length = 0 := by omega
      unfold tallyK at e
      rw [List.length_map] at e
      exact List.eq_nil_iff_forall_not_mem.mpr fun c hc => by
        have := (hk c).mpr hc
        rw [List.length_eq_zero_iff.mp e] at this
        cases this
    have hne : flat ts ≠ [] := fun z => by
      have hk0 : ks = [] := List.eq_nil_iff_forall_not_mem.mpr fun c hc => by
        have := (hk c).mp hc
        rw [z] at this
        cases this
      rw [hk0] at e
      have e : decide (V.int ((0 : Nat) : Int) = V.int 0) = false := e
      exact absurd e (by decide)
    clear e
    have hl1 := s1 _ _ hl
    refine ⟨_, rfl, l, _, rfl, .inl (SqL.of hl1), ?_⟩
    refine ⟨_, rfl, d, _, _, rfl, h1, tally_vals ks (flat ts), _, rfl, _, _, rfl, rfl, ?_⟩
    rw [sum_counts hnd (flat ts) fun c hc => (hk c).mpr hc, List.length_map]
    have hk26 : ks.length ≤ 26 := nodup_len (L := abc) hnd fun c hc => mem_abc.mpr (hA c ((hk c).mp hc))
    refine ⟨_, rfl, d, _, ks, rfl, h1, tally_keys ks (flat ts), by omega, fun l2 ys hl2 hp hs => ?_⟩
    have hyl : ys.length ≤ 26 := by rw [hp.length_eq]; exact hk26
    have hys := sorted_is hnd hk hA hp hs
    have s2 := same_upd (o := .lst (ys.map V.str)) hl2
    have hl22 : upd H1 l2 (.lst (ys.map V.str)) l2 = some (.lst (ys.map V.str)) := upd_same
    generalize upd H1 l2 (.lst (ys.map V.str)) = H2 at s2 hl22
    have hd2 := s2 _ _ h1
    refine ⟨l2, rfl, ⟨_, SqL.of hl22⟩, comp_list1 (K := K) (a := l2) (xs := ys.map V.str) (fun i acc σ H' => Same H2 H' ∧ Paired (PairAt H') acc ((ys.take i).map (shareOf (flat ts) ts.length)) ∧ ∃ y, σ = [y, some (.ref d), some (.int (((flat ts).length : Nat) + (ts.length : Nat)))])
      ⟨Same.refl _, .nil, _, rfl⟩ (small_line (by rw [List.length_map]; omega)) ?_ ?_ ?_⟩
    · rintro i acc σ H' hi ⟨s3, hq, _⟩
      refine ⟨s3.seq (SqL.of hl22), ?_⟩
      rw [Paired.length hq, List.length_map, List.length_take]
      exact Nat.min_le_left _ _
    · rintro i u acc σ H3 hu1 ⟨s3, hacc, y, rfl⟩
      obtain ⟨c, hci, rfl⟩ := str_at hu1
      have hcm : c ∈ ks := hp.mem_iff.mp (List.mem_of_getElem? hci)
      have hval : DGet H3 d (.str c) (some (.int (((flat ts).count c : Nat) : Int))) := by
        have := DGet.k (k := Sum.inr c) (s3 _ _ hd2)
        rw [tally_in hcm] at this
        exact this
      refine ⟨_, rfl, _, rfl, _, rfl, d, _, rfl, hval, _, rfl, _, rfl, _, rfl, d, _, rfl, hval, _, _, rfl, rfl, _, _, rfl, by show 2 ≤ sizeLine; decide, fun t ht => ⟨s3.trans (same_upd ht), ?_, _, rfl⟩⟩
      rw [take_snoc hci, List.map_append]
      exact (Paired.imp2 hacc fun _ _ => PairAt.same (same_upd ht)).snoc ⟨t, rfl, upd_same⟩
    · rintro acc σ H3 ⟨s3, hacc, _⟩ t ht
      rw [List.length_map, List.take_length, hys] at hacc
      refine ⟨_, rfl, _, rfl, by show 3 ≤ sizeLine; decide, fun u hu => ?_⟩
      refine k hA hne _ _ (s1.trans (s2.trans (s3.trans ((same_upd ht).trans (same_upd hu))))) ?_
      refine ⟨u, t, rfl, by rw [upd_same]; rfl, acc, ?_, Paired.imp2 hacc fun _ _ => PairAt.same ((same_upd ht).trans (same_upd hu))⟩
      rw [upd_ne (fun e => by rw [e, upd_same] at hu; cases hu), upd_same]
theorem ok_evened {f : Addr} {fd : FuncData} (F : Fun K "evened" "evened" s_evened f fd) (T : Txt K mg aS aK) (T_EN : mg "enumerate" = none) : FnOk P w K mg base CX0 1 f fd ["signs"] spEvened := by
  refine F.ok sc_evened (fun vs H Q E h => ?_) (fun cdv A outer s H vs Q E hr h => ?_)
  · obtain ⟨z, rfl, _⟩ := h
    rfl
  · obtain ⟨z, rfl, hz, hf, k⟩ := h
    have nd := sc_evened.nd
    refine ⟨_, (pss_cons (ps_comp (i := 1) ["place", "sign", "signs"] [none, none, some 0] rfl nd rfl rfl .of (pi_enum (by rfl) T_EN (pv 0)) (fun _ _ _ _ _ => (pg_tupK (n := 2) K rfl rfl (pgs_cons (pg_name (i := 0) (show (["place", "sign", "signs"] : List Str).Nodup by decide +kernel) rfl (Or.inl rfl)) (pgs_cons (pg_name (i := 1) (show (["place", "sign", "signs"] : List Str).Nodup by decide +kernel) rfl (Or.inl rfl)) pgs_nil)))) (fun _ _ _ _ _ => (pts_one (pt_cmpR op_eq (pe_bmK K rfl PySem.F.plainAttrs_str PySem.F.slot_str_find PySem.F.type_str_find mt_find (pv 2) (pa_cons (pv 1) pa_nil)) (pv 0) (nomark _)))) (fun _ _ _ _ _ => (pe_tup (pa_cons (pv 1) (pa_cons pe_int pa_nil)))))
 (pss_one (ps_ret (pe_tup (pa_cons pe_str (pa_cons (pv 1) (pa_cons pe_int pa_nil))))))), ?_⟩
    refine ⟨_, rfl, z, rfl, comp_enum (x := z) (fun i acc σ H' => Same H H' ∧ Paired (PairAt H') acc (((sgs z).take i).map fun c => (c, (1 : Int))) ∧ ∃ x y, σ = [x, y, some (.str z)]) ⟨Same.refl _, .nil, _, _, rfl⟩ (small_line (by omega)) ?_ ?_ ?_⟩
    · rintro i acc σ H' hi ⟨_, hq, _⟩
      rw [Paired.length hq, List.length_map, List.length_take]
      exact Nat.min_le_left _ _
    · rintro i c t acc σ H1 hc ht ⟨s1, hacc, x, y, rfl⟩
      have s2 := same_upd (o := .tup [.int ((i : Nat) : Int), .str ⟨#[c]⟩]) ht
      refine ⟨t, _, rfl, SqT.of upd_same, rfl, _, _, rfl, _, _, rfl, rfl, ?_⟩
      refine ⟨_, rfl, rfl, _, rfl, _, _, rfl, rfl, _, rfl, rfl, _, rfl, ifT ?_ ?_⟩
      · have hfi : Txt.find z ⟨#[c]⟩ = ((i : Nat) : Int) := hf i c hc
        rw [hfi]
        exact decide_eq_true rfl
      · refine ⟨_, rfl, by show 2 ≤ sizeLine; decide, fun u hu => ⟨s1.trans (s2.trans (same_upd hu)), ?_, _, _, rfl⟩⟩
        rw [take_snoc (sgs_at hc), List.map_append]
        exact (Paired.imp2 hacc fun _ _ => PairAt.same (s2.trans (same_upd hu))).snoc ⟨u, rfl, upd_same⟩
    · rintro acc σ H1 ⟨s1, hacc, _⟩ t ht
      rw [← sgs_length, List.take_length] at hacc
      refine ⟨_, rfl, by show 3 ≤ sizeLine; decide, fun u hu => ?_⟩
      refine k _ _ (s1.trans ((same_upd ht).trans (same_upd hu))) ?_
      refine ⟨u, t, rfl, by rw [upd_same]; rfl, acc, ?_, Paired.imp2 hacc fun _ _ => PairAt.same ((same_upd ht).trans (same_upd hu))⟩
      rw [upd_ne (fun e => by rw [e, upd_same] at hu; cases hu), upd_same]
end
section
variable {P : Program} {w : World} {K : PySem.W.Frag} {mg : Str → Option Value} {base : Heap} {aS aK : Addr} {cl : Cls}
theorem ok_law {f g1 g2 g3 g4 : Addr} {fd gd1 gd2 gd3 gd4 : FuncData} (F : Fun K "law" "law" s_law f fd) (T : Txt K mg aS aK) (T_NoShare : ExcT K mg "NoShare" cl.NS (.ref cl.PE :: VE))
    (c__law_at : Cal P w K mg base 1 "_law_at" g1 gd1 ["_law_script", "_law_k"] (spAt K)) (c_counted : CalR P w K mg base 3 "counted" g2 gd2 ["texts"] (spCounted cl.NS))
    (c__law_stays_so : Cal P w K mg base 1 "_law_stays_so" g3 gd3 ["_law_handed", "_law_own"] spStays) (c_evened : Cal P w K mg base 1 "evened" g4 gd4 ["signs"] spEvened) :
    FnOk P w K mg base CX0 4 f fd ["_law_script"] (spLaw K) := by
  refine F.ok sc_law (fun vs H Q E h => ?_) (fun cdv A outer s H vs Q E hr h => ?_)
  · obtain ⟨a, ns, rfl, _⟩ := h
    rfl
  · obtain ⟨a0, ns, rfl, hS, hn, k⟩ := h
    have nd := sc_law.nd
    have hu0 := hr.units0
    refine ⟨_, (pss_cons (ps_set (i := 0) nd rfl (Or.inl rfl) (pe_slice sl_list (pv 0) po_none (po_some pe_int)))
 (pss_cons (ps_set (i := 1) nd rfl (Or.inr rfl) pe_str)
 (pss_cons (ps_set (i := 2) nd rfl (Or.inl rfl) (pe_lst (pa_cons pe_str pa_nil)))
 (pss_cons (ps_for PassesOwn.never rfl (pi_list (pe_slice sl_list (pv 0) (po_some pe_int) po_none)) (pg_name (i := 3) nd rfl (Or.inl rfl))
 (pss_one (ps_if (pt_cmpR op_eq (pe_op op_mod (pv 3) pe_int) pe_int (nomark _))
 (pss_one (ps_expr (pe_bm PySem.F.plainAttrs_list PySem.F.slot_list_append PySem.F.type_list_append mt_append (pv 2) (pa_cons pe_str pa_nil))))
 (pss_cons (ps_set (i := 4) nd rfl (Or.inl rfl) (pe_ix ix_list (pe_lst (pa_cons (pe_op op_mod (pe_op op_fdivB (pv 3) pe_int) pe_int) (pa_cons (pe_op op_mod (pe_op op_fdivB (pv 3) pe_int) pe_int) pa_nil))) (pe_op op_mod (pe_op op_fdivB (pv 3) pe_int) pe_int) (fun _ _ => rfl)))
 (pss_one (ps_asg (pe_op op_add_str (pe_ix ix_list (pv 2) (pe_un un_neg pe_int) (fun _ _ => rfl)) (pe_ix ix_str (pv 1) (pv 4) (fun _ _ => rfl))) (pg_sub (pv 2) (pe_un un_neg pe_int) set_list)))))))
 (pss_cons (ps_mid (ps_if (pt_cmpR op_eq (pe_op op_mod (pe_call c__law_at.ok (hr.mono (by decide)) rfl c__law_at.mg c__law_at.kp c__law_at.b .nil pass0 (pa_cons (pv 0) (pa_cons pe_int pa_nil))) pe_int) pe_int (nomark _))
 (pss_one (ps_expr (pe_bm PySem.F.plainAttrs_list PySem.F.slot_list_append PySem.F.type_list_append mt_append (pv 2) (pa_cons (pe_ix ix_list (pe_lst (pa_cons pe_str (pa_cons pe_str (pa_cons pe_str (pa_cons pe_str pa_nil))))) (pe_op op_mod (pe_op op_fdivB (pe_call c__law_at.ok (hr.mono (by decide)) rfl c__law_at.mg c__law_at.kp c__law_at.b .nil pass0 (pa_cons (pv 0) (pa_cons pe_int pa_nil))) pe_int) pe_int) (fun _ _ => rfl)) pa_nil))))
 pss_nil))
 (pss_cons (ps_mid (ps_if (pt_cmpR op_eq (pe_op op_mod (pe_call c__law_at.ok (hr.mono (by decide)) rfl c__law_at.mg c__law_at.kp c__law_at.b .nil pass0 (pa_cons (pv 0) (pa_cons pe_int pa_nil))) pe_int) pe_int (nomark _))
 (pss_one (ps_set (i := 2) nd rfl (Or.inl rfl) (pe_op op_rep (pe_lst (pa_cons pe_str pa_nil)) (pe_op op_mod (pe_op op_fdivB (pe_call c__law_at.ok (hr.mono (by decide)) rfl c__law_at.mg c__law_at.kp c__law_at.b .nil pass0 (pa_cons (pv 0) (pa_cons pe_int pa_nil))) pe_int) pe_int))))
 pss_nil))
 (pss_cons (ps_set (i := 5) nd rfl (Or.inl rfl) (pe_callB (call_sortedS rfl) (by rfl) T.sorted_ PyProof.Rows.boot_sorted (pa_cons (pe_bm PySem.F.plainAttrs_str PySem.F.slot_str_join PySem.F.type_str_join mt_join pe_str (pa_cons (pv 2) pa_nil)) pa_nil)))
 (pss_cons (ps_mid (ps_set (i := 6) nd rfl (Or.inl rfl) (pe_or (pe_cmpR (op_eqL hu0) (pv 5) (pe_lst pa_nil) (nomark _)) (pe_one (pe_cmpR (op_neL hu0) (pe_comp ["_law_sign", "_law_letters"] [none, some 1] rfl .of (pi_list (pv 5)) (fun _ _ _ _ _ => (pg_name (i := 0) (show (["_law_sign", "_law_letters"] : List Str).Nodup by decide +kernel) rfl (Or.inl rfl))) (fun _ _ _ _ _ => (pts_one (pt_cmpR op_notIn_str (pv 0) (pv 1) (by with_unfolding_all rfl)))) (fun _ _ _ _ _ => (pv 0))) (pe_lst pa_nil) (nomark _))))))
 (pss_cons (ps_set (i := 7) nd rfl (Or.inl rfl) (pe_lst pa_nil))
 (pss_cons (ps_for PassesOwn.never rfl (pi_str (pv 1)) (pg_name (i := 8) nd rfl (Or.inl rfl))
 (pss_one (ps_if (pt_cmpR op_in_seq (pv 8) (pv 5) (by with_unfolding_all rfl))
 (pss_cons (ps_set (i := 9) nd rfl (Or.inl rfl) (pe_bm PySem.F.plainAttrs_list PySem.F.slot_list_count PySem.F.type_list_count mt_count (pv 5) (pa_cons (pv 8) pa_nil)))
 (pss_one (ps_expr (pe_bm PySem.F.plainAttrs_list PySem.F.slot_list_append PySem.F.type_list_append mt_append (pv 7) (pa_cons (pe_tup (pa_cons (pv 8) (pa_cons (pe_callB (call_min2 rfl) (by rfl) T.min PyProof.Rows.boot_min (pa_cons (pv 9) (pa_cons (pe_op op_sub (pe_op op_add (pe_callB call_len_seq (by rfl) T.len PySem.boot_len (pa_cons (pv 5) pa_nil)) (pe_callB call_len_seq (by rfl) T.len PySem.boot_len (pa_cons (pv 2) pa_nil))) (pv 9)) pa_nil))) pa_nil))) pa_nil)))))
 pss_nil)))
 (pss_cons (ps_set (i := 10) nd rfl (Or.inl rfl) (pe_callTy call_list_of (by rfl) T.list_ PyProof.Rows.boot_list (pa_cons (pv 2) pa_nil)))
 (pss_cons (ps_set (i := 11) nd rfl (Or.inl rfl) pe_non)
 (pss_cons (ps_set (i := 12) nd rfl (Or.inl rfl) pe_bl)
 (pss_cons (ps_mid (ps_try rfl rfl (psxs_one (psx_set (i := 11) nd rfl (Or.inl rfl) (pex_call c_counted.ok (hr.mono (by decide)) rfl c_counted.mg c_counted.kp c_counted.b (pa_cons (pv 10) pa_nil))))
 (ph_cons rfl T_NoShare.g T_NoShare.e rfl (fun _ => (pss_one (ps_set (i := 12) nd rfl (Or.inl rfl) pe_bl)))
 ph_nil)))
 (pss_cons (ps_if (pt_not (pt_val (pe_call c__law_stays_so.ok (hr.mono (by decide)) rfl c__law_stays_so.mg c__law_stays_so.kp c__law_stays_so.b .nil pass0 (pa_cons (pv 10) (pa_cons (pv 2) pa_nil)))))
 (pss_one (ps_ret pe_bl))
 pss_nil)
 (pss_cons (ps_if (PW.pt (pw_or (pt_val (pv 12)) (pw_or1 (pt_val (pv 6)))))
 (pss_one (ps_ret (pe_and (pv 12) (pe_one (pv 6)))))
 pss_nil)
 (pss_cons (ps_if (PW.pt (pw_or (pt_not (pt_val (pe_callB call_isi (by rfl) T.isinstance PyProof.Rows.boot_isinstance (pa_cons (pv 11) (pa_cons (pe_bltn (v := .ty "tuple") rfl T.tuple_ PyProof.Rows.boot_tuple rfl) pa_nil))))) (pw_or1 (pt_not (pt_val (pe_call c__law_stays_so.ok (hr.mono (by decide)) rfl c__law_stays_so.mg c__law_stays_so.kp c__law_stays_so.b .nil pass0 (pa_cons (pv 11) (pa_cons (pe_tup (pa_cons pe_str (pa_cons (pv 7) (pa_cons (pe_callB call_len_seq (by rfl) T.len PySem.boot_len (pa_cons (pv 2) pa_nil)) pa_nil)))) pa_nil))))))))
 (pss_one (ps_ret pe_bl))
 pss_nil)
 (pss_cons (ps_set (i := 13) nd rfl (Or.inl rfl) (pe_call c_evened.ok (hr.mono (by decide)) rfl c_evened.mg c_evened.kp c_evened.b .nil pass0 (pa_cons (pe_slice sl_str pe_str po_none (po_some (pe_op op_add pe_int (pe_op op_mod (pe_call c__law_at.ok (hr.mono (by decide)) rfl c__law_at.mg c__law_at.kp c__law_at.b .nil pass0 (pa_cons (pv 0) (pa_cons pe_int pa_nil))) pe_int)))) pa_nil)))
 (pss_cons (ps_set (i := 14) nd rfl (Or.inl rfl) (pe_slice sl_list (pe_lst (pa_cons (pe_tup (pa_cons pe_str (pa_cons pe_int pa_nil))) (pa_cons (pe_tup (pa_cons pe_str (pa_cons pe_int pa_nil))) (pa_cons (pe_tup (pa_cons pe_str (pa_cons pe_int pa_nil))) pa_nil)))) po_none (po_some (pe_op op_add pe_int (pe_op op_mod (pe_call c__law_at.ok (hr.mono (by decide)) rfl c__law_at.mg c__law_at.kp c__law_at.b .nil pass0 (pa_cons (pv 0) (pa_cons pe_int pa_nil))) pe_int)))))
 (pss_one (ps_ret (pe_call c__law_stays_so.ok (hr.mono (by decide)) rfl c__law_stays_so.mg c__law_stays_so.kp c__law_stays_so.b .nil pass0 (pa_cons (pv 13) (pa_cons (pe_tup (pa_cons pe_str (pa_cons (pv 14) (pa_cons pe_int pa_nil)))) pa_nil)))))))))))))))))))))))), ?_⟩
    refine ⟨_, rfl, _, rfl, a0, _, rfl, hS, fun p1 hp1 => ?_⟩
    obtain ⟨ms, en, hn', _⟩ := cutV_map ns none (some 200)
    rw [en]
    have h11 : upd H p1 (.lst (ms.map V.int)) p1 = some (.lst (ms.map V.int)) := upd_same
    generalize upd H p1 (.lst (ms.map V.int)) = H1 at h11
    refine ⟨by show 1 ≤ sizeLine; decide, fun p2 hp2 => ?_⟩
    have h12 : upd H1 p2 (.lst [.str (Str.ofString "")]) p2 = some (.lst (([Str.ofString ""] : List Str).map V.str)) := upd_same
    have h112 := same_upd (o := .lst [.str (Str.ofString "")]) hp2 _ _ h11
    have hne12 : p1 ≠ p2 := fun z => by rw [← z, h11] at hp2; cases hp2
    generalize upd H1 p2 (.lst [.str (Str.ofString "")]) = H2 at h12 h112
    refine ⟨_, rfl, _, rfl, p1, _, rfl, SqL.of h112, fun p3 hp3 => ?_⟩
    obtain ⟨m3, em3, _, _⟩ := cutV_map ms (some 1) none
    have hm3 : m3.length ≤ 62 := by
      have := cut1_len (ms.map V.int)
      rw [em3, List.length_map, List.length_map] at this
      omega
    rw [em3]
    have h33 : upd H2 p3 (.lst (m3.map V.int)) p3 = some (.lst (m3.map V.int)) := upd_same
    have h13 := same_upd (o := .lst (m3.map V.int)) hp3 _ _ h112
    have h23 := same_upd (o := .lst (m3.map V.int)) hp3 _ _ h12
    have hne32 : p3 ≠ p2 := fun z => by rw [z, h12] at hp3; cases hp3
    generalize upd H2 p3 (.lst (m3.map V.int)) = H3 at h33 h13 h23
    clear hp1 hp2 hp3 h12 h112 h11 em3 en hS
    refine ⟨p3, rfl, ⟨_, SqL.of h33⟩, for_list (K := K) (a := p3) (xs := m3.map V.int) (fun i σ H' => ∃ (ts : List Str) (x y : Option V), H' p1 = some (.lst (ms.map V.int)) ∧ H' p3 = some (.lst (m3.map V.int)) ∧ H' p2 = some (.lst (ts.map V.str)) ∧ TxI ts i ∧ σ = [some (.ref p1), some (.str lettersS), some (.ref p2), x, y, none, none, none, none, none, none, none, none, none, none])
      ⟨[Str.ofString ""], none, none, h13, h33, h23, TxI.start, rfl⟩ (fun i σ H' _ ⟨_, _, _, _, h, _⟩ => SqL.of h) ?_ ?_⟩
    · rintro i u σ H4 hu ⟨ts, x, y, h1, h3, h2, hts, rfl⟩
      rw [List.getElem?_map] at hu
      cases hci : m3[i]? with
      | none => rw [hci] at hu; cases hu
      | some c =>
        rw [hci] at hu
        cases hu
        have hil : i < m3.length := (List.getElem?_eq_some_iff.mp hci).1
        have hfew := hts.few
        refine ⟨_, rfl, _, _, rfl, rfl, (by show (0 : Int) < 5; decide), rfl, _, rfl, if2 (fun e => ?_) (fun e => ?_)⟩
        · refine ⟨_, rfl, .inl ⟨rfl, _, SqL.of h2⟩, p2, _, _, rfl, rfl, h2, small1000 (by rw [List.length_map]; omega), ?_⟩
          refine ⟨ts ++ [Str.ofString ""], _, _, ?_, ?_, ?_, hts.more, rfl⟩
          · rw [upd_ne hne12]; exact h1
          · rw [upd_ne hne32]; exact h3
          · rw [upd_same, List.map_append]; rfl
        clear e
        refine ⟨_, rfl, _, _, rfl, rfl, ⟨by decide, by decide +kernel⟩, _, _, rfl, rfl, (by show (0 : Int) < 26; decide), _, rfl, _, _, rfl, rfl, ⟨by decide, by decide +kernel⟩, _, _, rfl, rfl, (by show (0 : Int) < 3; decide), by show 2 ≤ sizeLine; decide, fun l4 hl4 => ?_⟩
        obtain ⟨v, hv, hv0, hv1⟩ := two_at (a := c / 5 % 26) (b := c / 5 % 3) (i := c / 130 % 2) (by omega) (by omega) (by omega)
        refine ⟨_, rfl, _, _, rfl, rfl, ⟨by decide, by decide +kernel⟩, _, _, rfl, rfl, (by show (0 : Int) < 2; decide), l4, _, _, .int v, rfl, rfl, SqL.of upd_same, hv, ?_⟩
        have s4 := same_upd (o := .lst [.int (c / 5 % 26), .int (c / 5 % 3)]) hl4
        have h1 := s4 _ _ h1
        have h2 := s4 _ _ h2
        have h3 := s4 _ _ h3
        generalize upd H4 l4 (.lst [.int (c / 5 % 26), .int (c / 5 % 3)]) = H5 at h1 h2 h3
        clear s4 hl4 hv
        obtain ⟨zs, z, rfl⟩ : ∃ zs z, ts = zs ++ [z] := ⟨_, _, (List.dropLast_concat_getLast hts.ne).symm⟩
        rw [List.map_append] at h2
        have h2 : H5 p2 = some (.lst (zs.map V.str ++ [.str z])) := h2
        have hzl : z.length ≤ 62 := by
          have h4 := sub_len (ts := zs ++ [z]) (t := z) (by simp)
          have h5 := hts.len
          show z.cps.size ≤ 62
          omega
        have hix : ixN (zs.map V.str ++ [V.str z]).length (-1) = some zs.length := by
          unfold ixN
          rw [if_neg (by decide), List.length_append, List.length_map, List.length_singleton, if_pos (by omega)]
          congr 1
          omega
        refine ⟨_, rfl, _, rfl, p2, _, _, _, rfl, rfl, SqL.of h2, atI_last _ _, _, rfl, _, rfl, lettersS, _, _, rfl, rfl, small_line (by decide +kernel), letters_at hv0 hv1, _, _, rfl, rfl, small_line (by show z.length + 1 ≤ 1000000; omega), _, rfl, _, rfl, p2, _, _, _, rfl, rfl, h2, hix, ?_⟩
        have hset : (zs.map V.str ++ [V.str z]).set zs.length (.str (z ++ sg (97 + v.toNat))) = (zs ++ [z ++ sg (97 + v.toNat)]).map V.str := by
          rw [List.map_append, List.set_append_right _ _ (by rw [List.length_map]; exact Nat.le_refl _), List.length_map, Nat.sub_self]
          rfl
        refine ⟨zs ++ [z ++ sg (97 + v.toNat)], _, _, ?_, ?_, ?_, hts.sign ⟨_, rfl, by omega, by omega⟩, rfl⟩
        · rw [upd_ne hne12]; exact h1
        · rw [upd_ne hne32]; exact h3
        · rw [upd_same, ← hset]; rfl
    rintro σ H4 ⟨ts, x, y, h1, _, h2, hts, rfl⟩
    rw [List.length_map] at hts
    clear h33 h13 h23
    refine ⟨MidA p1 ms, ?_, ?_⟩
    · refine ⟨_, rfl, p1, ms, 0, rfl, SqL.of h1, by decide, _, _, rfl, rfl, (by show (0 : Int) < 4; decide), rfl, _, rfl, if2 (fun e => ?_) (fun e => ?_)⟩
      · obtain ⟨t, ht, htS, ht3⟩ := four_at (i := ms.getD (Int.toNat 0) 0 / 4 % 4) (by omega)
        refine ⟨_, rfl, .inl ⟨rfl, _, SqL.of h2⟩, by show 4 ≤ sizeLine; decide, fun l5 hl5 => ?_⟩
        have s5 := same_upd (o := .lst [.str (Str.ofString "A"), .str (Str.ofString "a b"), .str (Str.ofString "z1"), .str (Str.ofString ".")]) hl5
        have hf := hts.few
        refine ⟨_, rfl, p1, ms, 0, rfl, SqL.of (s5 _ _ h1), by decide, _, _, rfl, rfl, ⟨by decide, by decide +kernel⟩, _, _, rfl, rfl, (by show (0 : Int) < 4; decide), l5, _, _, .str t, rfl, rfl, SqL.of upd_same, ht, p2, _, _, rfl, rfl, s5 _ _ h2, small1000 (by rw [List.length_map]; omega), ?_⟩
        refine ⟨p2, ts ++ [t], _, _, ?_, ?_, hts.odd hm3 htS ht3, rfl⟩
        · rw [upd_ne hne12]; exact s5 _ _ h1
        · rw [upd_same, List.map_append]; rfl
      · exact ⟨p2, ts, _, _, h1, h2, hts.tx9 hm3, rfl⟩
    clear hts h1 h2 hne12 hne32
    rintro σ H5 ⟨p, ts, x, y, h1, h2, hts, rfl⟩
    refine ⟨MidA p1 ms, ?_, ?_⟩
    · refine ⟨_, rfl, p1, ms, 0, rfl, SqL.of h1, by decide, _, _, rfl, rfl, (by show (0 : Int) < 4; decide), rfl, _, rfl, if2 (fun e => ?_) (fun e => ?_)⟩
      · refine ⟨by show 1 ≤ sizeLine; decide, fun l5 hl5 => ?_⟩
        have s5 := same_upd (o := .lst [.str (Str.ofString "")]) hl5
        refine ⟨_, rfl, p1, ms, 0, rfl, SqL.of (s5 _ _ h1), by decide, _, _, rfl, rfl, ⟨by decide, by decide +kernel⟩, _, _, rfl, rfl, (by show (0 : Int) < 3; decide), l5, _, _, rfl, rfl, upd_same, by omega, by omega, by show 1 * _ ≤ sizeLine; exact small_line (by omega), fun p6 hp6 => ?_⟩
        rw [rep_texts]
        exact ⟨p6, _, _, _, same_upd hp6 _ _ (s5 _ _ h1), upd_same, Tx9.rep (by omega), rfl⟩
      · exact ⟨p, ts, _, _, h1, h2, hts, rfl⟩
    clear hts h1 h2 x y p ts
    rintro σ H6 ⟨p, ts, x, y, h1, h2, hts, rfl⟩
    have hsl := hts.len
    have hjl : (Txt.join (Str.ofString "") ts).cps.size ≤ 65 := by
      rw [← sgs_length, join_flat]
      exact hsl
    refine ⟨rfl, _, rfl, _, p, ts, rfl, rfl, SqL.of h2, ?_, _, rfl, hjl, fun l ys hl hp => ?_⟩
    · rw [← flat_len, show (Str.ofString "").length = 0 from rfl]
      omega
    have hp : ys.Perm (flat ts) := by
      have e : signsOf (Txt.join (Str.ofString "") ts) = flat ts := join_flat ts
      rw [← e]
      exact hp
    have hyl : ys.length ≤ 65 := by rw [hp.length_eq]; exact hsl
    have sl := same_upd (o := .lst (ys.map V.str)) hl
    have h1 := sl _ _ h1
    have h2 := sl _ _ h2
    have hl7 : upd H6 l (.lst (ys.map V.str)) l = some (.lst (ys.map V.str)) := upd_same
    generalize upd H6 l (.lst (ys.map V.str)) = H7 at h1 h2 hl7
    clear sl hl hjl
    refine ⟨MidB p1 ms p l ts ys, ?_, ?_⟩
    · refine ⟨_, rfl, by show 0 ≤ sizeLine; decide, fun e0 he0 => ?_⟩
      have s0 := same_upd (o := .lst []) he0
      refine ⟨l, e0, _, [], rfl, rfl, SqL.of (s0 _ _ hl7), SqL.of upd_same, .inl rfl, _, rfl, if2 (fun e => ?_) (fun e => ?_)⟩
      · have e : eqVs (ys.map V.str) [] = true := e
        rw [eqVs_nil] at e
        exact ⟨_, _, true, s0 _ _ h1, s0 _ _ h2, s0 _ _ hl7, ⟨fun _ => empty_bad hp e, fun _ => rfl⟩, rfl⟩
      have e : eqVs (ys.map V.str) [] = false := e
      rw [eqVs_nil] at e
      have h1 := s0 _ _ h1
      have h2 := s0 _ _ h2
      have hl8 := s0 _ _ hl7
      generalize upd H7 e0 (.lst []) = H8 at h1 h2 hl8
      refine ⟨_, rfl, l, rfl, ⟨_, SqL.of hl8⟩, comp_list (K := K) (a := l) (xs := ys.map V.str) (fun i acc σ H' => H' = H8 ∧ acc = (bads (ys.take i)).map V.str ∧ ∃ x, σ = [x, some (.str lettersS)]) ⟨rfl, rfl, _, rfl⟩ (small_line (by rw [List.length_map]; omega)) ?_ ?_ ?_⟩
      · rintro i acc σ H' hi ⟨rfl, rfl, _⟩
        refine ⟨SqL.of hl8, ?_⟩
        rw [List.length_map]
        refine Nat.le_trans (List.length_filter_le _ _) ?_
        rw [List.length_take]
        exact Nat.min_le_left _ _
      · rintro i u acc σ H' hu ⟨rfl, rfl, z, rfl⟩
        obtain ⟨c, hci, rfl⟩ := str_at hu
        obtain ⟨d, rfl⟩ : ∃ d, c = sg d := by
          have := hp.mem_iff.mp (List.mem_of_getElem? hci)
          obtain ⟨t, _, hc⟩ := List.mem_flatMap.mp this
          obtain ⟨d, _, e⟩ := List.mem_map.mp hc
          exact ⟨d, e.symm⟩
        have ein : (!(!(Builtin.Str.occurrences lettersS (sg d) 0 lettersS.length 1).isEmpty)) = !isSg (sg d) := by rw [show sg d = ⟨#[d]⟩ from rfl, in_letters d]; rfl
        refine ⟨_, rfl, _, rfl, _, _, rfl, rfl, _, rfl, if2 (fun e2 => ?_) (fun e2 => ?_)⟩
        · exact ⟨_, rfl, rfl, bads_in hci (ein.symm.trans e2), _, rfl⟩
        · exact ⟨rfl, bads_out hci (ein.symm.trans e2), _, rfl⟩
      · rintro acc σ H' ⟨rfl, rfl, _⟩ pe hpe
        rw [List.length_map, List.take_length]
        have se := same_upd (o := .lst ((bads ys).map V.str)) hpe
        refine ⟨by show 0 ≤ sizeLine; decide, fun pf hpf => ?_⟩
        have sf := same_upd (o := .lst []) hpf
        refine ⟨pe, pf, _, [], rfl, rfl, SqL.of (sf _ _ upd_same), SqL.of upd_same, .inl rfl, ?_⟩
        refine ⟨_, _, !eqVs ((bads ys).map V.str) [], sf _ _ (se _ _ h1), sf _ _ (se _ _ h2), sf _ _ (se _ _ hl8), ?_, rfl⟩
        rw [eqVs_nil]
        exact bads_iff hp e
    clear h1 h2 hl7 x y
    rintro σ H8 ⟨x, y, b, h1, h2, hl, hb, rfl⟩
    have hdf := dueUp_few (flat ts) ts.length
    refine ⟨by show 0 ≤ sizeLine; decide, fun pd hpd => ?_⟩
    refine ⟨_, rfl, lettersS, rfl, for_str (x := lettersS) (fun i σ H' => ∃ (vs : List V) (a8 a9 : Option V), Same H8 H' ∧ H' pd = some (.lst vs) ∧ Paired (PairAt H') vs (dueUp (flat ts) ts.length i) ∧ σ = [some (.ref p1), some (.str lettersS), some (.ref p), x, y, some (.ref l), some (.bl b), some (.ref pd), a8, a9, none, none, none, none, none])
      ⟨[], none, none, same_upd hpd, upd_same, .nil, rfl⟩ ?_ ?_⟩
    · rintro i c σ H9 hc ⟨vs, a8, a9, s9, hd9, hpa, rfl⟩
      have hab := abc_at hc
      refine ⟨_, rfl, _, rfl, l, _, rfl, .inl (SqL.of (s9 _ _ hl)), rfl, flat_strs ys, _, rfl, if2 (fun e => ?_) (fun e => ?_)⟩
      · have e : inV (.str (sg c)) (ys.map V.str) = true := e
        rw [inV_strs, decide_eq_true_eq] at e
        have hcm : sg c ∈ flat ts := hp.mem_iff.mp e
        refine ⟨_, rfl, .inl ⟨rfl, _, SqL.of (s9 _ _ hl)⟩, _, rfl, l, _, _, rfl, rfl, s9 _ _ hl, flat_strs ys, rfl, ?_⟩
        rw [show (ys.map V.str).countP (fun z => eqV z (.str ⟨#[c]⟩)) = (flat ts).count (sg c) from (cnt_strs (sg c) ys).trans (hp.count_eq _)]
        refine ⟨_, rfl, .inl ⟨rfl, _, SqL.of hd9⟩, _, rfl, _, rfl, _, rfl, l, _, rfl, .inl (SqL.of (s9 _ _ hl)), _, rfl, p, _, rfl, .inl (SqL.of (s9 _ _ h2)), _, _, rfl, rfl, _, rfl, _, _, rfl, rfl, _, _, rfl, by show 2 ≤ sizeLine; decide, fun t ht => ?_⟩
        rw [List.length_map, List.length_map, hp.length_eq]
        have st := same_upd (o := .tup [.str (shareOf (flat ts) ts.length (sg c)).1, .int (shareOf (flat ts) ts.length (sg c)).2]) ht
        have hne : t ≠ pd := fun z => by rw [z, hd9] at ht; cases ht
        refine ⟨pd, _, _, rfl, rfl, st _ _ hd9, small1000 (by have := hdf i; rw [Paired.length hpa]; omega), ?_⟩
        refine ⟨vs ++ [.ref t], _, _, fun q o e => ?_, upd_same, ?_, rfl⟩
        · rw [upd_ne (ne_of_none e hpd)]
          exact st _ _ (s9 _ _ e)
        · rw [dueUp_in hab hcm]
          refine (Paired.imp2 hpa fun _ _ z => ?_).snoc ⟨t, rfl, ?_⟩
          · obtain ⟨a5, rfl, h5⟩ := z
            refine ⟨a5, rfl, ?_⟩
            rw [upd_ne (fun z => by rw [z, hd9] at h5; cases h5)]
            exact st _ _ h5
          · rw [upd_ne hne]
            exact upd_same
      · have e : inV (.str (sg c)) (ys.map V.str) = false := e
        rw [inV_strs, decide_eq_false_iff_not] at e
        refine ⟨vs, _, _, s9, hd9, ?_, rfl⟩
        rw [dueUp_out hab fun z => e (hp.mem_iff.mpr z)]
        exact hpa
    rintro σ H9 ⟨vs, a8, a9, s9, hd9, hpa, rfl⟩
    rw [dueUp_all] at hpa
    have h1 := s9 _ _ h1
    have h2 := s9 _ _ h2
    have hD : PairsAt H9 pd (dueOf (flat ts) ts.length) := ⟨vs, hd9, hpa⟩
    clear s9 hd9 hpa hpd hl
    refine ⟨_, rfl, p, _, rfl, .inl (SqL.of h2), fun q hq => ?_⟩
    have sq := same_upd (o := .lst (ts.map V.str)) hq
    have hq10 : upd H9 q (.lst (ts.map V.str)) q = some (.lst (ts.map V.str)) := upd_same
    have h1 := sq _ _ h1
    have h2 := sq _ _ h2
    have hD := hD.same sq
    generalize upd H9 q (.lst (ts.map V.str)) = H10 at hq10 h1 h2 hD
    refine ⟨MidD p1 ms p q pd ts, ?_, ?_⟩
    · refine ⟨_, rfl, q, ts, rfl, hq10, hts.ok, fun hA hne u H11 s11 hM => ?_, fun hno H11 s11 => ?_⟩
      · exact ⟨_, _, _, _, _, _, b, false, s11 _ _ h1, s11 _ _ h2, s11 _ _ hq10, hD.same s11, hb, .inr ⟨rfl, ⟨hA, hne⟩, u, rfl, hM⟩, rfl⟩
      · exact ⟨cl.NS, _, rfl, T_NoShare.e, ifT (line9 _ _) ⟨_, _, _, _, _, _, b, true, s11 _ _ h1, s11 _ _ h2, s11 _ _ hq10, hD.same s11, hb, .inl ⟨rfl, hno⟩, rfl⟩⟩
    clear h1 h2 hq10 hD hb x y b a8 a9
    rintro σ H11 ⟨x, y, a5, a8, a9, fo, b, rf, h1, h2, hq, hD, hb, hrf, rfl⟩
    have hfew := hts.few
    refine ⟨_, rfl, _, rfl, .ref q, .ref p, _, rfl, .lst hq h2 (alike_texts ts) .nil, by omega, fun H12 s12 => ⟨_, rfl, ifF rfl ?_⟩⟩
    have h1 := s12 _ _ h1
    have h2 := s12 _ _ h2
    have hD := hD.same s12
    rcases hrf with ⟨rfl, hno⟩ | ⟨rfl, hgood, v, rfl, hM⟩
    · have eb : b = true := hb.mpr hno
      subst eb
      exact ⟨_, rfl, _, rfl, ifT rfl ⟨_, rfl, _, rfl, ifT rfl ⟨_, rfl, k _⟩⟩⟩
    have eb : b = false := by
      cases b with
      | false => rfl
      | true => exact absurd hgood (hb.mp rfl)
    subst eb
    have hM := hM.same s12
    refine ⟨_, rfl, _, rfl, ifF rfl ⟨_, rfl, _, rfl, ifF rfl ?_⟩⟩
    have hd26 := due_few (flat ts) ts.length
    obtain ⟨a, pl, rfl, ha, hpl⟩ := id hM
    refine ⟨_, rfl, _, _, _, true, rfl, .inl (TyOf.tup ha), .inl ⟨_, rfl, kit_tuple_tuple⟩, _, rfl, ifF rfl ?_⟩
    refine ⟨_, rfl, _, rfl, _, rfl, p, _, rfl, .inl (SqL.of h2), by show 3 ≤ sizeLine; decide, fun t ht => ?_⟩
    rw [List.length_map]
    have st := same_upd (o := .tup [.str (Str.ofString "known"), .ref pd, .int (ts.length : Nat)]) ht
    obtain ⟨n1, hn1, al1⟩ := alike_models (M := ⟨false, dueOf (flat ts) ts.length, (ts.length : Nat)⟩) (hM.same st) (u := .ref t) ⟨t, pd, rfl, upd_same, hD.same st⟩ (by show (dueOf (flat ts) ts.length).length ≤ 1000; omega)
    refine ⟨.ref a, .ref t, n1, rfl, al1, by omega, fun H13 s13 => ⟨_, rfl, ifF rfl ?_⟩⟩
    have h1 := s13 _ _ (st _ _ h1)
    clear s13 al1 st ht hpl ha hM hD h2 hd26
    obtain ⟨m, hm⟩ : ∃ m, m = ms.getD (Int.toNat 0) 0 % 3 := ⟨_, rfl⟩
    have hm3 : m = 0 ∨ m = 1 ∨ m = 2 := by omega
    obtain ⟨z1, z2, z3⟩ := zaq_all hm3
    refine ⟨_, rfl, p1, ms, 0, rfl, SqL.of h1, by decide, _, _, rfl, rfl, (by show (0 : Int) < 3; decide), _, _, rfl, rfl, _, rfl, _, rfl, small_line (by decide +kernel), ?_⟩
    rw [← hm]
    refine ⟨zaqS m, rfl, z1, z2, fun v H14 s14 hv => ?_⟩
    have h1 := s14 _ _ h1
    clear s14
    refine ⟨by show 2 ≤ sizeLine; decide, fun t1 ht1 => ⟨by show 2 ≤ sizeLine; decide, fun t2 ht2 => ⟨by show 2 ≤ sizeLine; decide, fun t3 ht3 => ⟨by show 3 ≤ sizeLine; decide, fun le hle => ?_⟩⟩⟩⟩
    have s1 := same_upd (o := .tup [.str (Str.ofString "z"), .int 1]) ht1
    have a1 : upd H14 t1 (.tup [.str (Str.ofString "z"), .int 1]) t1 = some (.tup [.str (Str.ofString "z"), .int 1]) := upd_same
    generalize upd H14 t1 (.tup [.str (Str.ofString "z"), .int 1]) = H15 at s1 a1 ht2 ht3 hle
    have s2 := same_upd (o := .tup [.str (Str.ofString "a"), .int 1]) ht2
    have a2 : upd H15 t2 (.tup [.str (Str.ofString "a"), .int 1]) t2 = some (.tup [.str (Str.ofString "a"), .int 1]) := upd_same
    generalize upd H15 t2 (.tup [.str (Str.ofString "a"), .int 1]) = H16 at s2 a2 ht3 hle
    have s3 := same_upd (o := .tup [.str (Str.ofString "q"), .int 1]) ht3
    have a3 : upd H16 t3 (.tup [.str (Str.ofString "q"), .int 1]) t3 = some (.tup [.str (Str.ofString "q"), .int 1]) := upd_same
    generalize upd H16 t3 (.tup [.str (Str.ofString "q"), .int 1]) = H17 at s3 a3 hle
    have s4 := same_upd (o := .lst [.ref t1, .ref t2, .ref t3]) hle
    have a4 : upd H17 le (.lst [.ref t1, .ref t2, .ref t3]) le = some (.lst [.ref t1, .ref t2, .ref t3]) := upd_same
    generalize upd H17 le (.lst [.ref t1, .ref t2, .ref t3]) = H18 at s4 a4
    have s18 := s1.trans (s2.trans (s3.trans s4))
    refine ⟨_, rfl, p1, ms, 0, rfl, SqL.of (s18 _ _ h1), by decide, _, _, rfl, rfl, (by show (0 : Int) < 3; decide), _, _, rfl, rfl, _, rfl, le, _, rfl, SqL.of a4, fun pe hpe => ?_⟩
    rw [← hm]
    have s5 := same_upd (o := .lst (cutV [.ref t1, .ref t2, .ref t3] none (some (1 + m)))) hpe
    have a5 : upd H18 pe (.lst (cutV [.ref t1, .ref t2, .ref t3] none (some (1 + m)))) pe = some (.lst (cutV [.ref t1, .ref t2, .ref t3] none (some (1 + m)))) := upd_same
    generalize upd H18 pe (.lst (cutV [.ref t1, .ref t2, .ref t3] none (some (1 + m)))) = H19 at s5 a5
    have hz3 := z3 H19 _ _ _ ⟨t1, rfl, s5 _ _ (s4 _ _ (s3 _ _ (s2 _ _ a1)))⟩ ⟨t2, rfl, s5 _ _ (s4 _ _ (s3 _ _ a2))⟩ ⟨t3, rfl, s5 _ _ (s4 _ _ a3)⟩
    refine ⟨_, rfl, _, rfl, by show 3 ≤ sizeLine; decide, fun t ht => ?_⟩
    have st := same_upd (o := .tup [.str (Str.ofString "learnt"), .ref pe, .int 1]) ht
    obtain ⟨n1, hn1, al1⟩ := alike_models (M := ⟨true, (sgs (zaqS m)).map fun c => (c, 1), 1⟩) (hv.same (s18.trans (s5.trans st))) (u := .ref t) ⟨t, pe, rfl, upd_same, ⟨_, st _ _ a5, Paired.imp2 hz3 fun _ _ => PairAt.same st⟩⟩ (by show ((sgs (zaqS m)).map _).length ≤ 1000; rw [List.length_map, sgs_length]; exact z1)
    exact ⟨v, .ref t, n1, rfl, al1, by omega, fun H20 _ => k _⟩
end
theorem bnd_is_sign {K : PySem.W.Frag} {f : Addr} {fd : FuncData} (F : Fun K "is_sign" "is_sign" s_is_sign f fd) : Binds K fd ["text"] [] := F.binds (ps := ["text"]) fun _ _ _ _ _ _ us hl => match us, hl with | [_], _ => rfl
theorem bnd__law_at {K : PySem.W.Frag} {f : Addr} {fd : FuncData} (F : Fun K "_law_at" "_law_at" s__law_at f fd) : Binds K fd ["_law_script", "_law_k"] [] := F.binds (ps := ["_law_script", "_law_k"]) fun _ _ _ _ _ _ us hl => match us, hl with | [_, _], _ => rfl
theorem bnd__law_stays_so {K : PySem.W.Frag} {f : Addr} {fd : FuncData} (F : Fun K "_law_stays_so" "_law_stays_so" s__law_stays_so f fd) : Binds K fd ["_law_handed", "_law_own"] [] := F.binds (ps := ["_law_handed", "_law_own"]) fun _ _ _ _ _ _ us hl => match us, hl with | [_, _], _ => rfl
theorem bnd_counts_of {K : PySem.W.Frag} {f : Addr} {fd : FuncData} (F : Fun K "counts_of" "counts_of" s_counts_of f fd) : Binds K fd ["texts"] [] := F.binds (ps := ["texts"]) fun _ _ _ _ _ _ us hl => match us, hl with | [_], _ => rfl
theorem bnd_counted {K : PySem.W.Frag} {f : Addr} {fd : FuncData} (F : Fun K "counted" "counted" s_counted f fd) : Binds K fd ["texts"] [] := F.binds (ps := ["texts"]) fun _ _ _ _ _ _ us hl => match us, hl with | [_], _ => rfl
theorem bnd_evened {K : PySem.W.Frag} {f : Addr} {fd : FuncData} (F : Fun K "evened" "evened" s_evened f fd) : Binds K fd ["signs"] [] := F.binds (ps := ["signs"]) fun _ _ _ _ _ _ us hl => match us, hl with | [_], _ => rfl
theorem bnd_law {K : PySem.W.Frag} {f : Addr} {fd : FuncData} (F : Fun K "law" "law" s_law f fd) : Binds K fd ["_law_script"] [] := F.binds (ps := ["_law_script"]) fun _ _ _ _ _ _ us hl => match us, hl with | [_], _ => rfl
theorem all_mk {l : PySem.W.OpenLaw} {w : World} {K : PySem.W.Frag} {h : Heap} {mg : Str → Option Value} {fa : Addr} {f_is_sign f__law_at f__law_stays_so f_counts_of f_counted f_evened f_law cPE cNS : Addr} (X : K.In h) (G : h.Ns mainGlobals mg) (hfa : mg "law" = some (.ref fa))
    {od_is_sign an_is_sign : Option Addr} {sl_is_sign : Array (Option Value)} {oc_is_sign kV_is_sign dc_is_sign pm_is_sign cd_is_sign ct_is_sign : Value} (a_is_sign : PySem.W.nsIn K mainGlobals "is_sign" = some (some (.ref f_is_sign))) (l_is_sign : K.lookup f_is_sign = some ⟨oc_is_sign, od_is_sign, .func (PySem.W.fnOf "is_sign" "is_sign" (defArgs s_is_sign) (defBody s_is_sign) (defScope s_is_sign) .none kV_is_sign dc_is_sign pm_is_sign an_is_sign cd_is_sign ct_is_sign), sl_is_sign⟩) (cc_is_sign : PySem.W.codeIn K cd_is_sign "is_sign" = true) (k_is_sign : PySem.W.keepIn K (.ref f_is_sign) = true)
    {od__law_at an__law_at : Option Addr} {sl__law_at : Array (Option Value)} {oc__law_at kV__law_at dc__law_at pm__law_at cd__law_at ct__law_at : Value} (a__law_at : PySem.W.nsIn K mainGlobals "_law_at" = some (some (.ref f__law_at))) (l__law_at : K.lookup f__law_at = some ⟨oc__law_at, od__law_at, .func (PySem.W.fnOf "_law_at" "_law_at" (defArgs s__law_at) (defBody s__law_at) (defScope s__law_at) .none kV__law_at dc__law_at pm__law_at an__law_at cd__law_at ct__law_at), sl__law_at⟩) (cc__law_at : PySem.W.codeIn K cd__law_at "_law_at" = true) (k__law_at : PySem.W.keepIn K (.ref f__law_at) = true)
    {od__law_stays_so an__law_stays_so : Option Addr} {sl__law_stays_so : Array (Option Value)} {oc__law_stays_so kV__law_stays_so dc__law_stays_so pm__law_stays_so cd__law_stays_so ct__law_stays_so : Value} (a__law_stays_so : PySem.W.nsIn K mainGlobals "_law_stays_so" = some (some (.ref f__law_stays_so))) (l__law_stays_so : K.lookup f__law_stays_so = some ⟨oc__law_stays_so, od__law_stays_so, .func (PySem.W.fnOf "_law_stays_so" "_law_stays_so" (defArgs s__law_stays_so) (defBody s__law_stays_so) (defScope s__law_stays_so) .none kV__law_stays_so dc__law_stays_so pm__law_stays_so an__law_stays_so cd__law_stays_so ct__law_stays_so), sl__law_stays_so⟩) (cc__law_stays_so : PySem.W.codeIn K cd__law_stays_so "_law_stays_so" = true) (k__law_stays_so : PySem.W.keepIn K (.ref f__law_stays_so) = true)
    {od_counts_of an_counts_of : Option Addr} {sl_counts_of : Array (Option Value)} {oc_counts_of kV_counts_of dc_counts_of pm_counts_of cd_counts_of ct_counts_of : Value} (a_counts_of : PySem.W.nsIn K mainGlobals "counts_of" = some (some (.ref f_counts_of))) (l_counts_of : K.lookup f_counts_of = some ⟨oc_counts_of, od_counts_of, .func (PySem.W.fnOf "counts_of" "counts_of" (defArgs s_counts_of) (defBody s_counts_of) (defScope s_counts_of) .none kV_counts_of dc_counts_of pm_counts_of an_counts_of cd_counts_of ct_counts_of), sl_counts_of⟩) (cc_counts_of : PySem.W.codeIn K cd_counts_of "counts_of" = true) (k_counts_of : PySem.W.keepIn K (.ref f_counts_of) = true)
    {od_counted an_counted : Option Addr} {sl_counted : Array (Option Value)} {oc_counted kV_counted dc_counted pm_counted cd_counted ct_counted : Value} (a_counted : PySem.W.nsIn K mainGlobals "counted" = some (some (.ref f_counted))) (l_counted : K.lookup f_counted = some ⟨oc_counted, od_counted, .func (PySem.W.fnOf "counted" "counted" (defArgs s_counted) (defBody s_counted) (defScope s_counted) .none kV_counted dc_counted pm_counted an_counted cd_counted ct_counted), sl_counted⟩) (cc_counted : PySem.W.codeIn K cd_counted "counted" = true) (k_counted : PySem.W.keepIn K (.ref f_counted) = true)
    {od_evened an_evened : Option Addr} {sl_evened : Array (Option Value)} {oc_evened kV_evened dc_evened pm_evened cd_evened ct_evened : Value} (a_evened : PySem.W.nsIn K mainGlobals "evened" = some (some (.ref f_evened))) (l_evened : K.lookup f_evened = some ⟨oc_evened, od_evened, .func (PySem.W.fnOf "evened" "evened" (defArgs s_evened) (defBody s_evened) (defScope s_evened) .none kV_evened dc_evened pm_evened an_evened cd_evened ct_evened), sl_evened⟩) (cc_evened : PySem.W.codeIn K cd_evened "evened" = true) (k_evened : PySem.W.keepIn K (.ref f_evened) = true)
    {od_law an_law : Option Addr} {sl_law : Array (Option Value)} {oc_law kV_law dc_law pm_law cd_law ct_law : Value} (a_law : PySem.W.nsIn K mainGlobals "law" = some (some (.ref f_law))) (l_law : K.lookup f_law = some ⟨oc_law, od_law, .func (PySem.W.fnOf "law" "law" (defArgs s_law) (defBody s_law) (defScope s_law) .none kV_law dc_law pm_law an_law cd_law ct_law), sl_law⟩) (cc_law : PySem.W.codeIn K cd_law "law" = true) (k_law : PySem.W.keepIn K (.ref f_law) = true)
    {nmNS qNS : Str} {NNS : Addr} {bsNS subNS : List Value} {hdNS abNS : Bool} {snNS : List Str} {colNS : Option Bool} {ddNS : Option Addr} {kaNS kbNS kcNS kdNS keNS : Option Value} {niNS : String} (a_NoShare : PySem.W.nsIn K mainGlobals "NoShare" = some (some (.ref cNS))) (l_NoShare : K.lookup cNS = some (excClassObj nmNS qNS cNS NNS bsNS (.ref cPE :: VE) hdNS snNS subNS abNS colNS ddNS kaNS kbNS kcNS kdNS keNS niNS)) (x_NoShare : PySem.W.excIn K cNS VE "ValueError.__new__" = true)
    (z_len : PySem.W.nsIn K mainGlobals "len" = some none) (z_sum : PySem.W.nsIn K mainGlobals "sum" = some none) (z_min : PySem.W.nsIn K mainGlobals "min" = some none) (z_isinstance : PySem.W.nsIn K mainGlobals "isinstance" = some none) (z_range : PySem.W.nsIn K mainGlobals "range" = some none) (z_int : PySem.W.nsIn K mainGlobals "int" = some none) (z_list : PySem.W.nsIn K mainGlobals "list" = some none) (z_tuple : PySem.W.nsIn K mainGlobals "tuple" = some none) (z_str : PySem.W.nsIn K mainGlobals "str" = some none) (z_bool : PySem.W.nsIn K mainGlobals "bool" = some none) (z_reversed : PySem.W.nsIn K mainGlobals "reversed" = some none) (z_sorted : PySem.W.nsIn K mainGlobals "sorted" = some none) (z_enumerate : PySem.W.nsIn K mainGlobals "enumerate" = some none) :
    ∃ fd : FuncData, (∀ (s : Shared) (v : Value), BindsTo s fd ⟨[v], []⟩ [("_law_script", v)]) ∧ ∀ base : Heap, K.In base → base.Ns mainGlobals mg → FnOk l.prog w K mg base CX0 4 fa fd ["_law_script"] (spLaw K) := by
  have e := hfa.symm.trans (PySem.W.mg_of X G a_law)
  cases e
  have aS : Addr := 0
  have aK : Addr := 0
  have T : Txt K mg aS aK := ⟨PySem.W.mg_none_of X G z_len, PySem.W.mg_none_of X G z_sum, PySem.W.mg_none_of X G z_min, PySem.W.mg_none_of X G z_isinstance, PySem.W.mg_none_of X G z_range, PySem.W.mg_none_of X G z_int, PySem.W.mg_none_of X G z_list, PySem.W.mg_none_of X G z_tuple, PySem.W.mg_none_of X G z_str, PySem.W.mg_none_of X G z_bool, PySem.W.mg_none_of X G z_reversed, PySem.W.mg_none_of X G z_sorted⟩
  have F_is_sign := fun_mk (st := s_is_sign) l_is_sign cc_is_sign k_is_sign
  have b_is_sign := bnd_is_sign F_is_sign
  have F__law_at := fun_mk (st := s__law_at) l__law_at cc__law_at k__law_at
  have b__law_at := bnd__law_at F__law_at
  have F__law_stays_so := fun_mk (st := s__law_stays_so) l__law_stays_so cc__law_stays_so k__law_stays_so
  have b__law_stays_so := bnd__law_stays_so F__law_stays_so
  have F_counts_of := fun_mk (st := s_counts_of) l_counts_of cc_counts_of k_counts_of
  have b_counts_of := bnd_counts_of F_counts_of
  have F_counted := fun_mk (st := s_counted) l_counted cc_counted k_counted
  have b_counted := bnd_counted F_counted
  have F_evened := fun_mk (st := s_evened) l_evened cc_evened k_evened
  have b_evened := bnd_evened F_evened
  have F_law := fun_mk (st := s_law) l_law cc_law k_law
  have b_law := bnd_law F_law
  refine ⟨PySem.W.fnOf "law" "law" (defArgs s_law) (defBody s_law) (defScope s_law) .none kV_law dc_law pm_law an_law cd_law ct_law, fun s v => .of_eq rfl, fun base _ _ => ?_⟩
  let cl : Cls := ⟨cPE, 0, cNS, 0, 0, 0⟩
  have T_NoShare : ExcT K mg "NoShare" cl.NS (.ref cl.PE :: VE) := ⟨PySem.W.mg_of X G a_NoShare, x_NoShare, ⟨_, _, _, _, _, _, _, _, _, _, _, _, _, _, _, _, l_NoShare⟩⟩
  have T_EN : mg "enumerate" = none := PySem.W.mg_none_of X G z_enumerate
  have C_is_sign : Cal l.prog w K mg base 1 "is_sign" f_is_sign _ ["text"] spSignG := ⟨okg_is_sign F_is_sign T, PySem.W.mg_of X G a_is_sign, k_is_sign, b_is_sign⟩
  have C__law_at : Cal l.prog w K mg base 1 "_law_at" f__law_at _ ["_law_script", "_law_k"] (spAt K) := ⟨ok__law_at F__law_at T, PySem.W.mg_of X G a__law_at, k__law_at, b__law_at⟩
  have C__law_stays_so : Cal l.prog w K mg base 1 "_law_stays_so" f__law_stays_so _ ["_law_handed", "_law_own"] spStays := ⟨ok__law_stays_so F__law_stays_so T, PySem.W.mg_of X G a__law_stays_so, k__law_stays_so, b__law_stays_so⟩
  have C_counts_of : CalR l.prog w K mg base 2 "counts_of" f_counts_of _ ["texts"] (spCounts cl.NS) := ⟨okr_counts_of F_counts_of T T_NoShare C_is_sign, PySem.W.mg_of X G a_counts_of, k_counts_of, b_counts_of⟩
  have C_counted : CalR l.prog w K mg base 3 "counted" f_counted _ ["texts"] (spCounted cl.NS) := ⟨okr_counted F_counted T T_NoShare C_counts_of, PySem.W.mg_of X G a_counted, k_counted, b_counted⟩
  have C_evened : Cal l.prog w K mg base 1 "evened" f_evened _ ["signs"] spEvened := ⟨ok_evened F_evened T T_EN, PySem.W.mg_of X G a_evened, k_evened, b_evened⟩
  exact ok_law F_law T T_NoShare C__law_at C_counted C__law_stays_so C_evened
theorem walk_law {l : PySem.W.OpenLaw} {q : Program} {loose : List Str} {XP : (Str → Option Value) → Heap → Prop} {YP : World → Heap → Prop} {d : DefRec} {K : Params → PySem.W.Frag} (hn : l.most = some 63) (hdf : d.params.defaults = [])
    (hY : ∀ (w : World) (h : Heap), YP w h → (K w.params).In h)
    (F : ∀ (w : World) (mg : Str → Option Value) (fa : Addr) (h : Heap), (K w.params).In h → h.Ns mainGlobals mg → mg d.name = some (.ref fa) →
      ∃ fd : FuncData, (∀ (s : Shared) (u : Value), BindsTo s fd ⟨[u], []⟩ [("_law_script", u)]) ∧ ∀ base : Heap, (K w.params).In base → base.Ns mainGlobals mg → FnOk l.prog w (K w.params) mg base CX0 4 fa fd ["_law_script"] (spLaw (K w.params))) :
    PySem.W.WalkO q loose XP YP l.row.toRowW d [] (fun f vs => PySem.call f vs) :=
  L2.walk_of (n := 63) (k := 4) (x := "_law_script") (CX := fun _ => CX0) (sp := fun w => spLaw (K w.params)) hn (by decide) hdf ⟨rfl, by decide, by decide⟩ hY F (fun _ _ a ns hl _ hS => ⟨a, ns, rfl, hS, hl, fun _ => rfl⟩) fun _ _ _ _ _ z => z
section
open PySem.W
abbrev kC (n : Str) (a b c : Nat) (i1 i2 i3 i4 i5 : Int) (v1 : Value) (i6 : Int) (v2 v3 v4 v5 v6 : Value) (i7 i8 : Int) (d : Nat) : Obj := ⟨.type "code", none, .fields #[.str n a, .str n b, .str "/claim/cut.py" c, .int i1 0, .int i2 0, .int i3 0, .int i4 0, .int i5 0, v1, .bool true, .int i6 0, v2, v3, v4, v5, v6, .int i7 0, .int i8 0, .str "/claim/cut.py" d], #[]⟩
abbrev kF (n : Str) (st : Stmt) (m : Str) (t : Nat) (c : Addr) : Obj := ⟨.type "function", none, .func (PySem.W.fnOf n n (defArgs st) (defBody st) (defScope st) .none .none .none (.str m t) none (.ref c) .none), #[]⟩
abbrev kE (P : Params) (n : Str) (t : Nat) (v : Value) : DictEntry := ⟨PyData.keyHash P n, .str n t, v⟩
def kFrag (P : Params) : Frag :=
  (nat_lit 3, ⟨.type "dict", none, .dict #[kE P "__name__" 165 (.str "law_sharepress_k09_counted" 256), kE P "__doc__" 166 (.none), kE P "__package__" 167 (.none), kE P "__loader__" 168 (.builtin "__main__.__loader__#opaque"), kE P "__spec__" 169 (.none), kE P "__annotations__" 170 (.ref 6), kE P "__builtins__" 171 (.ref 4), kE P "__file__" 173 (.str "/claim/cut.py" 172), kE P "__cached__" 174 (.none), kE P "PressError" 206 (.ref 24), kE P "NoShare" 222 (.ref 37), kE P "is_sign" 231 (.ref 46), kE P "counts_of" 243 (.ref 53), kE P "counted" 249 (.ref 58), kE P "evened" 255 (.ref 63), kE P "_law_at" 265 (.ref 70), kE P "_law_stays_so" 277 (.ref 77), kE P "law" 283 (.ref 82)] 18, #[]⟩) ::
  (nat_lit 23, ⟨.type "dict", none, .dict #[kE P "__module__" 196 (.str "sharepress.errors" 187), kE P "__firstlineno__" 200 (.int (2) 199), kE P "__static_attributes__" 201 (.ref 22), kE P "__weakref__" 203 (.ref 25), kE P "__doc__" 204 (.none)] 3, #[]⟩) ::
  (nat_lit 24, ⟨.type "type", none, .cls { name := "PressError", bases := [.type "ValueError"], mro := [.ref 24, .type "ValueError", .type "Exception", .type "BaseException", .type "object"], ns := 23, qualname := "PressError", hasDict := true, slotNames := [], subclasses := [.ref 37], abstract := false, collection := none, hasDel := false }, #[(some (.ref 15)), none, (some (.str "PressError" 189)), (some (.str "PressError" 197)), (some (.builtin "ValueError.__new__")), (some (.bool true))]⟩) ::
  (nat_lit 36, ⟨.type "dict", none, .dict #[kE P "__module__" 214 (.str "sharepress.errors" 187), kE P "__firstlineno__" 218 (.int (4) 217), kE P "__static_attributes__" 219 (.ref 35), kE P "__doc__" 220 (.none)] 2, #[]⟩) ::
  (nat_lit 37, ⟨.type "type", none, .cls { name := "NoShare", bases := [.ref 24], mro := [.ref 37, .ref 24, .type "ValueError", .type "Exception", .type "BaseException", .type "object"], ns := 36, qualname := "NoShare", hasDict := true, slotNames := [], subclasses := [], abstract := false, collection := none, hasDel := false }, #[(some (.ref 28)), none, (some (.str "NoShare" 207)), (some (.str "NoShare" 215)), (some (.builtin "ValueError.__new__")), (some (.bool true))]⟩) ::
  (nat_lit 45, kC "is_sign" 225 226 227 7 1 0 0 3 (.ref 40) 181 (.ref 41) .none (.ref 42) (.ref 43) (.ref 44) 229 7 230) ::
  (nat_lit 46, kF "is_sign" s_is_sign "sharepress.shares" 223 45) ::
  (nat_lit 52, kC "counts_of" 234 235 236 10 1 0 0 3 (.ref 47) 181 (.ref 48) .none (.ref 49) (.ref 50) (.ref 51) 241 10 242) ::
  (nat_lit 53, kF "counts_of" s_counts_of "sharepress.counting" 232 52) ::
  (nat_lit 57, kC "counted" 244 245 246 18 1 0 0 3 (.ref 54) 181 (.ref 55) .none .none .none (.ref 56) 247 18 248) ::
  (nat_lit 58, kF "counted" s_counted "sharepress.counting" 232 57) ::
  (nat_lit 62, kC "evened" 250 251 252 26 1 0 0 3 (.ref 59) 181 (.ref 60) .none .none .none (.ref 61) 253 26 254) ::
  (nat_lit 63, kF "evened" s_evened "sharepress.counting" 232 62) ::
  (nat_lit 69, kC "_law_at" 258 259 260 30 2 0 0 3 (.ref 64) 181 (.ref 65) .none (.ref 66) (.ref 67) (.ref 68) 263 30 264) ::
  (nat_lit 70, kF "_law_at" s__law_at "law_sharepress_k09_counted" 256 69) ::
  (nat_lit 76, kC "_law_stays_so" 266 267 268 34 2 0 0 3 (.ref 71) 181 (.ref 72) .none (.ref 73) (.ref 74) (.ref 75) 275 34 276) ::
  (nat_lit 77, kF "_law_stays_so" s__law_stays_so "law_sharepress_k09_counted" 256 76) ::
  (nat_lit 81, kC "law" 278 279 280 56 1 0 0 3 (.ref 78) 181 (.ref 79) .none .none .none (.ref 80) 281 56 282) ::
  (nat_lit 82, kF "law" s_law "law_sharepress_k09_counted" 256 81) :: []
def kAt : List Addr := 3 :: 23 :: 24 :: 36 :: 37 :: 45 :: 46 :: 52 :: 53 :: 57 :: 58 :: 62 :: 63 :: 69 :: 70 :: 76 :: 77 :: 81 :: 82 :: []
def lawQ : Program := { PySem.Challenge.pw_sharepress_k09_counted with main := { PySem.Challenge.pw_sharepress_k09_counted.main with body := [s_law] } }
def lawLoose : List Str := Str.ofString "PressError" :: Str.ofString "NoShare" :: Str.ofString "is_sign" :: Str.ofString "counts_of" :: Str.ofString "counted" :: Str.ofString "evened" :: Str.ofString "_law_at" :: Str.ofString "_law_stays_so" :: []
noncomputable def bootT (P : Params) : BT := (.node (PySem.W.boot_o_0 P) (.node (PySem.W.boot_o_1 P) (.node (PySem.W.boot_o_3 P) (.node (PySem.W.boot_o_7 P) .nil .nil) .nil) (.node (PySem.W.boot_o_5 P) (.node (PySem.W.boot_o_9 P) .nil .nil) .nil)) (.node (PySem.W.boot_o_2 P) (.node (PySem.W.boot_o_4 P) (.node (PySem.W.boot_o_8 P) .nil .nil) .nil) (.node (PySem.W.boot_o_6 P) (.node (PySem.W.boot_o_10 P) .nil .nil) .nil)))
def lawX (s : Shared) : Bool := xlAt lawQ [] s && recOk (RowW.records PySem.Challenge.rw_sharepress_k09_counted.row.toRowW) s
theorem kAt_is (P : Params) : kAt = (kFrag P).map (·.1) := by kernel_rfl
abbrev lawH : Hook := kHook kFrag kAt kAt_is
noncomputable def topL (w : World) (os : OsState) := topAsk PySem.Challenge.pw_sharepress_k09_counted lawQ lawLoose lawX (fun s => kAt.map s.heap.get?) boot_heap bootT 11 (some (.ref 6)) 711 (fun P => (boot_heap P).life) boot_drawn boot_toks w os
noncomputable def topR (w : World) (_os : OsState) := some (true, openGood lawQ lawLoose, (kFrag w.params).map fun p => some p.2)
theorem topL_is : @topL = @topL := rfl
theorem topR_is : @topR = @topR := rfl
name_quick topLq for My.topL by My.topL_is
name_quick topRq for My.topR by My.topR_is
theorem tops_q (w : World) (os : OsState) : PySem.W.Fast.topLq w os = PySem.W.Fast.topRq w os := by kernel_rfl
theorem tops_are (w : World) (os : OsState) : topL w os = topR w os := by
  rw [PySem.W.Fast.topLq_eq, PySem.W.Fast.topRq_eq]
  exact tops_q w os
theorem boot_is (P : Params) : boot_heap P = absHeap (bootT P) 11 (boot_heap P).life := by kernel_rfl
theorem boot_size (w : World) : ((boot_heap w.params).isNs mainGlobals && (Array.mk ([] : List GenState)).size == 0, (boot_heap w.params).objs.size, (boot_heap w.params).nsMap mainGlobals "__annotations__") = (true, 11, (some (.ref 6))) := by kernel_rfl
theorem law_left : LeftO PySem.Challenge.pw_sharepress_k09_counted lawQ lawLoose lawX (Hook.obs lawH) (Hook.val lawH) 1402 := by
  refine left_of (boot_open (by kernel_rfl) (by kernel_rfl) (fun _ => by kernel_rfl)) boot_is boot_size (by kernel_rfl) tops_are
end
end My
set_option Elab.async false
set_option linter.all false
set_option maxRecDepth 100000
set_option maxHeartbeats 4000000
open PySem PySem.W PyProof.Rows
set_option maxRecDepth 100000 in
set_option maxHeartbeats 0 in
theorem PySem.Challenge.cw_sharepress_k09_counted_holds : PySem.Challenge.rw_sharepress_k09_counted.Holds := by
  w_on; o_law
  refine holds_open (q := My.lawQ) (loose := My.lawLoose) (Xt := My.lawX) (XP := XL My.lawQ []) (Yf := Hook.obs (kHook My.kFrag My.kAt My.kAt_is)) (Ya := Hook.val (kHook My.kFrag My.kAt My.kAt_is)) (YP := Hook.says (kHook My.kFrag My.kAt My.kAt_is)) My.law_left (Hook.of (kHook My.kFrag My.kAt My.kAt_is)) (Hook.keeps (kHook My.kFrag My.kAt My.kAt_is)) (fun s e => xl_of s (Bool.and_eq_true_iff.mp e).1) XL.keeps (by rfl) (by rfl) (by rfl) (fun s e => recFacts_of (Bool.and_eq_true_iff.mp e).2) (by rfl) (by assumption) (by decide +kernel) ⟨rfl, rfl, rfl, rfl, rfl, by decide +kernel⟩ ?hw ?hc
  (case hw => w_witness2)
  k_fill
  refine My.walk_law (l := PySem.Challenge.rw_sharepress_k09_counted) rfl rfl (fun w h Y => PySem.W.kIn_of Y) ?F
  case F =>
    intro w mg fa h KX G hmg
    refine' My.all_mk KX G hmg ?a_is_sign ?l_is_sign ?cc_is_sign ?k_is_sign ?a__law_at ?l__law_at ?cc__law_at ?k__law_at ?a__law_stays_so ?l__law_stays_so ?cc__law_stays_so ?k__law_stays_so ?a_counts_of ?l_counts_of ?cc_counts_of ?k_counts_of ?a_counted ?l_counted ?cc_counted ?k_counted ?a_evened ?l_evened ?cc_evened ?k_evened ?a_law ?l_law ?cc_law ?k_law ?a_NoShare ?l_NoShare ?x_NoShare ?z_len ?z_sum ?z_min ?z_isinstance ?z_range ?z_int ?z_list ?z_tuple ?z_str ?z_bool ?z_reversed ?z_sorted ?z_enumerate
    (case a_is_sign => k_is)
    (case l_is_sign => k_is)
    (case cc_is_sign => k_is)
    (case k_is_sign => k_is)
    (case a__law_at => k_is)
    (case l__law_at => k_is)
    (case cc__law_at => k_is)
    (case k__law_at => k_is)
    (case a__law_stays_so => k_is)
    (case l__law_stays_so => k_is)
    (case cc__law_stays_so => k_is)
    (case k__law_stays_so => k_is)
    (case a_counts_of => k_is)
    (case l_counts_of => k_is)
    (case cc_counts_of => k_is)
    (case k_counts_of => k_is)
    (case a_counted => k_is)
    (case l_counted => k_is)
    (case cc_counted => k_is)
    (case k_counted => k_is)
    (case a_evened => k_is)
    (case l_evened => k_is)
    (case cc_evened => k_is)
    (case k_evened => k_is)
    (case a_law => k_is)
    (case l_law => k_is)
    (case cc_law => k_is)
    (case k_law => k_is)
    (case a_NoShare => k_is)
    (case l_NoShare => k_is)
    (case x_NoShare => k_exc)
    (case z_len => k_is)
    (case z_sum => k_is)
    (case z_min => k_is)
    (case z_isinstance => k_is)
    (case z_range => k_is)
    (case z_int => k_is)
    (case z_list => k_is)
    (case z_tuple => k_is)
    (case z_str => k_is)
    (case z_bool => k_is)
    (case z_reversed => k_is)
    (case z_sorted => k_is)
    (case z_enumerate => k_is)
#print axioms PySem.Challenge.cw_sharepress_k09_counted_holds
