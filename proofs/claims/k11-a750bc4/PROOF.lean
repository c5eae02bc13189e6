import PyProof.Rows.All
import Wide.All
import OpenK.AllK
import Wide.FinOn
import Lean
import PyProof.EqAt
import PyProof.EqKinds
import PyProof.TupleCall
import PyProof.NeKinds
import PySem.Challenge.RW_sharepress_k11_eights_refused
set_option Elab.async false
set_option linter.all false
set_option maxRecDepth 100000
namespace L2
open PySem PySem.Spec PyProof.Rows
def Links (h : Heap) (C : List Addr) : Prop :=
  C.Nodup ∧ ∀ (i : Nat) (a : Addr), C[i]? = some a → ∃ o K vs, h.get? a = some o ∧ o.cls = .ref K ∧ o.data = .fields vs ∧ vs[2]? = some ((C[i + 1]?).elim .none .ref)
theorem Links.keeps {h h' : Heap} {C : List Addr} (x : Links h C) (k : ∀ a ∈ C, ∀ o, h.get? a = some o → h'.get? a = some o) : Links h' C :=
  ⟨x.1, fun i a e => let ⟨o, K, vs, h1, h2, h3, h4⟩ := x.2 i a e; ⟨o, K, vs, k a (List.mem_of_getElem? e) o h1, h2, h3, h4⟩⟩
def Hd (A : Around) (h : Heap) : Prop := A.handled = none ∨ ∃ e C, A.handled = some (.ref e) ∧ Links h (e :: C)
theorem Hd.in1 {A : Around} {h : Heap} (x : Hd A h) : Hd A.in1 h := x
theorem Hd.keeps {A : Around} {h h' : Heap} (x : Hd A h) (k : ∀ a o K, o.cls = .ref K → h.get? a = some o → h'.get? a = some o) : Hd A h' := by
  rcases x with x | ⟨e, C, x, l⟩
  · exact .inl x
  · refine .inr ⟨e, C, x, l.1, fun i a q => ?_⟩
    obtain ⟨o, K, vs, h1, h2, h3, h4⟩ := l.2 i a q
    exact ⟨o, K, vs, k a o K h2 h1, h2, h3, h4⟩
section
variable {prog : Program} {w : World} {A : Around} {E : Value → Shared → Prop} {s : Shared}
theorem entry_unchain : entryFor table "proto.unchain" = some Builtin.«proto.unchain» := entryFor_of_fast (by kernel_rfl)
theorem unchain_ok {v : Addr} {C : List Addr} (L : Links s.heap C) (hv : v ∉ C) {R : Result → Shared → Prop} (hR : R (.ok (.ret .none)) s) :
    ∀ (n i j : Nat) (a b : Addr) (tg : Bool), C.length - i = n → C[i]? = some a → C[j]? = some b → j ≤ i →
      codeAny (model prog w) A (.builtin "proto.unchain" ⟨[.ref v, .ref a, .ref b, .bool tg], []⟩) R s := by
  intro n
  induction n with
  | zero =>
    intro i j a b tg hn ha hb hj
    have := (List.getElem?_eq_some_iff.mp ha).1
    omega
  | succ n ih =>
    intro i j a b tg hn ha hb hj
    refine codeAny_builtin entry_unchain ?_
    obtain ⟨o, K, vs, h1, h2, h3, h4⟩ := L.2 i a ha
    (show wpAny _ _ (field (.ref a) 2 >>= _) _ _ s); refine wpAny_bind (wpAny_field h1 h3 h4 ?_)
    cases e : C[i + 1]? with
    | none =>
      (show wpAny _ _ (if (Value.none == Value.none) = true then _ else _) _ _ s); rw [if_pos (show (Value.none == Value.none) = true from rfl)]
      exact wpAny_pure hR
    | some c =>
      have cv : c ≠ v := fun z => hv (z ▸ List.mem_of_getElem? e)
      have cb : c ≠ b := fun z => by
        subst z
        have l1 := (List.getElem?_eq_some_iff.mp e).1
        have l2 := (List.getElem?_eq_some_iff.mp hb).1
        have := (List.getElem?_inj l1 L.1).mp (e.trans hb.symm)
        omega
      have ne (x y : Addr) (h : x ≠ y) : ¬ ((Value.ref x == Value.ref y) = true) := fun z => h (by injection (eq_of_beq z))
      (show wpAny _ _ (if (Value.ref c == Value.none) = true then _ else if (Value.ref c == Value.ref v) = true then _ else if (Value.ref c == Value.ref b) = true then _ else _) _ _ s); rw [if_neg (show ¬ ((Value.ref c == Value.none) = true) from Bool.false_ne_true), if_neg (ne _ _ cv), if_neg (ne _ _ cb)]
      cases tg with
      | false =>
        exact wpAny_bind (wpAny_pure (wpAny_pure ⟨Code.quiet_builtin _ (by decide +kernel), ih (i + 1) j c b true (by omega) e hb (by omega)⟩))
      | true =>
        obtain ⟨ob, Kb, ws, g1, g2, g3, g4⟩ := L.2 j b hb
        have hj1 : ∃ d, C[j + 1]? = some d := by
          by_cases q : j = i
          · subst q; exact ⟨c, e⟩
          · have := (List.getElem?_eq_some_iff.mp ha).1
            exact ⟨_, List.getElem?_eq_getElem (show j + 1 < C.length by omega)⟩
        obtain ⟨d, hd⟩ := hj1
        rw [hd] at g4
        refine wpAny_bind (wpAny_field g1 g3 g4 (wpAny_pure ⟨Code.quiet_builtin _ (by decide +kernel), ih (i + 1) (j + 1) c d false (by omega) e hd (by omega)⟩))
theorem raiseNew_any {α : Type} {e : Addr} {o : Obj} {vs : Array Value} {Q : α → Shared → Prop} (hd : Hd A s.heap) (he : s.heap.get? e = some o) (hv : o.data = .fields vs) (hn : 2 < vs.size) (hf : ∀ e0 C, A.handled = some (.ref e0) → Links s.heap (e0 :: C) → e ∉ e0 :: C)
    (h0 : A.handled = none → E (.ref e) s) (h1 : ∀ x, E (.ref e) { s with heap := s.heap.update e (Obj.mapFields (·.setIfInBounds 2 x)) }) : wpAny (model prog w) A (raiseNew (.ref e) : Sem α) Q E s := by
  unfold raiseNew
  refine wpAny_bind (wpAny_handled ?_)
  rcases hd with hh | ⟨e0, C, hh, L⟩
  · rw [hh]
    exact wpAny_bind (wpAny_pure (wpAny_throw (h0 hh)))
  · rw [hh]
    have hm := hf e0 C hh L
    have hne : e0 ≠ e := fun z => hm (z ▸ List.mem_cons_self)
    (show wpAny _ _ (if (Value.ref e0 != Value.ref e) = true then _ else _) _ _ s); rw [if_pos (show (Value.ref e0 != Value.ref e) = true from by rw [bne_iff_ne]; exact fun z => hne (by injection z))]
    refine wpAny_bind (wpAny_holding (wpAny_runValue (unchain_ok L hm ?_ (e0 :: C).length 0 0 e0 e0 false rfl rfl rfl (Nat.le_refl _))))
    show wpAny _ _ (updateField e 2 (.ref e0) >>= _) _ _ s
    exact wpAny_bind (wpAny_setField he hv hn (wpAny_throw (h1 _)))
theorem Links.not_type {h : Heap} {C : List Addr} {e : Addr} {o : Obj} {T : String} (L : Links h C) (he : h.get? e = some o) (hc : o.cls = .type T) : e ∉ C := fun z => by
  obtain ⟨i, hi⟩ := List.getElem?_of_mem z
  obtain ⟨o', K, vs, h1, h2, _⟩ := L.2 i e hi
  rw [he] at h1
  cases h1
  rw [hc] at h2
  cases h2
theorem Hd.push {h : Heap} (x : Hd A h) (o : Obj) : Hd A (h.push o) := x.keeps fun _ _ _ _ e => Heap.get?_push_of_some _ e
theorem stop_raised {α : Type} {Q : α → Shared → Prop} (hd : Hd A s.heap) (h : ∀ h' e, (∀ b o, s.heap.get? b = some o → h'.get? b = some o) → (∃ o, h'.get? e = some o ∧ o.cls = .type "StopIteration") → E (.ref e) { s with heap := h' }) :
    wpAny (model prog w) A (newExc (.type "StopIteration") [] >>= fun e => (raiseNew e : Sem α)) Q E s := by
  refine wpAny_bind ?_
  simp only [newExc, newTuple]
  refine wpAny_bind (wpAny_newObj_type ?_ (by size_fits))
  refine wpAny_bind (m := firstArgMember _ _) (wpAny_of_eq (a := Value.none) (by first | rfl | (simp only [firstArgMember]; rfl)) (wpAny_newObj_type ?_ (by size_fits)))
  have fr : ∀ b o, s.heap.get? b = some o → b < s.heap.objs.size := fun b o q => Heap.lt_size q
  refine raiseNew_any ((hd.push _).push _) (Heap.get?_push_size _ rfl) rfl (by simp; omega) (fun e0 C _ L => L.not_type (Heap.get?_push_size _ rfl) rfl) (fun _ => h _ _ (fun b o q => Heap.get?_push_of_some _ (Heap.get?_push_of_some _ q)) ⟨_, Heap.get?_push_size _ rfl, rfl⟩) fun x => h _ _ (fun b o q => ?_) ⟨_, Heap.get?_update_self _ (Heap.get?_push_size _ rfl) rfl, rfl⟩
  rw [Heap.get?_update_other _ _ (by rw [Heap.size_push]; exact Nat.ne_of_gt (Nat.lt_succ_of_lt (fr b o q)))]
  exact Heap.get?_push_of_some _ (Heap.get?_push_of_some _ q)
theorem next_list_end {it l : Addr} {i : Nat} {items : Array Value} {Q : Option Value → Shared → Prop} (hd : Hd A s.heap) (hi : s.heap.IsListIter it l i) (hl : s.heap.IsList l items) (hx : items[i]? = none)
    (hQ : ∀ g, Heap.ExtBut it s.heap g → Q none { s with heap := g }) : wpAny (model prog w) A (pyNext (.ref it)) Q E s := by
  obtain ⟨oi, gi, ci, di⟩ := id hi
  obtain ⟨ol, gl, _, nl, dl⟩ := hl
  unfold pyNext
  refine wpAny_bind (wpAny_attempt (wpAny_callSpecial?_slot (name := Str.ofString "__next__") hi.typeIs slot_listiter_next (wpAny_call_entry slot_listiter_next hi.typeIs entry_listiter_next ?_ (args_listiter_next _))))
  (show wpAny _ _ (field (.ref it) 0 >>= _) _ _ s); refine wpAny_bind (wpAny_field gi di (x := .ref l) rfl ?_)
  (show wpAny _ _ (if (Value.ref l == Value.none) = true then _ else _) _ _ s); rw [if_neg (fun z => Bool.false_ne_true (show (Value.ref l == Value.none) = true from z))]
  (show wpAny _ _ (field (.ref it) 1 >>= _) _ _ s); refine wpAny_bind (wpAny_field gi di (x := .int i 0) rfl ?_)
  (show wpAny _ _ (seqItems? (.ref l) >>= _) _ _ s); refine wpAny_bind (wpAny_seqItems gl dl ?_)
  simp only [hx, Int.toNat_natCast]
  refine wpAny_bind (wpAny_rule (wpAny_bind (wpAny_setField gi di (by simp) ?_)))
  have H1 : Hd A.in1 (s.heap.update it (Obj.mapFields (·.setIfInBounds 0 .none))) := hd.in1.keeps fun a o K hc e => by
    rw [Heap.get?_update_other _ _ (fun z => by subst z; rw [gi] at e; cases e; rw [ci] at hc; cases hc)]
    exact e
  refine stop_raised (s := { s with heap := _ }) H1 fun h' e k he => ?_
  refine wpAny_bind (wpAny_isInstance (T := "StopIteration") (b := true) he isSubtype_stop (wpAny_pure (hQ _ fun b o hb q => k b o ?_)))
  rw [Heap.get?_update_other _ _ (Ne.symm hb)]
  exact q
theorem next_range_end {it : Addr} {x left st : Int} {Q : Option Value → Shared → Prop} (hd : Hd A s.heap) (hi : IsRangeIter s.heap it x left st) (hz : left ≤ 0) (hQ : ∀ h', Heap.ExtBut it s.heap h' → Q none { s with heap := h' }) : wpAny (model prog w) A (pyNext (.ref it)) Q E s := by
  have ty : s.TypeIs (.ref it) "range_iterator" := ⟨_, hi, rfl⟩
  unfold pyNext
  refine wpAny_bind (wpAny_attempt (wpAny_callSpecial?_slot (name := Str.ofString "__next__") ty F.slot_range_iterator_next (wpAny_call_entry F.slot_range_iterator_next ty F.entry_range_iterator_next ?_ (F.args_range_iterator_next_1 _))))
  (show wpAny _ _ (field (.ref it) 0 >>= _) _ _ s); refine wpAny_bind (wpAny_field hi rfl (x := rawInt x) rfl ?_)
  (show wpAny _ _ (field (.ref it) 1 >>= _) _ _ s); refine wpAny_bind (wpAny_field hi rfl (x := rawInt left) rfl ?_)
  (show wpAny _ _ (field (.ref it) 2 >>= _) _ _ s); refine wpAny_bind (wpAny_field hi rfl (x := rawInt st) rfl ?_)
  (show wpAny _ _ (if left ≤ 0 then _ else _) _ _ s); rw [if_pos hz]
  refine wpAny_bind (wpAny_rule (wpAny_bind (stop_raised hd.in1 fun h' e k he => ?_)))
  exact wpAny_bind (wpAny_isInstance (T := "StopIteration") (b := true) he isSubtype_stop (wpAny_pure (hQ _ fun b o _ q => k b o q)))
theorem next_tupB_end {it l : Addr} {i : Nat} {items : Array Value} {Q : Option Value → Shared → Prop} (hd : Hd A s.heap) (hi : IsTupIter s.heap it l i) (hl : IsTup s.heap l items) (hx : items[i]? = none)
    (hQ : ∀ g, Heap.ExtBut it s.heap g → Q none { s with heap := g }) : wpAny (model prog w) A (pyNext (.ref it)) Q E s := by
  obtain ⟨oi, gi, ci, di⟩ := id hi
  obtain ⟨ol, gl, _, nl, dl⟩ := hl
  unfold pyNext
  refine wpAny_bind (wpAny_attempt (wpAny_callSpecial?_slot (name := Str.ofString "__next__") hi.typeIs slot_tupleiter_next (wpAny_call_entry slot_tupleiter_next hi.typeIs entry_tupleiter_next ?_ (args_tupleiter_next _))))
  (show wpAny _ _ (field (.ref it) 0 >>= _) _ _ s); refine wpAny_bind (wpAny_field gi di (x := .ref l) rfl ?_)
  (show wpAny _ _ (if (Value.ref l == Value.none) = true then _ else _) _ _ s); rw [if_neg (fun z => Bool.false_ne_true (show (Value.ref l == Value.none) = true from z))]
  (show wpAny _ _ (field (.ref it) 1 >>= _) _ _ s); refine wpAny_bind (wpAny_field gi di (x := .int i 0) rfl ?_)
  (show wpAny _ _ (seqItems? (.ref l) >>= _) _ _ s); refine wpAny_bind (wpAny_seqItems gl dl ?_)
  simp only [hx, Int.toNat_natCast]
  refine wpAny_bind (wpAny_rule (wpAny_bind (wpAny_setField gi di (by simp) ?_)))
  have H1 : Hd A.in1 (s.heap.update it (Obj.mapFields (·.setIfInBounds 0 .none))) := hd.in1.keeps fun a o K hc e => by
    rw [Heap.get?_update_other _ _ (fun z => by subst z; rw [gi] at e; cases e; rw [ci] at hc; cases hc)]
    exact e
  refine stop_raised (s := { s with heap := _ }) H1 fun h' e k he => ?_
  refine wpAny_bind (wpAny_isInstance (T := "StopIteration") (b := true) he isSubtype_stop (wpAny_pure (hQ _ fun b o hb q => k b o ?_)))
  rw [Heap.get?_update_other _ _ (Ne.symm hb)]
  exact q
theorem unpack_any {t : Addr} {items : Array Value} {Q : List Value → Shared → Prop} (hd : Hd A s.heap) (ht : IsTup s.heap t items) (hQ : ∀ h', Heap.ExtBut s.heap.objs.size s.heap h' → Q items.toList { s with heap := h' }) :
    wpAny (model prog w) A (unpackItems (.ref t) items.size none) Q E s := by
  have nt : t ≠ s.heap.objs.size := by obtain ⟨o, ho, _⟩ := ht; exact Nat.ne_of_lt (Heap.lt_size ho)
  unfold unpackItems
  refine wpAny_bind ?_
  unfold notIterableAtAll
  refine wpAny_bind (wpAny_specialOf ht.typeIs slot_tuple_iter.lookup (wpAny_pure ?_))
  rw [if_neg (by simp)]
  refine wpAny_bind (wpAny_holding (iter_tuple ht (wpAny_bind (wpAny_holding (draw_tuple nt items.size 0 _ _ ⟨_, Heap.get?_push_size _ rfl, rfl, rfl⟩ (ht.push _) (by omega) fun h1 i1 s1 => ?_)))))
  rw [show List.take items.size (List.drop 0 items.toList) = items.toList from by rw [List.drop_zero]; exact List.take_of_length_le (by simp), if_neg (by simp)]
  have k1 : ∀ b o, s.heap.get? b = some o → h1.get? b = some o := fun b o q => s1.extBut b o (Nat.ne_of_lt (Heap.lt_size q)) (Heap.get?_push_of_some _ q)
  refine wpAny_bind (wpAny_holding (next_tupB_end (hd.keeps fun a o _ _ q => k1 a o q) i1 ((ht.push _).extBut s1.extBut nt) (by simp) fun h2 e2 => ?_))
  rw [if_neg (by simp)]
  exact wpAny_pure (hQ h2 fun b o hb q => e2 b o hb (s1.extBut b o hb (Heap.get?_push_of_some _ q)))
theorem assign_any {env : Env} {elts : List Expr} {x1} {pos : Pos} {t : Addr} {items : Array Value} {Q : Unit → Shared → Prop} (hd : Hd A s.heap) (ht : IsTup s.heap t items) (hn : (assignEach elts env).length = items.size) (hs : (assignEach elts env).findIdx? (·.1) = none)
    (h : ∀ h', Heap.ExtBut s.heap.objs.size s.heap h' → wpAny (model prog w) A (assignInOrder ((assignEach elts env).map (·.2)) items.toList) Q E { s with heap := h' }) : wpAny (model prog w) A (assign (.Tuple elts x1 pos) env (.ref t)) Q E s := by
  rw [assign_Tuple]
  refine wpAny_bind (wpAny_standAt ?_)
  unfold unpack
  rw [hn, hs]
  exact wpAny_bind (wpAny_holding (unpack_any hd ht h))
theorem next_range_item {I : Addr} {a c : Int} {n : Nat} (i : Nat) (s : Shared) (Q : Option Value → Shared → Prop) (E : Value → Shared → Prop) (hi : i < n) (st : IsRangeIter s.heap I (a + (i : Nat) * c) ((n : Int) - (i : Nat)) c)
    (hQ : ∀ v h' tk, (∃ t, v = .int (a + i * c) t) → IsRangeIter h' I (a + ((i + 1 : Nat) : Nat) * c) ((n : Int) - ((i + 1 : Nat) : Nat)) c → (∀ b o, b ∉ [I] → s.heap.get? b = some o → h'.get? b = some o) → Q (some v) { s with heap := h', toks := tk }) :
    wpAny (model prog w) A (pyNext (.ref I)) Q E s := by
  refine wpAny_pyNext_range_item st (by omega) fun h' j1 j2 => hQ _ h' _ ⟨_, rfl⟩ ?_ fun b o hb e => j2.extBut b o (fun z => hb (by simp [z])) e
  rw [show a + ((i + 1 : Nat) : Int) * c = a + (i : Int) * c + c from by push_cast; rw [Int.add_mul, Int.one_mul, Int.add_assoc], show (n : Int) - ((i + 1 : Nat) : Int) = (n : Int) - (i : Int) - 1 from by push_cast; omega]
  exact j1
end
end L2
set_option Elab.async false
set_option linter.all false
set_option maxRecDepth 100000
namespace L2
open PySem PySem.Spec PyProof.Rows
def TrC (h base : Heap) (e : Addr) (cls a0 c fl : Value) : Prop :=
  ∃ (oe : Obj) (vs : Array Value) (T : Addr) (oT : Obj) (ts : Array Value), (h.get? e = some oe ∧ oe.cls = cls ∧ oe.data = .fields vs) ∧ (vs[0]? = some a0 ∧ vs[1]? = some (.ref T) ∧ vs[2]? = some c) ∧ (base.get? T = none ∧ T ≠ e) ∧ h.get? T = some oT ∧ oT.data = .fields ts ∧ ts[3]? = some fl
def FlC (base : Heap) (l : List Env) (e : Addr) (cls a0 c fl : Value) (h : Heap) : Prop := base.StaysIn h ∧ base.get? e = none ∧ h.FunFrames base l ∧ TrC h base e cls a0 c fl
abbrev FlyC (base : Heap) (l : List Env) (e : Addr) (cls a0 c : Value) (h : Heap) : Prop := FlC base l e cls a0 c .none h
theorem FlC.obj {base h : Heap} {l : List Env} {e : Addr} {cls a0 c fl : Value} (x : FlC base l e cls a0 c fl h) : ∃ oe vs, h.get? e = some oe ∧ oe.cls = cls ∧ oe.data = .fields vs ∧ vs[2]? = some c := by
  obtain ⟨_, _, _, oe, vs, _, _, _, ⟨p1, p2, p3⟩, ⟨_, _, q⟩, _⟩ := x
  exact ⟨oe, vs, p1, p2, p3, q⟩
section
variable {M : Model} {A : Around} {E : Value → Shared → Prop} {s : Shared} {base : Heap} {env : Env} {outer : List Env} {L e : Addr} {cls a0 c : Value} {Q : Unit → Shared → Prop}
theorem station {oe : Obj} {vs : Array Value} {hd : Value} {b : Bool} (fr : A.frames = some (env :: outer)) (fl : s.heap.FunFrames base (env :: outer)) (ef : env.frame = some L) (ge : s.heap.get? e = some oe) (st : base.StaysIn s.heap) (ne : base.get? e = none)
    (de : oe.data = .fields vs) (v0 : vs[0]? = some a0) (v2 : vs[2]? = some c) (k : ∀ h', FlC base (env :: outer) e oe.cls a0 c (rawInt L) h' → s.heap.UpToSlots h' → Q () { s with heap := h' }) :
    wpAny M A (do let a ← frameOf env; let pl ← entryPlaceOf L b; let x ← EntryCells.newEntry hd a .none (rawInt L) .none pl; setField (.ref e) 1 x) Q E s := by
  have sz : 1 < vs.size := by have := (Array.getElem?_eq_some_iff.mp v2).1; omega
  have nf : e ∉ (env :: outer).filterMap (·.frame) := fun z => by
    obtain ⟨_, o, g, d⟩ := fl.mem z
    rw [ge] at g
    cases g
    exact d vs de
  refine wpAny_bind (wpAny_frameOf_fun fr fl ef fun h1 w1 => wpAny_bind (wpAny_entryPlaceOf fun pl wp => ?_))
  unfold EntryCells.newEntry; unfold newFields
  refine wpAny_bind (wpAny_newObj_type ?_ (wp.sizeOk5 _ _ _ _ _))
  generalize ht : ([hd, .ref L, .none, rawInt L, .none] ++ (if pl.isEmpty then List.replicate 6 Value.none else pl)).toArray = tv
  have t3 : tv[3]? = some (rawInt L) := by rw [← ht]; simp
  have g1 : h1.get? e = some oe := (w1.2.1 e nf).trans ge
  have s1 : base.StaysIn h1 := fun x o q => (w1.2.1 x fun z => by rw [(fl.mem z).1] at q; cases q).trans (st x o q)
  have g2 := Heap.get?_push_of_some (h := h1) { cls := .type "traceback", dict := none, data := .fields tv } g1
  refine wpAny_setField g2 de sz (k _ ?_ ?_)
  all_goals
    have nT : h1.objs.size ≠ e := Nat.ne_of_gt (Heap.lt_size g1)
    have d3 := Obj.data_mapFields de (·.setIfInBounds 1 (Value.ref h1.objs.size))
    have keep : ∀ x o, x ≠ e → h1.get? x = some o → ((h1.push { cls := .type "traceback", dict := none, data := .fields tv }).update e (Obj.mapFields (·.setIfInBounds 1 (Value.ref h1.objs.size)))).get? x = some o := fun x o n q => by
      rw [Heap.get?_update_other _ _ (Ne.symm n)]
      exact Heap.get?_push_of_some _ q
    have notE : ∀ x o, s.heap.get? x = some o → (∀ ws, o.data ≠ .fields ws) → x ≠ e := fun x o q d z => by
      rw [z, ge] at q
      cases q
      exact d vs de
  · refine ⟨fun x o q => keep x o (fun z => by rw [z, ne] at q; cases q) (s1 x o q), ne, fl.of_keeps fun x o q d => ?_, ?_⟩
    · obtain ⟨sl, w⟩ := w1.2.2 x o q
      exact ⟨_, keep x _ (notE x o q d) w, rfl⟩
    · refine ⟨_, _, h1.objs.size, _, tv, ⟨Heap.get?_update_self _ g2 (Obj.isFreed_of_fields d3), Obj.cls_mapFields _ _, d3⟩, ⟨?_, by simp [sz], ?_⟩, ⟨s1.fresh, nT⟩, (Heap.get?_update_other _ _ (Ne.symm nT)).trans (Heap.get?_push_size h1 rfl), rfl, t3⟩
      · rw [Array.getElem?_setIfInBounds_ne (by decide)]; exact v0
      · rw [Array.getElem?_setIfInBounds_ne (by decide)]; exact v2
  · intro x o q d
    obtain ⟨sl, w⟩ := w1.2.2 x o q
    exact ⟨sl, keep x _ (notE x o q d) w⟩
theorem flight0 {l : List Env} {fl : Value} (x : FlC base l e cls a0 c fl s.heap) (k : ∀ h', FlyC base l e cls a0 c h' → s.heap.UpToSlots h' → Q () { s with heap := h' }) : wpAny M A (setFlight (.ref e) none) Q E s := by
  obtain ⟨k1, k2, k3, oe, vs, T, oT, ts, ⟨p1, p2, p3⟩, ⟨q0, q1, q2⟩, ⟨r1, r2⟩, t1, t2, t3⟩ := x
  have sz : 3 < ts.size := (Array.getElem?_eq_some_iff.mp t3).1
  have ot : ∀ x, x ≠ T → (s.heap.update T (Obj.mapFields (·.setIfInBounds 3 ((none : Option Addr).elim Value.none fun f => rawInt f)))).get? x = s.heap.get? x := fun x n => Heap.get?_update_other _ _ (Ne.symm n)
  have nT : ∀ x o, s.heap.get? x = some o → (∀ ws, o.data ≠ .fields ws) → x ≠ T := fun x o q d z => by
    rw [z, t1] at q
    cases q
    exact d ts t2
  unfold setFlight
  refine wpAny_bind (wpAny_field p1 p3 q1 ?_)
  rw [if_pos (by simp)]
  refine wpAny_setField t1 t2 sz (k _ ⟨fun x o q => (ot x fun z => by rw [z, r1] at q; cases q).trans (k1 x o q), k2, k3.of_keeps fun x o q d => ⟨o, (ot x (nT x o q d)).trans q, rfl⟩, ?_⟩ fun x o q d => ⟨o.slots, (ot x (nT x o q d)).trans q⟩)
  exact ⟨oe, vs, T, _, _, ⟨(ot e (Ne.symm r2)).trans p1, p2, p3⟩, ⟨q0, q1, q2⟩, ⟨r1, r2⟩, Heap.get?_update_self _ t1 (Obj.isFreed_of_fields (Obj.data_mapFields t2 _)), Obj.data_mapFields t2 _, by simp [sz]⟩
theorem note_first {oe : Obj} {vs : Array Value} (fr : A.frames = some (env :: outer)) (fl : s.heap.FunFrames base (env :: outer)) (ef : env.frame = some L) (ge : s.heap.get? e = some oe) (st : base.StaysIn s.heap) (ne : base.get? e = none) (de : oe.data = .fields vs) (v0 : vs[0]? = some a0) (v1 : vs[1]? = some .none) (v2 : vs[2]? = some c)
    (k : ∀ h', FlC base (env :: outer) e oe.cls a0 c (rawInt L) h' → s.heap.UpToSlots h' → Q () { s with heap := h' }) : wpAny M A (noteFrame (.ref e) env) Q E s := by
  unfold noteFrame
  simp only [ef]
  refine wpAny_bind (wpAny_field ge de v1 ?_)
  rw [if_neg (by decide)]
  exact station fr fl ef ge st ne de v0 v2 k
theorem note_next (fr : A.frames = some (env :: outer)) (ef : env.frame = some L) (x : FlyC base (env :: outer) e cls a0 c s.heap) (k : ∀ h', FlC base (env :: outer) e cls a0 c (rawInt L) h' → s.heap.UpToSlots h' → Q () { s with heap := h' }) : wpAny M A (noteFrame (.ref e) env) Q E s := by
  obtain ⟨k1, k2, k3, oe, vs, T, oT, ts, ⟨p1, p2, p3⟩, ⟨q0, q1, q2⟩, ⟨r1, r2⟩, t1, t2, t3⟩ := x
  have ot : ∀ x, x ≠ T → (s.heap.update T (Obj.mapFields (·.setIfInBounds 3 Value.none))).get? x = s.heap.get? x := fun x n => Heap.get?_update_other _ _ (Ne.symm n)
  have nT : ∀ x o, s.heap.get? x = some o → (∀ ws, o.data ≠ .fields ws) → x ≠ T := fun x o q d z => by
    rw [z, t1] at q
    cases q
    exact d ts t2
  unfold noteFrame
  simp only [ef]
  refine wpAny_bind (wpAny_field p1 p3 q1 ?_)
  rw [if_pos (show (Value.ref T != Value.none) = true from rfl)]
  refine wpAny_bind (wpAny_field t1 t2 t3 ?_)
  rw [if_neg (by simp [rawInt])]
  refine wpAny_bind (wpAny_setField t1 t2 (Array.getElem?_eq_some_iff.mp t3).1 ?_)
  refine station (s := { s with heap := _ }) fr (k3.of_keeps fun x o q d => ⟨o, (ot x (nT x o q d)).trans q, rfl⟩) ef ((ot e (Ne.symm r2)).trans p1) (fun x o q => (ot x fun z => by rw [z, r1] at q; cases q).trans (k1 x o q)) k2 p3 q0 q2 fun h' y up => k h' (p2 ▸ y) fun x o q d => up x o ((ot x (nT x o q d)).trans q) d
theorem FlC.out {h : Heap} {fl : Value} (x : FlC base (env :: outer) e cls a0 c fl h) : FlC base outer e cls a0 c fl h := ⟨x.1, x.2.1, let ⟨_, _, z⟩ := x.2.2.1; z, x.2.2.2⟩
theorem leave_first {oe : Obj} {vs : Array Value} (fr : A.frames = some (env :: outer)) (fl : s.heap.FunFrames base (env :: outer)) (ef : env.frame = some L) (ge : s.heap.get? e = some oe) (st : base.StaysIn s.heap) (ne : base.get? e = none) (de : oe.data = .fields vs) (v0 : vs[0]? = some a0) (v1 : vs[1]? = some .none) (v2 : vs[2]? = some c)
    (k : ∀ h', FlyC base outer e oe.cls a0 c h' → s.heap.UpToSlots h' → Q () { s with heap := h' }) : wpAny M A (leaving env (.ref e)) Q E s := by
  unfold leaving
  exact wpAny_bind (note_first fr fl ef ge st ne de v0 v1 v2 fun h1 x1 u1 => flight0 (s := { s with heap := h1 }) x1 fun h2 x2 u2 => k h2 x2.out (u1.trans u2))
theorem leave_next (fr : A.frames = some (env :: outer)) (ef : env.frame = some L) (x : FlyC base (env :: outer) e cls a0 c s.heap) (k : ∀ h', FlyC base outer e cls a0 c h' → s.heap.UpToSlots h' → Q () { s with heap := h' }) : wpAny M A (leaving env (.ref e)) Q E s := by
  unfold leaving
  exact wpAny_bind (note_next fr ef x fun h1 x1 u1 => flight0 (s := { s with heap := h1 }) x1 fun h2 x2 u2 => k h2 x2.out (u1.trans u2))
end
def hv (A : Around) : Value := A.handled.getD .none
structure MadeC (h h' : Heap) (e : Addr) (cls : Value) (args : List Value) (c : Value) : Prop where
  keeps : ∀ (x : Addr) (o : Obj), h.get? x = some o → h'.get? x = some o
  new : h.get? e = none
  there : ∃ t, h'.get? e = some { cls := cls, data := .fields #[.ref t, .none, c, .none, .bool false, .none] } ∧ h.get? t = none
section
variable {M : Model} {A : Around} {E : Value → Shared → Prop} {s : Shared} {base : Heap} {env : Env} {outer : List Env} {L e : Addr} {cls a0 c : Value} {Q : Unit → Shared → Prop}
theorem leave_made {h : Heap} {args : List Value} (fr : A.frames = some (env :: outer)) (ef : env.frame = some L) (kb : base.StaysIn h) (fl : h.FunFrames base (env :: outer)) (hx : MadeC h s.heap e cls args c)
    (k : ∀ h' t, FlyC base outer e cls (.ref t) c h' → s.heap.UpToSlots h' → Q () { s with heap := h' }) : wpAny M A (leaving env (.ref e)) Q E s := by
  obtain ⟨t, ge, _⟩ := hx.there
  have ne : base.get? e = none := by
    cases q : base.get? e with
    | none => rfl
    | some o => have z := kb e o q; rw [hx.new] at z; cases z
  exact leave_first fr (fl.of_keeps fun b o q _ => ⟨o, hx.keeps b o q, rfl⟩) ef ge (fun b o q => hx.keeps b o (kb b o q)) ne rfl rfl rfl rfl fun h' x up => k h' t x up
end
section
variable {prog : Program} {w : World} {A : Around} {env : Env} {E : Value → Shared → Prop} {s : Shared}
theorem raiseNew_hv {α : Type} {e : Addr} {o : Obj} {vs : Array Value} {Q : α → Shared → Prop} (hd : A.handled = none ∨ ∃ e0 C, A.handled = some (.ref e0) ∧ Links s.heap (e0 :: C) ∧ e ∉ e0 :: C) (he : s.heap.get? e = some o) (hvs : o.data = .fields vs) (hn : 2 < vs.size)
    (h0 : A.handled = none → E (.ref e) s) (h1 : E (.ref e) { s with heap := s.heap.update e (Obj.mapFields (·.setIfInBounds 2 (hv A))) }) : wpAny (model prog w) A (raiseNew (.ref e) : Sem α) Q E s := by
  unfold raiseNew
  refine wpAny_bind (wpAny_handled ?_)
  unfold hv at h1
  rcases hd with hh | ⟨e0, C, hh, L, hm⟩
  · rw [hh]
    exact wpAny_bind (wpAny_pure (wpAny_throw (h0 hh)))
  · rw [hh] at h1 ⊢
    have hne : e0 ≠ e := fun z => hm (z ▸ List.mem_cons_self)
    (show wpAny _ _ (if (Value.ref e0 != Value.ref e) = true then _ else _) _ _ s); rw [if_pos (show (Value.ref e0 != Value.ref e) = true from by rw [bne_iff_ne]; exact fun z => hne (by injection z))]
    refine wpAny_bind (wpAny_holding (wpAny_runValue (unchain_ok L hm ?_ (e0 :: C).length 0 0 e0 e0 false rfl rfl rfl (Nat.le_refl _))))
    (show wpAny _ _ (updateField e 2 (.ref e0) >>= _) _ _ s); exact wpAny_bind (wpAny_setField he hvs hn (wpAny_throw h1))
variable {C N : Addr} {nm q : Str} {bs bm bmB : List Value} {hdct : Bool} {sn : List Str} {sub : List Value} {ab : Bool} {col : Option Bool} {dd : Option Addr} {k0 k1 k2 k3 k5 : Option Value} {B newId initId : String}
theorem raised {x : Sem Value} {Q : Flow → Shared → Prop} (hb : bm.contains (.type "BaseException") = true)
    (h : wpAny (model prog w) A x (fun v s1 => ∃ (hp : Heap) (e : Addr) (us : List Value), v = .ref e ∧ hp.get? C = some (excClassObj nm q C N bs bm hdct sn sub ab col dd k0 k1 k2 k3 k5 newId) ∧ Hd A hp ∧ Heap.MadeExcOf hp s1.heap e (.ref C) us ∧ (∀ h', MadeC hp h' e (.ref C) us (hv A) → E (.ref e) { s1 with heap := h' })) E s) :
    wpAny (model prog w) A (raiseStmt env (some x) none) Q E s := by
  have hB : (Value.ref C :: bm).contains (.type "BaseException") = true := by rw [List.contains_cons, hb, Bool.or_true]
  unfold raiseStmt
  refine wpAny_bind (wpAny_mono h (fun v s1 h1 => ?_) fun _ _ z => z)
  obtain ⟨hp, e, us, rfl, gC0, hd, mk, kE⟩ := h1
  obtain ⟨h2, g, d, tk, os⟩ := s1
  obtain ⟨t, ge, tn, gt⟩ := mk.there
  have gC : h2.get? C = some (excClassObj nm q C N bs bm hdct sn sub ab col dd k0 k1 k2 k3 k5 newId) := mk.keeps _ _ gC0
  dsimp only at ge mk gt
  repeat (first | with_reducible refine wpAny_loadPart_at ge ?_ | with_reducible refine wpAny_loadPart_at gC ?_ | (with_reducible refine wpAny_isSubtype_exc gC ?_; rw [hB]) | wp_step)
  have hd2 : A.handled = none ∨ ∃ e0 C, A.handled = some (.ref e0) ∧ Links h2 (e0 :: C) ∧ e ∉ e0 :: C := by
    rcases hd with hd | ⟨e1, C1, hd, L1⟩
    · exact .inl hd
    · refine .inr ⟨e1, C1, hd, L1.keeps fun a _ o z => mk.keeps a o z, fun z => ?_⟩
      obtain ⟨i, hi⟩ := List.getElem?_of_mem z
      obtain ⟨o, K, vs, h1, _⟩ := L1.2 i e hi
      rw [mk.new] at h1
      cases h1
  refine raiseNew_hv (s := ⟨h2, g, d, tk, os⟩) hd2 ge rfl (by simp) (fun hh => ?_) ?_
  · have : hv A = .none := by unfold hv; rw [hh]; rfl
    exact kE h2 ⟨mk.keeps, mk.new, t, by rw [this]; exact ge, tn⟩
  · refine kE _ ⟨fun b o z => ?_, mk.new, t, ?_, tn⟩
    · rw [Heap.get?_update_other _ _ (fun y => by rw [← y, mk.new] at z; cases z)]
      exact mk.keeps b o z
    · exact Heap.get?_update_self _ ge rfl
theorem raise_own (F : ExcBaseFacts B newId initId bmB) {mN : Str → Option Value} {x : Str} {np cpos pos : Pos} {args : List Expr} {Q : Flow → Shared → Prop} (hb : bm.contains (.type "BaseException") = true) (hpl : (backTo cpos (starEach args env)).any (·.1) = false) (hni : mN "__init__" = none)
    (h : wpAny (model prog w) A (eval (.Name x np) env) (fun f s1 => f = .ref C ∧ wpAny (model prog w) A (evalArgs (.ref C) true (backTo cpos (starEach args env)) []) (fun a s2 => a.kw = [] ∧ a.pos.length ≤ sizeLine ∧ s2.heap.get? C = some (excClassObj nm q C N bs bm hdct sn sub ab col dd k0 k1 k2 k3 k5 newId) ∧ s2.heap.Ns N mN ∧ OwnTail s2.heap bmB bm ∧ Hd A s2.heap ∧
        ∀ h' e, MadeC s2.heap h' e (.ref C) a.pos (hv A) → E (.ref e) { s2 with heap := h' }) E s1) E s) : wpAny (model prog w) A (exec (.Raise (some (.Call (.Name x np) args [] cpos)) none pos) env) Q E s := by
  rw [arm_exec_Raise]
  refine wpAny_bind (wpAny_standAt (raised (C := C) (nm := nm) (q := q) (N := N) (bs := bs) (bm := bm) (hdct := hdct) (sn := sn) (sub := sub) (ab := ab) (col := col) (dd := dd) (k0 := k0) (k1 := k1) (k2 := k2) (k3 := k3) (k5 := k5) (newId := newId) hb ?_))
  refine wpAny_bind (wpAny_mono (wpAny_Call_ofName (wpAny_mono h (fun f s1 h1 => ?_) fun _ _ z => z)) (fun v s3 h3 => wpAny_bind (wpAny_standAt (wpAny_pure h3))) fun _ _ z => z)
  obtain ⟨rfl, h1⟩ := h1
  unfold callWith
  refine wpAny_bind (wpAny_holding (wpAny_mono h1 (fun a s2 h2 => wpAny_bind (wpAny_standAt ?_)) fun _ _ z => z))
  obtain ⟨ap, ak⟩ := a
  obtain ⟨z1, z2, z3, z4, z5, z6, z7⟩ := h2
  dsimp only at z1 z2 z7
  subst z1
  obtain ⟨hp, g, d, tk, os⟩ := s2
  simp only [hpl]
  refine wpAny_bind (wpAny_keeperOf_exc z3 (wpAny_bind (wpAny_call_exc_subT (hrest := z2) F z5 z3 z4 hni fun h' e hm => wpAny_bind (wpAny_holding (wpAny_point (wpAny_pure ?_))))))
  exact ⟨hp, e, ap, rfl, z3, z6, hm, fun h'' y => z7 h'' e y⟩
end
end L2
set_option Elab.async false
set_option linter.all false
set_option maxRecDepth 100000
namespace L2
open PySem PySem.Spec PyProof.Rows
abbrev Key := Sum Int Str
def keyIs : Key → Value → Bool
  | .inl k, v => Value.isInt k v
  | .inr x, v => Value.isStrOf x v
def keyH (w : World) : Key → Int
  | .inl k => hashInt k
  | .inr x => hashStr w x
theorem keyIs_shape : ∀ {k : Key} {v : Value}, keyIs k v = true → (∃ i t, k = Sum.inl i ∧ v = Value.int i t) ∨ (∃ x t, k = Sum.inr x ∧ v = Value.str x t)
  | .inl i, v, h => by
    obtain ⟨t, e⟩ := Value.isInt_shape (k := i) (v := v) h
    exact .inl ⟨i, t, rfl, e⟩
  | .inr x, v, h => by
    obtain ⟨t, e⟩ := Value.isStrOf_shape (x := x) (v := v) h
    exact .inr ⟨x, t, rfl, e⟩
theorem key_ll (a b : Int) : decide ((Sum.inl a : Key) = Sum.inl b) = (a == b) := by
  by_cases e : a = b
  · subst e; simp
  · have h : ¬ (Sum.inl a : Key) = Sum.inl b := fun q => e (Sum.inl.inj q)
    rw [decide_eq_false h]
    exact (beq_eq_false_iff_ne.mpr e).symm
theorem key_rr (a b : Str) : decide ((Sum.inr a : Key) = Sum.inr b) = decide (a = b) := by
  by_cases e : a = b
  · subst e; simp
  · have h : ¬ (Sum.inr a : Key) = Sum.inr b := fun q => e (Sum.inr.inj q)
    rw [decide_eq_false h, decide_eq_false e]
theorem key_lr (a : Int) (b : Str) : decide ((Sum.inl a : Key) = Sum.inr b) = false := decide_eq_false (fun q => nomatch q)
theorem key_rl (a : Str) (b : Int) : decide ((Sum.inr a : Key) = Sum.inl b) = false := decide_eq_false (fun q => nomatch q)
def mixKind (prog : Program) (w : World) : PySem.KeyKind prog w Key where
  is := keyIs
  hash := keyH w
  inj := fun v a b ha hb => by
    rcases keyIs_shape ha with ⟨i, t, rfl, rfl⟩ | ⟨x, t, rfl, rfl⟩
    · rcases keyIs_shape hb with ⟨j, u, rfl, e⟩ | ⟨y, u, rfl, e⟩
      · injection e with e1 _; rw [e1]
      · exact nomatch e
    · rcases keyIs_shape hb with ⟨j, u, rfl, e⟩ | ⟨y, u, rfl, e⟩
      · exact nomatch e
      · injection e with e1 _; rw [e1]
  byValue := fun k v h => by
    rcases keyIs_shape h with ⟨i, t, rfl, rfl⟩ | ⟨x, t, rfl, rfl⟩ <;> rfl
  pyHash := fun hv h => by
    rcases keyIs_shape hv with ⟨i, t, rfl, rfl⟩ | ⟨x, t, rfl, rfl⟩
    · exact wpAny_pyHash_int h
    · exact wpAny_pyHash_str h
  eqBool := fun hu hv h => by
    rcases keyIs_shape hu with ⟨i, t, rfl, rfl⟩ | ⟨x, t, rfl, rfl⟩
    · rcases keyIs_shape hv with ⟨j, u, rfl, rfl⟩ | ⟨y, u, rfl, rfl⟩
      · rw [key_ll] at h; exact wpAny_eqBool_int h
      · rw [key_lr] at h; exact SeqAt.EqAt.int_str i t y u _ _ _ _ h
    · rcases keyIs_shape hv with ⟨j, u, rfl, rfl⟩ | ⟨y, u, rfl, rfl⟩
      · rw [key_rl] at h; exact SeqAt.EqAt.str_int x t j u _ _ _ _ h
      · rw [key_rr] at h; exact wpAny_eqBool_str h
  «strs» := fun k x t v h => by
    rcases keyIs_shape h with ⟨i, u, rfl, e⟩ | ⟨y, u, rfl, e⟩
    · exact nomatch e
    · injection e with e1 _
      subst e1
      cases v <;> rfl
end L2
namespace L2
open PySem PySem.Spec PyProof.Rows
inductive V where
  | non | bl (b : Bool) | int (i : Int) | str (x : Str) | byt (b : Array UInt8) | flt (b : UInt64) | ref (a : Addr) | ty (n : String)
  deriving DecidableEq
def RelV : V → Value → Prop
  | .non, u => u = Value.none
  | .bl b, u => u = Value.bool b
  | .int i, u => ∃ t, u = Value.int i t
  | .str x, u => ∃ t, u = Value.str x t
  | .byt b, u => ∃ t, u = Value.bytes b t
  | .flt b, u => ∃ t, u = Value.float b t
  | .ref a, u => u = Value.ref a
  | .ty n, u => u = Value.type n
abbrev Vals : List V → List Value → Prop := Paired RelV
theorem Vals.length {xs : List V} {us : List Value} (r : Vals xs us) : xs.length = us.length := Paired.length r
theorem Vals.get : ∀ {xs : List V} {us : List Value} {i : Nat} {x : V}, Vals xs us → xs[i]? = some x → ∃ u, us[i]? = some u ∧ RelV x u
  | _, _, _, _, .nil, e => by simp at e
  | _, _, 0, _, .cons r _, e => by simp at e; subst e; exact ⟨_, rfl, r⟩
  | _, _, i + 1, x, .cons _ t, e => by
    obtain ⟨u, h1, h2⟩ := Vals.get (i := i) (x := x) t (by simpa using e)
    exact ⟨u, by simpa using h1, h2⟩
theorem Vals.set {x : V} {u : Value} (r : RelV x u) : ∀ {xs : List V} {us : List Value} (i : Nat), Vals xs us → Vals (xs.set i x) (us.set i u)
  | _, _, _, .nil => .nil
  | _, _, 0, .cons _ t => .cons r t
  | _, _, i + 1, .cons q t => .cons q (Vals.set r i t)
theorem Vals.append : ∀ {xs ys : List V} {us ws : List Value}, Vals xs us → Vals ys ws → Vals (xs ++ ys) (us ++ ws)
  | _, _, _, _, .nil, s => s
  | _, _, _, _, .cons r t, s => .cons r (Vals.append t s)
theorem Vals.take : ∀ {xs : List V} {us : List Value} (n : Nat), Vals xs us → Vals (xs.take n) (us.take n)
  | _, _, 0, _ => .nil
  | _, _, _ + 1, .nil => .nil
  | _, _, n + 1, .cons r t => .cons r (Vals.take n t)
theorem Vals.drop : ∀ {xs : List V} {us : List Value} (n : Nat), Vals xs us → Vals (xs.drop n) (us.drop n)
  | _, _, 0, r => r
  | _, _, _ + 1, .nil => .nil
  | _, _, n + 1, .cons _ t => Vals.drop n t
def RelO : Option V → Option Value → Prop
  | some v, some u => RelV v u
  | none, none => True
  | _, _ => False
def KV {κ : Type} : List (κ × V) → List (κ × Value) → Prop := Paired fun (p : κ × V) (q : κ × Value) => p.1 = q.1 ∧ RelV p.2 q.2
def kV : Key → V
  | .inl i => .int i
  | .inr x => .str x
inductive HO where
    | lst (xs : List V)
    | tup (xs : List V)
    | dK (kvs : List (Key × V)) | dT (kvs : List (List Key × V))
    | set (S : Int → Bool) (n : Nat)
    | ins (C dx : Addr) (fs : List (Str × V))
    | own (x : Addr)
    | xd (fs : List (Str × V))
    | met (f x : Addr)
    | rng (lo hi : Int)
    | frz (o : Obj) (u : HO)
    | tbl (ps : Array Value)
    | ext (φ : Heap → Prop)
abbrev Hp := Addr → Option HO
def upd (H : Hp) (a : Addr) (o : HO) : Hp := fun b => if b = a then some o else H b
theorem upd_same {H : Hp} {a : Addr} {o : HO} : upd H a o a = some o := by unfold upd; rw [if_pos rfl]
theorem upd_ne {H : Hp} {a b : Addr} {o : HO} (h : b ≠ a) : upd H a o b = H b := by unfold upd; rw [if_neg h]
theorem ne_of_none {H : Hp} {a b : Addr} {o : HO} (h : H a = some o) (h' : H b = none) : a ≠ b := by
  intro e; subst e; rw [h] at h'; cases h'
section
variable (P : Program) (w : World)
def ObjOk (H : Hp) (h : Heap) (a : Addr) : HO → Prop
  | .lst xs => xs.length ≤ sizeLine ∧ ∃ (its : List Value) (n : Nat), Vals xs its ∧ h.get? a = some { cls := .type "list", data := .seq its.toArray n }
  | .tup xs => xs.length ≤ sizeLine ∧ ∃ its : List Value, Vals xs its ∧ IsTup h a its.toArray
  | .dK kvs => kvs.length ≤ sizeLine ∧ (a == sysModules) = false ∧ ∃ vs, KV kvs vs ∧ h.DictOf (mixKind P w) a vs
  | .dT kvs => kvs.length ≤ sizeLine ∧ (a == sysModules) = false ∧ ∃ xs : List (List Key × Addr × Value),
      Paired (fun (p : List Key × V) (q : List Key × Addr × Value) => p.1 = q.1 ∧ H q.2.1 = some (.tup (p.1.map kV)) ∧ RelV p.2 q.2.2) kvs xs ∧
      ∃ o es ep, h.get? a = some o ∧ o.ExactDict ∧ o.data = .dict es ep ∧ es.toList = xs.map (entryOfKey (tupleKind (mixKind P w))) ∧ (xs.map (·.1)).Nodup
  | .set S n => h.SetOf (intKind P w) a S n
  | .ins C dx fs => H dx = some (.own a) ∧ fs.length ≤ 1000 ∧ dx ≠ a ∧ h.get? a = some (PySem.W.instObj C dx) ∧
      ∃ mA, h.Ns1 dx mA ∧ (∀ f, RelO (fs.lookup f) (mA f)) ∧ PySem.Within mA (fs.map (·.1))
  | .own _ => ∃ o, h.get? a = some o
  | .xd fs => ∃ mA, h.Ns1 a mA ∧ ∀ f, RelO (fs.lookup f) (mA f)
  | .rng lo hi => ∃ t u v, h.get? a = some { cls := .type "range", data := .fields #[.int lo t, .int hi u, .int 1 v] }
  | .frz o u => h.get? a = some o ∧ ObjOk H h a u
  | .tbl ps => h.get? a = some { cls := .none, data := .fields ps }
  | .met f x => h.get? a = some (PySem.W.methodObj (.ref f) (.ref x))
  | .ext φ => φ h ∧ (∃ o, h.get? a = some o) ∧ ∀ h1 h2 : Heap, φ h1 → (∀ o, h1.get? a = some o → h2.get? a = some o) → φ h2
def HOk (H : Hp) (h : Heap) : Prop := ∀ a o, H a = some o → ObjOk P w H h a o
end
section
variable {P : Program} {w : World} {H H' : Hp} {h h' : Heap} {a : Addr} {o : HO}
theorem ObjOk.lt (x : ObjOk P w H h a o) : a < h.objs.size := by
  cases o with
  | lst xs => obtain ⟨_, _, _, _, e⟩ := x; exact Heap.lt_size e
  | tup xs => obtain ⟨_, _, _, p⟩ := x; exact p.lt
  | dK kvs => obtain ⟨_, _, _, _, o, _, _, e, _⟩ := x; exact Heap.lt_size e
  | dT kvs => obtain ⟨_, _, _, _, o, _, _, e, _⟩ := x; exact Heap.lt_size e
  | set S n => obtain ⟨o, _, _, _, e, _⟩ := x; exact Heap.lt_size e
  | ins C dx fs => obtain ⟨_, _, _, e, _⟩ := x; exact Heap.lt_size e
  | own y => obtain ⟨_, e⟩ := x; exact Heap.lt_size e
  | xd fs => obtain ⟨_, ⟨_, _, _, e, _⟩, _⟩ := x; exact Heap.lt_size e
  | rng lo hi => obtain ⟨_, _, _, e⟩ := x; exact Heap.lt_size e
  | frz ob u => obtain ⟨e, _⟩ := x; exact Heap.lt_size e
  | tbl ps => exact Heap.lt_size (show h.get? a = some _ from x)
  | met f y => exact Heap.lt_size (show h.get? a = some _ from x)
  | ext φ => obtain ⟨_, ⟨_, e⟩, _⟩ := x; exact Heap.lt_size e
theorem Paired.mapP {α β : Type} {F G : α → β → Prop} : ∀ {l₁ : List α} {l₂ : List β}, Paired F l₁ l₂ → (∀ a b, F a b → G a b) → Paired G l₁ l₂
  | _, _, .nil, _ => .nil
  | _, _, .cons r t, f => .cons (f _ _ r) (Paired.mapP t f)
theorem ObjOk.stay (x : ObjOk P w H h a o) (k : ∀ b u, (b = a ∨ H b = some (.own a)) → h.get? b = some u → h'.get? b = some u)
    (ho : ∀ b, H b = some (.own a) → H' b = some (.own a)) (ht : ∀ b xs, H b = some (.tup xs) → H' b = some (.tup xs)) : ObjOk P w H' h' a o := by
  induction o with
  | lst xs => obtain ⟨z, its, n, r, e⟩ := x; exact ⟨z, its, n, r, k _ _ (.inl rfl) e⟩
  | tup xs => obtain ⟨z, its, r, ob, e, c⟩ := x; exact ⟨z, its, r, ob, k _ _ (.inl rfl) e, c⟩
  | dK kvs => obtain ⟨z, y, vs, r, ob, es, ep, e, c⟩ := x; exact ⟨z, y, vs, r, ob, es, ep, k _ _ (.inl rfl) e, c⟩
  | dT kvs =>
    obtain ⟨z, y, xs, r, ob, es, ep, e, c⟩ := x
    exact ⟨z, y, xs, Paired.mapP r fun p q z => ⟨z.1, ht _ _ z.2.1, z.2.2⟩, ob, es, ep, k _ _ (.inl rfl) e, c⟩
  | set S n => obtain ⟨ob, es, ep, t, e, c⟩ := x; exact ⟨ob, es, ep, t, k _ _ (.inl rfl) e, c⟩
  | ins C dx fs =>
    obtain ⟨d, z, ne, e, mA, ⟨od, es, ep, e2, c⟩, r⟩ := x
    exact ⟨ho _ d, z, ne, k _ _ (.inl rfl) e, mA, ⟨od, es, ep, k _ _ (.inr d) e2, c⟩, r⟩
  | own y => obtain ⟨ob, e⟩ := x; exact ⟨ob, k _ _ (.inl rfl) e⟩
  | xd fs => obtain ⟨mA, ⟨od, es, ep, e, c⟩, r⟩ := x; exact ⟨mA, ⟨od, es, ep, k _ _ (.inl rfl) e, c⟩, r⟩
  | rng lo hi => obtain ⟨t, u, v, e⟩ := x; exact ⟨t, u, v, k _ _ (.inl rfl) e⟩
  | frz ob u ih => obtain ⟨e, q⟩ := x; exact ⟨k _ _ (.inl rfl) e, ih q⟩
  | tbl ps =>
    have e : h.get? a = some { cls := .none, data := .fields ps } := x
    show h'.get? a = some { cls := .none, data := .fields ps }
    exact k a _ (.inl rfl) e
  | met f y =>
    have e : h.get? a = some (PySem.W.methodObj (.ref f) (.ref y)) := x
    show h'.get? a = some (PySem.W.methodObj (.ref f) (.ref y))
    exact k a _ (.inl rfl) e
  | ext φ => obtain ⟨p, ⟨o, e⟩, st⟩ := x; exact ⟨st _ _ p fun o q => k _ _ (.inl rfl) q, ⟨o, k _ _ (.inl rfl) e⟩, st⟩
theorem HOk.lt (x : HOk P w H h) (e : H a = some o) : a < h.objs.size := (x a o e).lt
theorem HOk.fresh (x : HOk P w H h) (e : h.objs.size ≤ a) : H a = none := by
  cases q : H a with
  | none => rfl
  | some u => exact absurd (Nat.lt_of_lt_of_le (x.lt q) e) (Nat.lt_irrefl _)
theorem HOk.kept (x : HOk P w H h) (k : ∀ b u, h.get? b = some u → h'.get? b = some u) : HOk P w H h' := fun a o e =>
  (x a o e).stay (fun b u _ q => k b u q) (fun _ q => q) fun _ _ q => q
theorem HOk.laid (x : HOk P w H h) (k : ∀ b u, h.get? b = some u → h'.get? b = some u) (hp : h.objs.size ≤ a) (new : ObjOk P w (upd H a o) h' a o) : HOk P w (upd H a o) h' := fun b u e => by
  have hn := x.fresh hp
  by_cases hb : b = a
  · subst hb; rw [upd_same] at e; cases e; exact new
  · rw [upd_ne hb] at e
    exact (x b u e).stay (fun c v _ q => k c v q) (fun c q => by rw [upd_ne (ne_of_none q hn)]; exact q) fun c xs q => by rw [upd_ne (ne_of_none q hn)]; exact q
end
def Rd (H : Hp) (a : Addr) (u : HO) : Prop := H a = some u ∨ ∃ o, H a = some (.frz o u)
theorem Rd.ok {P : Program} {w : World} {H : Hp} {h : Heap} {a : Addr} {u : HO} (r : Rd H a u) (x : HOk P w H h) : ObjOk P w H h a u := by
  rcases r with r | ⟨o, r⟩
  · exact x a u r
  · obtain ⟨_, q⟩ := x a _ r
    exact q
def Mut : Option HO → Prop
  | some (.lst _) => True
  | some (.dK _) => True
  | some (.dT _) => True
  | some (.set _ _) => True
  | some (.ins _ _ _) => True
  | some (.ext _) => True
  | _ => False
section
variable {P : Program} {w : World} {H : Hp} {h h' : Heap} {x e : Addr} {o' : HO}
theorem HOk.write (ok : HOk P w H h) (mu : Mut (H x)) (he : e = x ∨ H e = some (.own x)) (k : ∀ b u, b ≠ e → h.get? b = some u → h'.get? b = some u) (heo : ∃ u, h'.get? e = some u)
    (new : ObjOk P w (upd H x o') h' x o') : HOk P w (upd H x o') h' := fun b u q => by
  have nown : ∀ c y, H c = some (.own y) → c ≠ x := fun c y r z => by subst z; rw [r] at mu; exact mu
  have ntup : ∀ c xs, H c = some (.tup xs) → c ≠ x := fun c xs r z => by subst z; rw [r] at mu; exact mu
  by_cases hb : b = x
  · subst hb; rw [upd_same] at q; cases q; exact new
  · rw [upd_ne hb] at q
    by_cases hbe : b = e
    · have q' : H b = some (.own x) := by
        rcases he with z | z
        · exact absurd (hbe.trans z) hb
        · rw [hbe]; exact z
      rw [q] at q'; cases q'
      obtain ⟨v, hv⟩ := heo
      exact ⟨v, by rw [hbe]; exact hv⟩
    · refine (ok b u q).stay (fun c v hc r => k c v ?_ r) (fun c r => by rw [upd_ne (nown c b r)]; exact r) fun c xs r => by rw [upd_ne (ntup c xs r)]; exact r
      rcases hc with rfl | hc
      · exact hbe
      · rintro rfl
        rcases he with z | z
        · exact nown c b hc z
        · rw [hc] at z; cases z; exact hb rfl
end
structure Un (fs ex : List Addr) (H H' : Hp) (h h' : Heap) : Prop where
  keep : ∀ b o, h.get? b = some o → H b = none → b ∉ fs → b ∉ ex → h'.get? b = some o
  slot : ∀ b o, h.get? b = some o → H b = none → b ∈ fs → b ∉ ex → ∃ sl, h'.get? b = some { o with slots := sl }
  free : ∀ b o, h.get? b = some o → H b = none → b ∉ ex → H' b = none
  there : ∀ b o, h.get? b = some o → b ∉ ex → ∃ o', h'.get? b = some o'
  tups : ∀ b xs, H b = some (.tup xs) → H' b = some (.tup xs)
  frzs : ∀ b o u, H b = some (.frz o u) → H' b = some (.frz o u)
  tbls : ∀ b ps, H b = some (.tbl ps) → ∃ more, H' b = some (.tbl (ps ++ more))
section
variable {fs fs' ex ex' : List Addr} {H H1 H2 : Hp} {h h1 h2 h' : Heap} {a x e : Addr} {o : HO}
theorem Un.any (u : Un fs ex H H1 h h1) {b : Addr} {ob : Obj} (q : h.get? b = some ob) (n : H b = none) (hx : b ∉ ex) : ∃ sl, h1.get? b = some { ob with slots := sl } := by
  by_cases hb : b ∈ fs
  · exact u.slot b ob q n hb hx
  · exact ⟨ob.slots, u.keep b ob q n hb hx⟩
theorem Un.kept (k : ∀ b u, h.get? b = some u → h'.get? b = some u) : Un fs ex H H h h' :=
  ⟨fun b ob q _ _ _ => k b ob q, fun b ob q _ _ _ => ⟨ob.slots, k b ob q⟩, fun _ _ _ n _ => n, fun b ob q _ => ⟨ob, k b ob q⟩, fun _ _ q => q, fun _ _ _ q => q, fun _ ps q => ⟨#[], by rw [q]; simp⟩⟩
theorem Un.refl : Un fs ex H H h h := Un.kept fun _ _ q => q
theorem Un.laid (k : ∀ b u, h.get? b = some u → h'.get? b = some u) (hp : h.objs.size ≤ a) (hn : H a = none) : Un fs ex H (upd H a o) h h' where
  keep := fun b u q _ _ _ => k b u q
  slot := fun b u q _ _ _ => ⟨u.slots, k b u q⟩
  free := fun b u q n _ => by rw [upd_ne (Nat.ne_of_lt (Nat.lt_of_lt_of_le (Heap.lt_size q) hp))]; exact n
  there := fun b u q _ => ⟨u, k b u q⟩
  tups := fun b xs q => by rw [upd_ne (ne_of_none q hn)]; exact q
  frzs := fun b u xs q => by rw [upd_ne (ne_of_none q hn)]; exact q
  tbls := fun b ps q => ⟨#[], by rw [upd_ne (ne_of_none q hn), q]; simp⟩
theorem Un.write (mu : Mut (H x)) (he : e = x ∨ H e = some (.own x)) (k : ∀ b u, b ≠ e → h.get? b = some u → h'.get? b = some u) (heo : ∃ u, h'.get? e = some u) : Un fs ex H (upd H x o) h h' := by
  have hx : ∀ b, H b = none → b ≠ x := fun b n z => by subst z; rw [n] at mu; exact mu
  have hb : ∀ b, H b = none → b ≠ e := fun b n z => by
    subst z
    rcases he with r | r
    · exact hx b n r
    · rw [n] at r; cases r
  have hm : ∀ b u, H b = some u → ¬ Mut (some u) → b ≠ x := fun b u q nm z => by subst z; rw [q] at mu; exact nm mu
  refine ⟨fun b u q n _ _ => k b u (hb b n) q, fun b u q n _ _ => ⟨u.slots, k b u (hb b n) q⟩, fun b u q n _ => by rw [upd_ne (hx b n)]; exact n, fun b u q _ => ?_,
    fun b xs q => by rw [upd_ne (hm b _ q fun z => z)]; exact q, fun b u xs q => by rw [upd_ne (hm b _ q fun z => z)]; exact q, fun b ps q => ⟨#[], by rw [upd_ne (hm b _ q fun z => z), q]; simp⟩⟩
  by_cases hbe : b = e
  · subst hbe; exact heo
  · exact ⟨u, k b u hbe q⟩
end
def trk (h : Heap) (H : Hp) : List Addr := (List.range h.objs.size).filter fun a => (H a).isSome
def hidT (h : Heap) (H : Hp) : Heap := PySem.W.hideAll h (trk h H)
theorem hidT_size (h : Heap) (H : Hp) : (hidT h H).objs.size = h.objs.size := PySem.W.hideAll_size _ _
theorem hidT_get {h : Heap} {H : Hp} {b : Addr} {o : Obj} (e : h.get? b = some o) (n : H b = none) : (hidT h H).get? b = some o :=
  PySem.W.hideAll_get _ e fun hm => by
    have q : (H b).isSome = true := (List.mem_filter.mp hm).2
    rw [n] at q; simp at q
theorem of_hidT {h : Heap} {H : Hp} {b : Addr} {o : Obj} (e : (hidT h H).get? b = some o) : h.get? b = some o ∧ H b = none := by
  have e' : h.get? b = some o := PySem.W.of_hideAll (trk h H) e
  refine ⟨e', ?_⟩
  cases q : H b with
  | none => rfl
  | some x =>
    have hm : b ∈ trk h H := List.mem_filter.mpr ⟨List.mem_range.mpr (Heap.lt_size e'), by simp [q]⟩
    have z : (hidT h H).get? b = none := PySem.W.hideAll_none (trk h H) hm
    rw [z] at e; cases e
def allNews (g h : Heap) (L : Addr) : List (Addr × Obj) := (List.range h.objs.size).filterMap fun a => if a = L ∨ (g.get? a).isSome = true then none else (h.get? a).map fun o => (a, o)
def rest (g h : Heap) (L d : Addr) : List (Addr × Obj) := (allNews g h L).filter fun p => decide (p.1 ≠ d)
end L2
namespace L2
open PySem PySem.Spec PyProof.Rows
structure Mod (K : PySem.W.Frag) (mg : Str → Option Value) (base : Heap) : Prop where
  kin : K.In base
  glob : base.Ns mainGlobals mg
  blt : ∃ mb, base.Ns builtinsNs mb ∧ ∀ x : Str, x ≠ "__name__" → mb x = bootBuiltins x
  nolimit : base.NoLimit
structure Cx where
  prog : Program
  w : World
  K : PySem.W.Frag
  mg : Str → Option Value
  base : Heap
  A : Around
  N : List Str
  s₀ : Shared
  H₀ : Hp
  env : Env
  outer : List Env
  stack : List Env
  ex : List Addr
  fn : Str → Bool
  calm : Bool
  pn : List (Addr × Obj)
  xe : Value → Shared → Prop
def frs (l : List Env) : List Addr := l.filterMap (·.frame)
abbrev Cx.fs (X : Cx) : List Addr := frs X.outer
def Vis (sc : Scope) (x : Str) : Prop := sc.names.lookup x = some .local ∨ sc.names.lookup x = some .cell ∨ sc.names.lookup x = some .free
def Loc (sc : Scope) (x : Str) : Prop := sc.names.lookup x = some .local ∨ sc.names.lookup x = some .cell
def Look (env : Env) (h : Heap) (m : Str → Option Value) (x : Str) (u : Value) : Prop :=
  (env.kindOf x = some .local ∧ m x = some u) ∨ ((env.kindOf x = some .cell ∨ env.kindOf x = some .free) ∧ ∃ c, env.cells.lookup x = some c ∧ h.IsCell c (some u))
def Fixed (X : Cx) (a : Addr) (o : Obj) : Prop := (a, o) ∈ X.pn ∨ (X.s₀.heap.get? a = some o ∧ X.H₀ a = none ∧ a ∉ X.fs ∧ a ∉ X.ex)
def Hq (X : Cx) : Prop := X.A.handled = none ∨ ∃ e C, X.A.handled = some (.ref e) ∧ (e :: C).Nodup ∧ ∀ (i : Nat) (a : Addr), (e :: C)[i]? = some a → ∃ o K vs, Fixed X a o ∧ o.cls = .ref K ∧ o.data = .fields vs ∧ vs[2]? = some (((e :: C)[i + 1]?).elim .none .ref)
def HdE (A : Around) (outer : List Env) (s : Shared) (H : Hp) : Prop := A.handled = none ∨ ∃ e C, A.handled = some (.ref e) ∧ Links s.heap (e :: C) ∧ ∀ a ∈ e :: C, H a = none ∧ a ∉ frs outer
structure Cx.Ok (X : Cx) : Prop where
  mod : Mod X.K X.mg X.base
  kind : X.env.scope.kind = .function
  glob : X.env.globals = mainGlobals
  blt : X.env.builtins = builtinsNs
  above : X.s₀.heap.objs.size ≤ X.env.locals
  inj : ∀ x y c, X.env.cells.lookup x = some c → X.env.cells.lookup y = some c → x = y
  has : ∀ x, (X.env.kindOf x = some .cell ∨ X.env.kindOf x = some .free) → ∃ c, X.env.cells.lookup x = some c
  cab : ∀ x c, X.fn x = true → X.env.cells.lookup x = some c → X.s₀.heap.objs.size ≤ c
  hd : X.calm = true → X.A.handled = none
  hq : Hq X
  frames : X.A.frames = some X.stack
  stk : X.stack = X.outer ∨ (X.stack = X.env :: X.outer ∧ X.env.frame = some X.env.locals)
  exf : ∀ b ∈ X.ex, b ≠ X.env.locals ∧ ∀ x c, X.env.cells.lookup x = some c → c ≠ b
  bs : ∀ b o, X.base.get? b = some o → X.s₀.heap.get? b = some o ∧ X.H₀ b = none
  bsz : X.base.objs.size ≤ X.s₀.heap.objs.size
  noex : ∀ b o, X.base.get? b = some o → b ∉ X.ex
  exfs : ∀ b ∈ X.ex, b ∉ X.fs
  funs : X.s₀.heap.FunFrames X.base X.outer
  frf : ∀ b ∈ X.fs, X.H₀ b = none
structure Inv (X : Cx) (pins : List (Addr × Obj)) (σ : List (Option V)) (H : Hp) (s : Shared) : Prop where
  ok : X.Ok
  os : s.os = X.s₀.os
  bare : AllBare s.gens
  base : Un X.fs X.ex X.H₀ H X.s₀.heap s.heap
  loc : ∃ m, s.heap.Ns X.env.locals m ∧ ∀ (i : Nat) (x : Str) (v : V), X.N[i]? = some x → σ[i]? = some (some v) → Vis X.env.scope x → ∃ u, RelV v u ∧ Look X.env s.heap m x u
  cell : ∀ x c, X.env.cells.lookup x = some c → ∃ v, s.heap.IsCell c v
  free : H X.env.locals = none
  freeC : ∀ x c, X.env.cells.lookup x = some c → H c = none
  pin : ∀ p ∈ X.pn ++ pins, s.heap.get? p.1 = some p.2 ∧ H p.1 = none ∧ p.1 ≠ X.env.locals ∧ p.1 ∉ X.fs ∧ ∀ v, p.2.data ≠ .cell v
  hok : HOk X.prog X.w H s.heap
  len : σ.length = X.N.length
section
variable {X : Cx} {pins : List (Addr × Obj)} {σ : List (Option V)} {H H' : Hp} {s : Shared} {h' : Heap}
theorem Cx.Ok.nofr (ok : X.Ok) {b : Addr} {o : Obj} (e : X.base.get? b = some o) : b ∉ X.fs := fun hb => by
  have := (ok.funs.mem hb).1
  rw [e] at this; cases this
theorem Inv.bs (I : Inv X pins σ H s) : ∀ b o, X.base.get? b = some o → s.heap.get? b = some o ∧ H b = none := fun b o e =>
  ⟨I.base.keep b o (I.ok.bs b o e).1 (I.ok.bs b o e).2 (I.ok.nofr e) (I.ok.noex b o e), I.base.free b o (I.ok.bs b o e).1 (I.ok.bs b o e).2 (I.ok.noex b o e)⟩
theorem Inv.bk (I : Inv X pins σ H s) : ∀ b o, X.base.get? b = some o → s.heap.get? b = some o := fun b o e => (I.bs b o e).1
theorem Inv.mod (I : Inv X pins σ H s) : Mod X.K X.mg X.base := I.ok.mod
theorem Inv.kIn (I : Inv X pins σ H s) : X.K.In s.heap := I.ok.mod.kin.keeps I.bk
theorem Inv.lt (I : Inv X pins σ H s) : X.env.locals < s.heap.objs.size := let ⟨_, hn, _⟩ := I.loc; hn.lt
theorem Inv.sz (I : Inv X pins σ H s) : X.s₀.heap.objs.size ≤ s.heap.objs.size := Nat.le_trans I.ok.above (Nat.le_of_lt I.lt)
theorem Inv.nofs (I : Inv X pins σ H s) {a : Addr} (h : s.heap.objs.size ≤ a) : a ∉ X.fs := fun hb => by
  obtain ⟨_, o, ho, _⟩ := I.ok.funs.mem hb
  exact absurd (Nat.lt_of_lt_of_le (Heap.lt_size ho) (Nat.le_trans I.sz h)) (Nat.lt_irrefl _)
theorem Inv.cne (I : Inv X pins σ H s) : ∀ x c, X.env.cells.lookup x = some c → c ≠ X.env.locals := fun x c e z => by
  obtain ⟨v, o, ho, hd⟩ := I.cell x c e
  obtain ⟨m, ⟨o', es, ep, ho', hd', _⟩, _⟩ := I.loc
  rw [z, ho'] at ho; cases ho; rw [hd'] at hd; cases hd
theorem Inv.funs (I : Inv X pins σ H s) : s.heap.FunFrames X.base X.outer := by
  have all : ∀ (l : List Env), (∀ b ∈ frs l, b ∈ X.fs) → X.s₀.heap.FunFrames X.base l → s.heap.FunFrames X.base l := by
    intro l
    induction l with
    | nil => intro _ _; trivial
    | cons env r ih =>
      intro hs hl
      obtain ⟨hk, ⟨L, o, hf, hn, ho, hd⟩, hr⟩ := hl
      have hL : L ∈ X.fs := hs L (by unfold frs; rw [List.filterMap_cons, hf]; exact List.mem_cons_self)
      obtain ⟨sl, e⟩ := I.base.slot L o ho (I.ok.frf L hL) hL fun z => I.ok.exfs L z hL
      exact ⟨hk, ⟨L, _, hf, hn, e, hd⟩, ih (fun b hb => hs b (by unfold frs; rw [List.filterMap_cons, hf]; exact List.mem_cons_of_mem _ hb)) hr⟩
  exact all X.outer (fun _ hb => hb) I.ok.funs
theorem Inv.stack (I : Inv X pins σ H s) : s.heap.FunFrames X.base X.stack := by
  rcases I.ok.stk with e | ⟨e, hf⟩
  · rw [e]; exact I.funs
  · rw [e]
    obtain ⟨m, hn, _⟩ := I.loc
    refine .cons (by rw [I.ok.kind]; decide) hf hn ?_ I.funs
    exact Heap.get?_none_of_le (Nat.le_trans I.ok.bsz I.ok.above)
theorem Inv.stkSub (I : Inv X pins σ H s) : ∀ b ∈ frs X.stack, b ∈ X.env.locals :: X.fs := fun b hb => by
  rcases I.ok.stk with e | ⟨e, hf⟩
  · rw [e] at hb; exact List.mem_cons_of_mem _ hb
  · rw [e] at hb
    unfold frs at hb
    rw [List.filterMap_cons, hf] at hb
    exact hb
theorem Inv.stkFree (I : Inv X pins σ H s) : ∀ b ∈ frs X.stack, H b = none := fun b hb => by
  rcases List.mem_cons.mp (I.stkSub b hb) with e | hb
  · rw [e]; exact I.free
  · obtain ⟨_, o, ho, _⟩ := I.ok.funs.mem hb
    exact I.base.free b o ho (I.ok.frf b hb) fun z => I.ok.exfs b z hb
theorem Inv.step {g' : Array GenState} {t' : Nat} {d' : Drawn} {ch : List Addr} (I : Inv X pins σ H s)
    (hch : ∀ b ∈ ch, (b ∈ X.ex ∨ X.s₀.heap.objs.size ≤ b) ∧ b ≠ X.env.locals ∧ (∀ x c, X.env.cells.lookup x = some c → c ≠ b) ∧ ∀ p ∈ X.pn ++ pins, p.1 ≠ b)
    (keep : ∀ b o, b ≠ X.env.locals → b ∉ X.fs → b ∉ ch → s.heap.get? b = some o → H b = none → h'.get? b = some o)
    (slot : ∀ b o, b ≠ X.env.locals → b ∈ X.fs → b ∉ ch → s.heap.get? b = some o → H b = none → ∃ sl, h'.get? b = some { o with slots := sl }) (free : ∀ b o, b ∉ ch → s.heap.get? b = some o → H b = none → H' b = none)
    (there : ∀ b o, b ∉ ch → s.heap.get? b = some o → ∃ o', h'.get? b = some o')
    (tups : ∀ b xs, H b = some (.tup xs) → H' b = some (.tup xs)) (frzs : ∀ b o u, H b = some (.frz o u) → H' b = some (.frz o u)) (tbls : ∀ b ps, H b = some (.tbl ps) → ∃ more, H' b = some (.tbl (ps ++ more)))
    (ns : ∀ m, s.heap.Ns X.env.locals m → h'.Ns X.env.locals m) (hok : HOk X.prog X.w H' h') (hg : AllBare g') :
    Inv X pins σ H' { s with heap := h', gens := g', drawn := d', toks := t' } := by
  have neL : ∀ b o, X.s₀.heap.get? b = some o → b ≠ X.env.locals := fun b o e => Nat.ne_of_lt (Nat.lt_of_lt_of_le (Heap.lt_size e) I.ok.above)
  have neC : ∀ b o, X.s₀.heap.get? b = some o → b ∉ X.ex → b ∉ ch := fun b o e hx hb => by
    rcases (hch b hb).1 with z | z
    · exact hx z
    · exact absurd (Nat.lt_of_lt_of_le (Heap.lt_size e) z) (Nat.lt_irrefl _)
  have cellK : ∀ x c, X.env.cells.lookup x = some c → ∀ v, s.heap.IsCell c v → h'.IsCell c v := fun x c e v ⟨o, ho, hd⟩ => by
    have nch : c ∉ ch := fun z => (hch c z).2.2.1 x c e rfl
    by_cases hc : c ∈ X.fs
    · obtain ⟨sl, q⟩ := slot c o (I.cne x c e) hc nch ho (I.freeC x c e)
      exact ⟨_, q, hd⟩
    · exact ⟨o, keep c o (I.cne x c e) hc nch ho (I.freeC x c e), hd⟩
  refine ⟨I.ok, I.os, hg, ⟨fun b o e n hb hx => ?_, fun b o e n hb hx => ?_, fun b o e n hx => ?_, fun b o e hx => ?_, fun b xs e => tups b xs (I.base.tups b xs e), fun b o xs e => frzs b o xs (I.base.frzs b o xs e), fun b ps e => ?_⟩, ?_, fun x c e => ?_, ?_, fun x c e => ?_, fun p hp => ?_, hok, I.len⟩
  · exact keep b o (neL b o e) hb (neC b o e hx) (I.base.keep b o e n hb hx) (I.base.free b o e n hx)
  · obtain ⟨sl, e1⟩ := I.base.slot b o e n hb hx
    obtain ⟨sl', e2⟩ := slot b _ (neL b o e) hb (neC b o e hx) e1 (I.base.free b o e n hx)
    exact ⟨sl', e2⟩
  · obtain ⟨o', e1⟩ := I.base.there b o e hx
    exact free b o' (neC b o e hx) e1 (I.base.free b o e n hx)
  · obtain ⟨o', e1⟩ := I.base.there b o e hx
    exact there b o' (neC b o e hx) e1
  · obtain ⟨m1, e1⟩ := I.base.tbls b ps e
    obtain ⟨m2, e2⟩ := tbls b _ e1
    exact ⟨m1 ++ m2, by rw [e2, Array.append_assoc]⟩
  · obtain ⟨m, hn, hl⟩ := I.loc
    refine ⟨m, ns m hn, fun i x v e1 e2 e3 => ?_⟩
    obtain ⟨u, r, l⟩ := hl i x v e1 e2 e3
    refine ⟨u, r, ?_⟩
    rcases l with l | ⟨k, c, e, z⟩
    · exact .inl l
    · exact .inr ⟨k, c, e, cellK x c e _ z⟩
  · obtain ⟨v, z⟩ := I.cell x c e
    exact ⟨v, cellK x c e v z⟩
  · obtain ⟨m, ⟨o, _, _, ho, _⟩, _⟩ := I.loc
    exact free _ o (fun z => (hch _ z).2.1 rfl) ho I.free
  · obtain ⟨v, o, ho, hd⟩ := I.cell x c e
    exact free c o (fun z => (hch c z).2.2.1 x c e rfl) ho (I.freeC x c e)
  · obtain ⟨e, n, ne, nf, d⟩ := I.pin p hp
    have nch : p.1 ∉ ch := fun z => (hch p.1 z).2.2.2 p hp rfl
    exact ⟨keep p.1 p.2 ne nf nch e n, free p.1 p.2 nch e n, ne, nf, d⟩
theorem Inv.un {t' : Nat} (I : Inv X pins σ H s) (u : Un X.fs [] H H' s.heap h') (hok : HOk X.prog X.w H' h') : Inv X pins σ H' { s with heap := h', toks := t' } := by
  obtain ⟨m, ⟨o, es, ep, ho, r⟩, _⟩ := id I.loc
  obtain ⟨sl, hL⟩ := u.any ho I.free (by simp)
  exact I.step (g' := s.gens) (d' := s.drawn) (ch := []) (fun _ z => nomatch z) (fun b o _ hb _ e n => u.keep b o e n hb (by simp)) (fun b o _ hb _ e n => u.slot b o e n hb (by simp)) (fun b o _ e n => u.free b o e n (by simp)) (fun b o _ e => u.there b o e (by simp)) u.tups u.frzs u.tbls (fun m' hm => by
    obtain ⟨o', es', ep', ho', r'⟩ := hm
    rw [ho] at ho'; cases ho'
    exact ⟨_, es', ep', hL, r'⟩) hok I.bare
theorem Inv.call {g' : Array GenState} {t' : Nat} {d' : Drawn} {ch : List Addr} (I : Inv X pins σ H s) (u : Un (frs X.stack) ch H H' s.heap h') (hok : HOk X.prog X.w H' h') (hg : AllBare g')
    (hch : ∀ b ∈ ch, (b ∈ X.ex ∨ X.s₀.heap.objs.size ≤ b) ∧ b ≠ X.env.locals ∧ (∀ x c, X.env.cells.lookup x = some c → c ≠ b) ∧ ∀ p ∈ X.pn ++ pins, p.1 ≠ b) :
    Inv X pins σ H' { s with heap := h', gens := g', drawn := d', toks := t' } := by
  obtain ⟨m, ⟨o, es, ep, ho, r⟩, _⟩ := id I.loc
  obtain ⟨sl, hL⟩ := u.any ho I.free fun z => (hch _ z).2.1 rfl
  exact I.step (ch := ch) hch (fun b o hL hb hc e n => u.keep b o e n (fun z => (List.mem_cons.mp (I.stkSub b z)).elim hL hb) hc) (fun b o _ _ hc e n => u.any e n hc) (fun b o hc e n => u.free b o e n hc) (fun b o hc e => u.there b o e hc) u.tups u.frzs u.tbls (fun m' hm => by
    obtain ⟨o', es', ep', ho', r'⟩ := hm
    rw [ho] at ho'; cases ho'
    exact ⟨_, es', ep', hL, r'⟩) hok hg
theorem Inv.turned {t' : Nat} {it : Addr} (I : Inv X pins σ H s) (k : ∀ b o, b ≠ it → s.heap.get? b = some o → h'.get? b = some o) (hn : H it = none) (hL : it ≠ X.env.locals)
    (h1 : it ∈ X.ex ∨ X.s₀.heap.objs.size ≤ it) (h2 : ∀ x c, X.env.cells.lookup x = some c → c ≠ it) (h3 : ∀ p ∈ X.pn ++ pins, p.1 ≠ it) : Inv X pins σ H { s with heap := h', toks := t' } := by
  have nit : ∀ b u, H b = some u → b ≠ it := fun b u e z => by rw [z, hn] at e; cases e
  refine I.step (g' := s.gens) (d' := s.drawn) (ch := [it]) (fun b hb => ?_) (fun b o _ _ hc e _ => k b o (fun z => hc (by simp [z])) e) (fun b o _ _ hc e _ => ⟨o.slots, k b o (fun z => hc (by simp [z])) e⟩) (fun _ _ _ _ n => n)
    (fun b o hc e => ⟨o, k b o (fun z => hc (by simp [z])) e⟩) (fun _ _ e => e) (fun _ _ _ e => e) (fun b ps e => ⟨#[], by rw [e]; simp⟩) (fun m hm => ?_) (fun b u e => ?_) I.bare
  · have e : b = it := by simpa using hb
    subst e
    exact ⟨h1, hL, h2, h3⟩
  · obtain ⟨o, es, ep, ho, r⟩ := hm
    exact ⟨o, es, ep, k _ o (Ne.symm hL) ho, r⟩
  · refine (I.hok b u e).stay (fun c v hc q => k c v ?_ q) (fun _ q => q) fun _ _ q => q
    rcases hc with z | z
    · rw [z]; exact nit b u e
    · exact nit c _ z
theorem Inv.tok (I : Inv X pins σ H s) (t : Nat) : Inv X pins σ H { s with toks := t } := I.un (h' := s.heap) (t' := t) Un.refl I.hok
theorem Inv.kept {t' : Nat} (I : Inv X pins σ H s) (k : ∀ b u, s.heap.get? b = some u → h'.get? b = some u) : Inv X pins σ H { s with heap := h', toks := t' } := I.un (Un.kept k) (I.hok.kept k)
theorem Inv.laid {a : Addr} {o : HO} {t' : Nat} (I : Inv X pins σ H s) (k : ∀ b u, s.heap.get? b = some u → h'.get? b = some u) (hp : s.heap.objs.size ≤ a) (new : ObjOk X.prog X.w (upd H a o) h' a o) :
    Inv X pins σ (upd H a o) { s with heap := h', toks := t' } := I.un (Un.laid k hp (I.hok.fresh hp)) (I.hok.laid k hp new)
theorem Inv.write {x e : Addr} {o : HO} {t' : Nat} (I : Inv X pins σ H s) (mu : Mut (H x)) (he : e = x ∨ H e = some (.own x)) (k : ∀ b u, b ≠ e → s.heap.get? b = some u → h'.get? b = some u) (heo : ∃ u, h'.get? e = some u)
    (new : ObjOk X.prog X.w (upd H x o) h' x o) : Inv X pins σ (upd H x o) { s with heap := h', toks := t' } := I.un (Un.write mu he k heo) (I.hok.write mu he k heo new)
theorem Inv.pins_of {pins' : List (Addr × Obj)} (I : Inv X pins σ H s) (h : ∀ p ∈ pins', s.heap.get? p.1 = some p.2 ∧ H p.1 = none ∧ p.1 ≠ X.env.locals ∧ p.1 ∉ X.fs ∧ ∀ v, p.2.data ≠ .cell v) : Inv X pins' σ H s :=
  ⟨I.ok, I.os, I.bare, I.base, I.loc, I.cell, I.free, I.freeC, fun p hp => (List.mem_append.mp hp).elim (fun z => I.pin p (List.mem_append_left _ z)) (h p), I.hok, I.len⟩
theorem nodup_ix {N : List Str} (hN : N.Nodup) {i j : Nat} {x : Str} (a : N[i]? = some x) (b : N[j]? = some x) : i = j := by
  obtain ⟨h1, e1⟩ := List.getElem?_eq_some_iff.mp a
  obtain ⟨h2, e2⟩ := List.getElem?_eq_some_iff.mp b
  exact (List.getElem_inj hN).mp (e1.trans e2.symm)
theorem store_ok2 {M : Model} {A : Around} {E : Value → Shared → Prop} {i : Nat} {x : Str} {v : V} {u : Value} {Q : Unit → Shared → Prop} (I : Inv X pins σ H s) (hN : X.N.Nodup) (hi : X.N[i]? = some x) (hx : Loc X.env.scope x) (r : RelV v u)
    (h : ∀ s', Inv X pins (σ.set i (some v)) H s' → (∃ a, Heap.SameBut a s.heap s'.heap ∧ (a = X.env.locals ∨ X.env.cells.lookup x = some a)) → Q () s') (hf : X.fn x = true ∨ X.env.scope.names.lookup x = some .local := by first | exact .inl rfl | exact .inr rfl | assumption) : wpAny M A (storeName X.env x u) Q E s := by
  obtain ⟨m, hn, hl⟩ := id I.loc
  have hcls : (X.env.scope.kind == .class || (X.env.scope.kind == .module && X.env.locals != X.env.globals)) = false := by rw [I.ok.kind]; rfl
  have hiσ : i < σ.length := by rw [I.len]; exact (List.getElem?_eq_some_iff.mp hi).1
  have cne := I.cne
  have tracked : ∀ {a : Addr} {h' : Heap}, (∃ o, s.heap.get? a = some o ∧ H a = none) → Heap.SameBut a s.heap h' → HOk X.prog X.w H h' := fun {a h'} ha hs b ob e => by
    obtain ⟨_, _, hfree⟩ := ha
    refine (I.hok b ob e).stay (fun c w' hc q => (hs.2 c ?_).trans q) (fun _ q => q) fun _ _ q => q
    rintro rfl
    rcases hc with rfl | hc
    · rw [hfree] at e; cases e
    · rw [hfree] at hc; cases hc
  rcases hx with hk | hk
  · refine wpAny_storeName_local hk hn (fun h' hn' hs => ?_) hcls
    obtain ⟨oL, _, _, hoL, _⟩ := id hn
    refine h _ ⟨I.ok, I.os, I.bare, ⟨fun b o e n hb hx => ?_, fun b o e n hb hx => ?_, I.base.free, fun b o e hx => ?_, I.base.tups, I.base.frzs, I.base.tbls⟩, ⟨_, hn', fun j y v' e1 e2 e3 => ?_⟩, fun y c e => ?_, I.free, I.freeC, fun p hp => ?_, tracked ⟨oL, hoL, I.free⟩ hs, by simpa using I.len⟩ ⟨_, hs, .inl rfl⟩
    · exact (hs.2 b (Nat.ne_of_lt (Nat.lt_of_lt_of_le (Heap.lt_size e) I.ok.above))).trans (I.base.keep b o e n hb hx)
    · obtain ⟨sl, e1⟩ := I.base.slot b o e n hb hx
      exact ⟨sl, (hs.2 b (Nat.ne_of_lt (Nat.lt_of_lt_of_le (Heap.lt_size e) I.ok.above))).trans e1⟩
    · obtain ⟨o', e1⟩ := I.base.there b o e hx
      exact ⟨o', (hs.2 b (Nat.ne_of_lt (Nat.lt_of_lt_of_le (Heap.lt_size e) I.ok.above))).trans e1⟩
    · by_cases hj : j = i
      · subst hj
        rw [hi] at e1; cases e1
        rw [List.getElem?_set_self hiσ] at e2
        cases e2
        exact ⟨u, r, .inl ⟨hk, by simp⟩⟩
      · rw [List.getElem?_set_ne (Ne.symm hj)] at e2
        obtain ⟨u', r', q⟩ := hl j y v' e1 e2 e3
        refine ⟨u', r', ?_⟩
        rcases q with ⟨k, e⟩ | ⟨k, c, e, z⟩
        · refine .inl ⟨k, ?_⟩
          have : y ≠ x := fun e => hj (nodup_ix hN e1 (e ▸ hi))
          simp [this, e]
        · exact .inr ⟨k, c, e, z.sameBut hs (cne y c e)⟩
    · obtain ⟨w', z⟩ := I.cell y c e
      exact ⟨w', z.sameBut hs (cne y c e)⟩
    · obtain ⟨e, n, ne, nf, d⟩ := I.pin p hp
      exact ⟨(hs.2 p.1 ne).trans e, n, ne, nf, d⟩
  · have hfn : X.fn x = true := by
      rcases hf with z | z
      · exact z
      · rw [z] at hk; cases hk
    obtain ⟨c, hc⟩ := I.ok.has x (.inl hk)
    obtain ⟨w', z⟩ := I.cell x c hc
    refine wpAny_storeName_cell I.ok.kind hk hc z (fun h' hc' hs => ?_)
    obtain ⟨oc, hoc, hocd⟩ := id z
    refine h { s with heap := h' } ⟨I.ok, I.os, I.bare, ⟨fun b o e n hb hx => ?_, fun b o e n hb hx => ?_, I.base.free, fun b o e hx => ?_, I.base.tups, I.base.frzs, I.base.tbls⟩, ⟨m, hn.sameBut hs (Ne.symm (cne x c hc)), fun j y v' e1 e2 e3 => ?_⟩, fun y c' e => ?_, I.free, I.freeC, fun p hp => ?_, tracked ⟨oc, hoc, I.freeC x c hc⟩ hs, by simpa using I.len⟩ ⟨c, hs, .inr hc⟩
    · exact (hs.2 b (Nat.ne_of_lt (Nat.lt_of_lt_of_le (Heap.lt_size e) (I.ok.cab x c hfn hc)))).trans (I.base.keep b o e n hb hx)
    · obtain ⟨sl, e1⟩ := I.base.slot b o e n hb hx
      exact ⟨sl, (hs.2 b (Nat.ne_of_lt (Nat.lt_of_lt_of_le (Heap.lt_size e) (I.ok.cab x c hfn hc)))).trans e1⟩
    · obtain ⟨o', e1⟩ := I.base.there b o e hx
      exact ⟨o', (hs.2 b (Nat.ne_of_lt (Nat.lt_of_lt_of_le (Heap.lt_size e) (I.ok.cab x c hfn hc)))).trans e1⟩
    · by_cases hj : j = i
      · subst hj
        rw [hi] at e1; cases e1
        rw [List.getElem?_set_self hiσ] at e2
        cases e2
        exact ⟨u, r, .inr ⟨.inl hk, c, hc, hc'⟩⟩
      · rw [List.getElem?_set_ne (Ne.symm hj)] at e2
        obtain ⟨u', r', q⟩ := hl j y v' e1 e2 e3
        refine ⟨u', r', ?_⟩
        rcases q with q | ⟨k, c', e, z'⟩
        · exact .inl q
        · refine .inr ⟨k, c', e, z'.sameBut hs ?_⟩
          rintro rfl
          exact hj (nodup_ix hN e1 (I.ok.inj _ _ _ e hc ▸ hi))
    · by_cases hcc : c' = c
      · subst hcc; exact ⟨_, hc'⟩
      · obtain ⟨w2, z2⟩ := I.cell y c' e
        exact ⟨w2, z2.sameBut hs hcc⟩
    · obtain ⟨e, n, ne, nf, d⟩ := I.pin p hp
      refine ⟨(hs.2 p.1 ?_).trans e, n, ne, nf, d⟩
      intro q
      rw [q, hoc] at e
      have q' : oc = p.2 := Option.some.inj e
      exact d w' (by rw [← q']; exact hocd)
theorem store_ok {M : Model} {A : Around} {E : Value → Shared → Prop} {i : Nat} {x : Str} {v : V} {u : Value} {Q : Unit → Shared → Prop} (I : Inv X pins σ H s) (hN : X.N.Nodup) (hi : X.N[i]? = some x) (hx : Loc X.env.scope x) (r : RelV v u)
    (h : ∀ s', Inv X pins (σ.set i (some v)) H s' → Q () s') (hf : X.fn x = true ∨ X.env.scope.names.lookup x = some .local := by first | exact .inl rfl | exact .inr rfl | assumption) : wpAny M A (storeName X.env x u) Q E s :=
  store_ok2 I hN hi hx r (fun s' I' _ => h s' I') hf
theorem Inv.call' {s' : Shared} {ch : List Addr} (I : Inv X pins σ H s) (ho : s'.os = s.os) (u : Un (frs X.stack) ch H H' s.heap s'.heap) (hok : HOk X.prog X.w H' s'.heap) (hg : AllBare s'.gens)
    (hch : ∀ b ∈ ch, (b ∈ X.ex ∨ X.s₀.heap.objs.size ≤ b) ∧ b ≠ X.env.locals ∧ (∀ x c, X.env.cells.lookup x = some c → c ≠ b) ∧ ∀ p ∈ X.pn ++ pins, p.1 ≠ b) : Inv X pins σ H' s' := by
  obtain ⟨h', g', d', t', o'⟩ := s'
  have e : o' = s.os := ho
  subst e
  exact I.call (g' := g') (t' := t') (d' := d') u hok hg hch
end
abbrev XK := Value → Option Addr → Hp → Prop
abbrev St := List (Option V)
abbrev VK := V → Hp → Prop
abbrev TE := St → Hp → VK → Prop
abbrev TT := St → Hp → (Bool → Hp → Prop) → Prop
abbrev TA := St → Hp → (List V → Hp → Prop) → Prop
structure Ends where
  nx : St → Hp → Prop
  rt : VK
  bk : St → Hp → Prop := fun _ _ => False
  ct : St → Hp → Prop := fun _ _ => False
abbrev Ends.to (D : Ends) (c : St → Hp → Prop) : Ends := { D with nx := c }
abbrev Ends.loop (D : Ends) (N : St → Hp → Prop) : Ends := { D with nx := N, ct := N, bk := D.nx }
abbrev Ends.fin (Q : VK) : Ends := { nx := (fun _ H' => Q .non H'), rt := Q }
abbrev TS := Ends → St → Hp → Prop
def EP (X : Cx) (pins : List (Addr × Obj)) (σ : St) (Q : VK) (u : Value) (s' : Shared) : Prop := ∃ v H', Inv X pins σ H' s' ∧ RelV v u ∧ Q v H'
def TP (X : Cx) (pins : List (Addr × Obj)) (σ : St) (Q : Bool → Hp → Prop) (b : Bool) (s' : Shared) : Prop := ∃ H', Inv X pins σ H' s' ∧ Q b H'
def AP (X : Cx) (pins : List (Addr × Obj)) (σ : St) (Q : List V → Hp → Prop) (us : List Value) (s' : Shared) : Prop := ∃ vs H', Inv X pins σ H' s' ∧ Vals vs us ∧ Q vs H'
def SP (X : Cx) (pins : List (Addr × Obj)) (D : Ends) (f : Flow) (s' : Shared) : Prop :=
  match f with
  | .next => ∃ σ' H', Inv X pins σ' H' s' ∧ D.nx σ' H'
  | .brk => ∃ σ' H', Inv X pins σ' H' s' ∧ D.bk σ' H'
  | .cont => ∃ σ' H', Inv X pins σ' H' s' ∧ D.ct σ' H'
  | .ret u => ∃ v σ' H', Inv X pins σ' H' s' ∧ RelV v u ∧ D.rt v H'
def PE (X : Cx) (e : Expr) (t : TE) : Prop :=
  ∀ (pins : List (Addr × Obj)) (s : Shared) (σ : St) (H : Hp) (Q : VK), Inv X pins σ H s → t σ H Q → wpAny (model X.prog X.w) X.A (eval e X.env) (EP X pins σ Q) X.xe s
def PT (X : Cx) (e : Expr) (t : TT) : Prop :=
  ∀ (pins : List (Addr × Obj)) (s : Shared) (σ : St) (H : Hp) (Q : Bool → Hp → Prop), Inv X pins σ H s → t σ H Q → wpAny (model X.prog X.w) X.A (isTrue e X.env (eval e X.env)) (TP X pins σ Q) X.xe s
def PW (X : Cx) (e : Expr) (t : TT) : Prop :=
  ∀ (whole : Sem Value) (pins : List (Addr × Obj)) (s : Shared) (σ : St) (H : Hp) (Q : Bool → Hp → Prop), Inv X pins σ H s → t σ H Q → wpAny (model X.prog X.w) X.A (isTrue e X.env whole) (TP X pins σ Q) X.xe s
theorem PW.pt {X : Cx} {e : Expr} {t : TT} (h : PW X e t) : PT X e t := h _
def PA (X : Cx) (es : List Expr) (t : TA) : Prop :=
  ∀ (pos : Pos) (pins : List (Addr × Obj)) (s : Shared) (σ : St) (H : Hp) (Q : List V → Hp → Prop), Inv X pins σ H s → t σ H Q → wpAny (model X.prog X.w) X.A (spliced (backTo pos (starEach es X.env))) (AP X pins σ Q) X.xe s
def PS (X : Cx) (st : Stmt) (t : TS) : Prop :=
  ∀ (pins : List (Addr × Obj)) (s : Shared) (σ : St) (H : Hp) (D : Ends), Inv X pins σ H s → t D σ H → wpAny (model X.prog X.w) X.A (exec st X.env) (SP X pins D) X.xe s
def PSs (X : Cx) (st : List Stmt) (t : TS) : Prop :=
  ∀ (pins : List (Addr × Obj)) (s : Shared) (σ : St) (H : Hp) (D : Ends), Inv X pins σ H s → t D σ H → wpAny (model X.prog X.w) X.A (execs st X.env) (SP X pins D) X.xe s
theorem thn {α : Type} {t : Sem α} {Q Q' : α → Shared → Prop} {M : Model} {A : Around} {E : Value → Shared → Prop} {s : Shared} (h : wpAny M A t Q E s) (hQ : ∀ a s, Q a s → Q' a s) : wpAny M A t Q' E s := wpAny_mono h hQ fun _ _ x => x
end L2
namespace L2
open PySem PySem.Spec PyProof.Rows
section
variable {X : Cx}
inductive HasV (o : Option (Option V)) (Q : V → Prop) : Prop
  | mk (v : V) (h : o = some (some v)) (q : Q v)
inductive IsBl (x : V) (Q : Bool → Prop) : Prop
  | mk (c : Bool) (h : x = .bl c) (q : Q c)
inductive IsInt (x : V) (Q : Int → Prop) : Prop
  | mk (i : Int) (h : x = .int i) (q : Q i)
inductive Int2 (x y : V) (Q : Int → Int → Prop) : Prop
  | mk (i j : Int) (h1 : x = .int i) (h2 : y = .int j) (q : Q i j)
inductive Int2C (x y : V) (C : Int → Int → Prop) (Q : Int → Int → Prop) : Prop
  | mk (i j : Int) (h1 : x = .int i) (h2 : y = .int j) (c : C i j) (q : Q i j)
def tVar (i : Nat) : TE := fun σ H Q => HasV σ[i]? fun v => Q v H
def tC (v : V) : TE := fun _ H Q => Q v H
theorem pe_var {i : Nat} {x : Str} {pos : Pos} (hN : X.N[i]? = some x) (hv : Vis X.env.scope x) (hd : (x == ("__debug__" : Str)) = false := by decide) (hcd : (x == ("__classdict__" : Str)) = false := by decide) : PE X (.Name x pos) (tVar i) := by
  intro pins s σ H Q I h
  obtain ⟨v, e, h⟩ := h
  obtain ⟨m, hn, hl⟩ := I.loc
  obtain ⟨u, r, l⟩ := hl i x v hN e hv
  have fin : EP X pins σ Q u s := ⟨v, H, I, r, h⟩
  rcases l with ⟨hk, hm⟩ | ⟨hk, c, hc, hcell⟩
  · exact wpAny_Name (wpAny_loadName_local I.ok.kind hk hn hm fin) hd
  · rcases hk with hk | hk
    · exact wpAny_Name (wpAny_loadName_cell I.ok.kind hk hc hcell fin) hd
    · exact wpAny_Name (wpAny_loadName_free I.ok.kind hk hc hcell fin hcd) hd
theorem pe_int {i j pos} : PE X (.Constant (.int i) j pos) (tC (.int i)) := fun _ _ _ H _ I h => wpAny_Constant_int ⟨.int i, H, I.tok _, ⟨_, rfl⟩, h⟩
theorem pe_bl {b j pos} : PE X (.Constant (.bool b) j pos) (tC (.bl b)) := fun _ _ _ H _ I h => Constant_bool ⟨.bl b, H, I, rfl, h⟩
theorem pe_non {j pos} : PE X (.Constant .none j pos) (tC .non) := fun _ _ _ H _ I h => Constant_none ⟨.non, H, I, rfl, h⟩
theorem pe_str {x j pos} : PE X (.Constant (.str x) j pos) (tC (.str x)) := fun _ _ _ H _ I h => Calls.Constant_str ⟨.str x, H, I.tok _, ⟨_, rfl⟩, h⟩
def Gl (X : Cx) (x : Str) : Prop := X.env.kindOf x = some .globalImplicit
theorem ld_glob {E : Value → Shared → Prop} {pins : List (Addr × Obj)} {s : Shared} {σ : St} {H : Hp} {x : Str} {u : Value} {pos : Pos} {Q : Value → Shared → Prop} (I : Inv X pins σ H s) (hg : Gl X x) (hm : X.mg x = some u) (h : Q u s)
    (hd : (x == ("__debug__" : Str)) = false := by decide) : wpAny (model X.prog X.w) X.A (eval (.Name x pos) X.env) Q E s :=
  Calls.Name_function_global I.ok.kind hg (Calls.loadGlobal_global (by rw [I.ok.glob]; exact I.mod.glob.keeps I.bk) hm h) hd
theorem ld_blt {E : Value → Shared → Prop} {pins : List (Addr × Obj)} {s : Shared} {σ : St} {H : Hp} {x : Str} {u : Value} {pos : Pos} {Q : Value → Shared → Prop} (I : Inv X pins σ H s) (hg : Gl X x) (hm : X.mg x = none) (hv : bootBuiltins x = some u) (h : Q u s)
    (hn : x ≠ "__name__" := by decide) (hd : (x == ("__debug__" : Str)) = false := by decide) : wpAny (model X.prog X.w) X.A (eval (.Name x pos) X.env) Q E s := by
  obtain ⟨mb, h1, h2⟩ := I.mod.blt
  exact Calls.Name_function_global I.ok.kind hg (Calls.loadGlobal_builtin (by rw [I.ok.glob]; exact I.mod.glob.keeps I.bk) hm (by rw [I.ok.blt]; exact h1.keeps I.bk) ((h2 x hn).trans hv) h) hd
theorem pe_glob {x : Str} {v : V} {u : Value} {pos : Pos} (hg : Gl X x) (hm : X.mg x = some u) (r : RelV v u) (hd : (x == ("__debug__" : Str)) = false := by decide) : PE X (.Name x pos) (tC v) :=
  fun _ _ _ H _ I h => ld_glob I hg hm ⟨v, H, I, r, h⟩ hd
theorem pe_bltn {x : Str} {v : V} {u : Value} {pos : Pos} (hg : Gl X x) (hm : X.mg x = none) (hv : bootBuiltins x = some u) (r : RelV v u) (hn : x ≠ "__name__" := by decide) (hd : (x == ("__debug__" : Str)) = false := by decide) : PE X (.Name x pos) (tC v) :=
  fun _ _ _ H _ I h => ld_blt I hg hm hv ⟨v, H, I, r, h⟩ hn hd
variable {a b : Expr} {ta tb : TE} {pos : Pos}
def PC (X : Cx) (op : CmpOp) (a b : Expr) (t : TE) : Prop :=
  ∀ (pins : List (Addr × Obj)) (s : Shared) (σ : St) (H : Hp) (Q : VK), Inv X pins σ H s → t σ H Q →
    wpAny (model X.prog X.w) X.A (eval a X.env) (fun v s₁ => wpAny (model X.prog X.w) X.A (eval b X.env) (fun u s₂ => wpAny (model X.prog X.w) X.A (compareOp op v u) (EP X pins σ Q) X.xe s₂) X.xe s₁) X.xe s
theorem nobehind (b : Expr) {op : CmpOp} (h : op ≠ .In) (h2 : op ≠ .NotIn) : behindInMarks op b = false := by
  have e1 : (op == CmpOp.In) = false := by cases op <;> first | rfl | exact absurd rfl h
  have e2 : (op == CmpOp.NotIn) = false := by cases op <;> first | rfl | exact absurd rfl h2
  cases b <;> simp [behindInMarks, e1, e2]
def tIsN (ta : TE) : TE := fun σ H Q => ta σ H fun x H1 => Q (.bl (decide (x = .non))) H1
def tNotN (ta : TE) : TE := fun σ H Q => ta σ H fun x H1 => Q (.bl (!decide (x = .non))) H1
theorem RelV.none_iff {x : V} {v : Value} (r : RelV x v) : (v == Value.none) = decide (x = .non) := by
  cases x with
  | non => cases r; rfl
  | bl _ => cases r; rfl
  | int _ => obtain ⟨t, rfl⟩ := r; rfl
  | str _ => obtain ⟨t, rfl⟩ := r; rfl
  | byt _ => obtain ⟨t, rfl⟩ := r; rfl
  | flt _ => obtain ⟨t, rfl⟩ := r; rfl
  | ref _ => cases r; rfl
  | ty _ => cases r; rfl
theorem pc_isN {j pos'} (ha : PE X a ta) : PC X .Is a (.Constant .none j pos') (tIsN ta) := by
  intro pins s σ H Q I h
  refine thn (ha pins s σ H _ I h) fun v s1 ⟨x, H1, I1, r1, q1⟩ => ?_
  exact Constant_none (is_none_gen ⟨.bl _, H1, I1, by rw [r1.none_iff]; rfl, q1⟩)
theorem pc_notN {j pos'} (ha : PE X a ta) : PC X .IsNot a (.Constant .none j pos') (tNotN ta) := by
  intro pins s σ H Q I h
  refine thn (ha pins s σ H _ I h) fun v s1 ⟨x, H1, I1, r1, q1⟩ => ?_
  exact Constant_none (isnot_none_gen ⟨.bl _, H1, I1, by rw [r1.none_iff]; rfl, q1⟩)
def tB (t : TE) : TT := fun σ H Q => t σ H fun x H1 => IsBl x fun c => Q c H1
theorem pt_cmp {op : CmpOp} {t : TE} (h : PC X op a b t) (h1 : behindInMarks op b = false := by first | exact nobehind _ (by decide) (by decide) | rfl) : PT X (.Compare a [op] [b] pos) (tB t) := by
  intro pins s σ H Q I hw
  refine wpAny_isTrue_Compare1 (thn (h pins s σ H _ I hw) fun v s1 h1 => thn h1 fun u s2 h2 => thn h2 fun c s3 ⟨x, H1, I1, r1, q1⟩ => ?_) h1
  obtain ⟨d, rfl, q⟩ := q1
  cases r1
  exact wpAny_truthy_bool ⟨H1, I1, q⟩
theorem pt_val {e : Expr} {t : TE} (h : PE X e t) (he : ∀ whole, isTrue e X.env whole = (do let v ← whole; standAt e.pos; holding [v] (truthy v)) := by intro _; rfl) : PT X e (tB t) := by
  intro pins s σ H Q I hw
  refine isTrue_plain (thn (h pins s σ H _ I hw) fun v s1 ⟨x, H1, I1, r1, q1⟩ => ?_) (he _)
  obtain ⟨d, rfl, q⟩ := q1
  cases r1
  exact wpAny_truthy_bool ⟨H1, I1, q⟩
variable {tA tB' : TT} {rest : List Expr}
def tAnd (t u : TT) : TT := fun σ H Q => t σ H fun c H1 => if c = true then u σ H1 Q else Q false H1
def tOr (t u : TT) : TT := fun σ H Q => t σ H fun c H1 => if c = true then Q true H1 else u σ H1 Q
def tNot (t : TT) : TT := fun σ H Q => t σ H fun c H1 => Q (!c) H1
theorem pw_and1 (ha : PT X a tA) : PW X (.BoolOp .And [a] pos) tA := by
  intro wh pins s σ H Q I h
  refine isTrue_and (thn (ha pins s σ H Q I h) fun c s1 e => ?_)
  cases c with
  | true => exact isTrue_and_nil e
  | false => exact e
theorem pw_or1 (ha : PT X a tA) : PW X (.BoolOp .Or [a] pos) tA := by
  intro wh pins s σ H Q I h
  refine isTrue_or (thn (ha pins s σ H Q I h) fun c s1 e => ?_)
  cases c with
  | false => exact isTrue_or_nil e
  | true => exact e
theorem pw_and (ha : PT X a tA) (hb : PW X (.BoolOp .And (b :: rest) pos) tB') : PW X (.BoolOp .And (a :: b :: rest) pos) (tAnd tA tB') := by
  intro wh pins s σ H Q I h
  refine isTrue_and (thn (ha pins s σ H _ I h) fun c s1 ⟨H1, I1, q1⟩ => ?_)
  cases c with
  | true => exact hb wh pins s1 σ H1 Q I1 q1
  | false => exact ⟨H1, I1, q1⟩
theorem pw_or (ha : PT X a tA) (hb : PW X (.BoolOp .Or (b :: rest) pos) tB') : PW X (.BoolOp .Or (a :: b :: rest) pos) (tOr tA tB') := by
  intro wh pins s σ H Q I h
  refine isTrue_or (thn (ha pins s σ H _ I h) fun c s1 ⟨H1, I1, q1⟩ => ?_)
  cases c with
  | true => exact ⟨H1, I1, q1⟩
  | false => exact hb wh pins s1 σ H1 Q I1 q1
theorem pt_not (ha : PT X a tA) : PT X (.UnaryOp .Not a pos) (tNot tA) := by
  intro pins s σ H Q I h
  exact isTrue_not (ha pins s σ H (fun c H1 => Q (!c) H1) I h)
def tAndV (ta tb : TE) : TE := fun σ H Q => ta σ H fun x H1 => ∃ c, x = .bl c ∧ if c = true then tb σ H1 Q else Q (.bl false) H1
def tNotV (ta : TE) : TE := fun σ H Q => ta σ H fun x H1 => ∃ c, x = .bl c ∧ Q (.bl (!c)) H1
theorem pe_one {op} {t : TE} (h : PE X a t) : PE X (.BoolOp op [a] pos) t := fun pins s σ H Q I hw => BoolOp_one (h pins s σ H Q I hw)
theorem pe_and (ha : PE X a ta) (hb : PE X (.BoolOp .And (b :: rest) pos) tb) : PE X (.BoolOp .And (a :: b :: rest) pos) (tAndV ta tb) := by
  intro pins s σ H Q I h
  refine BoolOp_and (thn (ha pins s σ H _ I h) fun v s1 ⟨x, H1, I1, r1, q1⟩ => ?_)
  obtain ⟨c, rfl, q1⟩ := q1
  cases r1
  refine wpAny_truthy_bool ?_
  cases c with
  | true => exact hb pins s1 σ H1 Q I1 q1
  | false => exact ⟨.bl false, H1, I1, rfl, q1⟩
theorem pe_not (ha : PE X a ta) : PE X (.UnaryOp .Not a pos) (tNotV ta) := by
  intro pins s σ H Q I h
  refine UnaryOp_ (thn (ha pins s σ H _ I h) fun v s1 ⟨x, H1, I1, r1, q1⟩ => ?_)
  obtain ⟨c, rfl, q1⟩ := q1
  cases r1
  exact not_of (wpAny_truthy_bool ⟨.bl (!c), H1, I1, rfl, q1⟩)
end
end L2
namespace L2
open PySem PySem.Spec PyProof.Rows
def SqL (K : PySem.W.Frag) (H : Hp) (a : Addr) (xs : List V) : Prop :=
  Rd H a (.lst xs) ∨
    ∃ (o : Obj) (its : Array Value) (n : Nat), K.lookup a = some o ∧ o.cls = .type "list" ∧ o.dict = none ∧ o.data = .seq its n ∧ its.size ≤ sizeLine ∧ Vals xs its.toList
def SqT (K : PySem.W.Frag) (H : Hp) (a : Addr) (xs : List V) : Prop :=
  Rd H a (.tup xs) ∨
    ∃ (o : Obj) (its : Array Value) (n : Nat), K.lookup a = some o ∧ o.cls = .type "tuple" ∧ o.data = .seq its n ∧ its.size ≤ sizeLine ∧ Vals xs its.toList
def absV : Value → Option V
  | .none => some .non
  | .bool b => some (.bl b)
  | .int i _ => some (.int i)
  | .str x _ => some (.str x)
  | .bytes b _ => some (.byt b)
  | .float b _ => some (.flt b)
  | .ref a => some (.ref a)
  | .type n => some (.ty n)
  | _ => none
theorem RelV.abs {x : V} {u : Value} (r : RelV x u) : absV u = some x := by
  cases x with
  | non => cases r; rfl
  | bl _ => cases r; rfl
  | int _ => obtain ⟨t, rfl⟩ := r; rfl
  | str _ => obtain ⟨t, rfl⟩ := r; rfl
  | byt _ => obtain ⟨t, rfl⟩ := r; rfl
  | flt _ => obtain ⟨t, rfl⟩ := r; rfl
  | ref _ => cases r; rfl
  | ty _ => cases r; rfl
theorem RelV.inj {x y : V} {u : Value} (r : RelV x u) (q : RelV y u) : x = y := Option.some.inj (r.abs.symm.trans q.abs)
theorem Vals.inj : ∀ {xs ys : List V} {us : List Value}, Vals xs us → Vals ys us → xs = ys
  | _, _, _, .nil, .nil => rfl
  | _, _, _, .cons r t, .cons r' t' => by rw [r.inj r', Vals.inj t t']
section
variable {X : Cx} {pins : List (Addr × Obj)} {σ : St} {H : Hp} {s : Shared} {a : Addr} {xs ys : List V}
theorem SqL.of {K : PySem.W.Frag} (h : H a = some (.lst xs)) : SqL K H a xs := .inl (.inl h)
theorem SqT.of {K : PySem.W.Frag} (h : H a = some (.tup xs)) : SqT K H a xs := .inl (.inl h)
theorem Inv.list (I : Inv X pins σ H s) (h : SqL X.K H a xs) : ∃ its : List Value, Vals xs its ∧ PlainL s.heap a its.toArray ∧ xs.length ≤ sizeLine := by
  rcases h with h | ⟨o, its, n, hk, hc, hd, hs, hz, r⟩
  · obtain ⟨z, its, n, r, e⟩ := h.ok I.hok
    exact ⟨its, r, ⟨_, n, e, rfl, rfl, rfl⟩, z⟩
  · refine ⟨its.toList, r, ⟨o, n, I.kIn a o hk, hc, hd, by simpa using hs⟩, ?_⟩
    have e := r.length
    simp only [Array.length_toList] at e
    omega
theorem Inv.tuple (I : Inv X pins σ H s) (h : SqT X.K H a xs) : ∃ its : List Value, Vals xs its ∧ IsTup s.heap a its.toArray ∧ xs.length ≤ sizeLine := by
  rcases h with h | ⟨o, its, n, hk, hc, hs, hz, r⟩
  · obtain ⟨z, its, r, p⟩ := h.ok I.hok
    exact ⟨its, r, p, z⟩
  · refine ⟨its.toList, r, ⟨o, I.kIn a o hk, hc, n, by simpa using hs⟩, ?_⟩
    have e := r.length
    simp only [Array.length_toList] at e
    omega
theorem Inv.list_inj (I : Inv X pins σ H s) (h : SqL X.K H a xs) (h' : SqL X.K H a ys) : xs = ys := by
  obtain ⟨its, r, ⟨o, n, e, _, _, d⟩, _⟩ := I.list h
  obtain ⟨its', r', ⟨o', n', e', _, _, d'⟩, _⟩ := I.list h'
  rw [e] at e'; cases e'
  rw [d] at d'
  injection d' with d1 _
  have : its = its' := by simpa using congrArg Array.toList d1
  subst this
  exact r.inj r'
end
section
variable {X : Cx} {pins : List (Addr × Obj)} {σ : St} {H : Hp} {s : Shared}
theorem Inv.fixed {a : Addr} {o : Obj} (I : Inv X pins σ H s) (f : Fixed X a o) : s.heap.get? a = some o ∧ H a = none ∧ a ≠ X.env.locals ∧ a ∉ X.fs ∧ a ∉ frs X.stack := by
  have st : a ≠ X.env.locals → a ∉ X.fs → a ∉ frs X.stack := fun n2 n3 z => by
    rcases I.ok.stk with k | ⟨k, kf⟩
    · rw [k] at z; exact n3 z
    · rw [k] at z
      have z : a ∈ (X.env :: X.outer).filterMap (·.frame) := z
      rw [List.filterMap_cons, kf] at z
      rcases List.mem_cons.mp z with z | z
      · exact n2 z
      · exact n3 z
  rcases f with f | ⟨f1, f2, f3, f4⟩
  · obtain ⟨p1, p2, p3, p4, _⟩ := I.pin (a, o) (List.mem_append_left _ f)
    exact ⟨p1, p2, p3, p4, st p3 p4⟩
  · have n2 : a ≠ X.env.locals := Nat.ne_of_lt (Nat.lt_of_lt_of_le (Heap.lt_size f1) I.ok.above)
    exact ⟨I.base.keep a o f1 f2 f3 f4, I.base.free a o f1 f2 f4, n2, f3, st n2 f3⟩
theorem Inv.hdl (I : Inv X pins σ H s) : Hd X.A s.heap := by
  rcases I.ok.hq with h | ⟨e, C, h, nd, l⟩
  · exact .inl h
  · refine .inr ⟨e, C, h, nd, fun i a q => ?_⟩
    obtain ⟨o, K, vs, f, r⟩ := l i a q
    exact ⟨o, K, vs, (I.fixed f).1, r⟩
theorem Inv.hde (I : Inv X pins σ H s) : HdE X.A X.stack s H := by
  rcases I.ok.hq with h | ⟨e, C, h, nd, l⟩
  · exact .inl h
  · refine .inr ⟨e, C, h, ⟨nd, fun i a q => ?_⟩, fun a ha => ?_⟩
    · obtain ⟨o, K, vs, f, r⟩ := l i a q
      exact ⟨o, K, vs, (I.fixed f).1, r⟩
    · obtain ⟨i, q⟩ := List.getElem?_of_mem ha
      obtain ⟨o, K, vs, f, _⟩ := l i a q
      exact ⟨(I.fixed f).2.1, (I.fixed f).2.2.2.2⟩
end
abbrev Cx.wish (X : Cx) (E : Value → Shared → Prop) : Cx := { X with xe := E }
abbrev Cx.nox (X : Cx) : Cx := X.wish fun _ _ => False
theorem Cx.Ok.wish {X : Cx} (ok : X.Ok) (E : Value → Shared → Prop) : (X.wish E).Ok :=
  ⟨ok.mod, ok.kind, ok.glob, ok.blt, ok.above, ok.inj, ok.has, ok.cab, ok.hd, ok.hq, ok.frames, ok.stk, ok.exf, ok.bs, ok.bsz, ok.noex, ok.exfs, ok.funs, ok.frf⟩
theorem Cx.Ok.unwish {X : Cx} {E : Value → Shared → Prop} (ok : (X.wish E).Ok) : X.Ok :=
  ⟨ok.mod, ok.kind, ok.glob, ok.blt, ok.above, ok.inj, ok.has, ok.cab, ok.hd, ok.hq, ok.frames, ok.stk, ok.exf, ok.bs, ok.bsz, ok.noex, ok.exfs, ok.funs, ok.frf⟩
section
variable {X : Cx} {pins : List (Addr × Obj)} {σ : St} {H : Hp} {s : Shared} {E : Value → Shared → Prop}
theorem Inv.wish (I : Inv X pins σ H s) (E : Value → Shared → Prop) : Inv (X.wish E) pins σ H s := ⟨I.ok.wish E, I.os, I.bare, I.base, I.loc, I.cell, I.free, I.freeC, I.pin, I.hok, I.len⟩
theorem Inv.unwish (I : Inv (X.wish E) pins σ H s) : Inv X pins σ H s := ⟨I.ok.unwish, I.os, I.bare, I.base, I.loc, I.cell, I.free, I.freeC, I.pin, I.hok, I.len⟩
theorem SP.unwish {D : Ends} {f : Flow} {s' : Shared} (h : SP (X.wish E) pins D f s') : SP X pins D f s' := by
  cases f with
  | next => obtain ⟨σ', H', I, q⟩ := h; exact ⟨σ', H', I.unwish, q⟩
  | brk => obtain ⟨σ', H', I, q⟩ := h; exact ⟨σ', H', I.unwish, q⟩
  | cont => obtain ⟨σ', H', I, q⟩ := h; exact ⟨σ', H', I.unwish, q⟩
  | ret u => obtain ⟨v, σ', H', I, r, q⟩ := h; exact ⟨v, σ', H', I.unwish, r, q⟩
theorem PSs.nox {st : List Stmt} {t : TS} (h : PSs X.nox st t) : PSs X st t := fun pins s σ H D I hw =>
  wpAny_mono (h pins s σ H D (I.wish _) hw) (fun _ _ q => q.unwish) fun _ _ z => False.elim z
end
section
variable {X : Cx} {st : Stmt} {rest : List Stmt} {t u : TS} {e : Expr} {te : TE} {pos : Pos}
def tNext : TS := fun D σ H => D.nx σ H
def tSeq (t u : TS) : TS := fun D σ H => t (D.to (u D)) σ H
theorem pss_nil : PSs X [] tNext := fun _ _ σ H _ I h => wpAny_execs_nil ⟨σ, H, I, h⟩
theorem pss_cons (h1 : PS X st t) (h2 : PSs X rest u) : PSs X (st :: rest) (tSeq t u) := by
  intro pins s σ H D I h
  refine wpAny_execs_cons (thn (h1 pins s σ H (D.to (u D)) I h) fun f s1 q => ?_)
  cases f with
  | next =>
    obtain ⟨σ', H', I', q⟩ := q
    exact h2 pins s1 σ' H' D I' q
  | ret v => exact q
  | brk => exact q
  | cont => exact q
theorem pss_one (h1 : PS X st t) : PSs X [st] t := by
  intro pins s σ H D I h
  refine wpAny_execs_cons (thn (h1 pins s σ H D I h) fun f s1 q => ?_)
  cases f with
  | next => exact wpAny_execs_nil q
  | ret v => exact q
  | brk => exact q
  | cont => exact q
theorem Inv.quiet {pins : List (Addr × Obj)} {σ : St} {H : Hp} {s : Shared} (I : Inv X pins σ H s) : interactive X.env = false := by simp [interactive, I.ok.kind]
def tDrop (te : TE) : TS := fun D σ H => te σ H fun _ H1 => D.nx σ H1
theorem ps_expr (he : PE X e te) (hs : swapsWith e none pos.line X.env = pure false := by rfl) : PS X (.Expr e pos) (tDrop te) := by
  intro pins s σ H D I h
  exact wpAny_Expr_any (thn (he pins s σ H _ I h) fun v s1 ⟨x, H1, I1, r1, q1⟩ => ⟨σ, H1, I1, q1⟩) I.quiet hs
def tRet (te : TE) : TS := fun D σ H => te σ H D.rt
theorem ps_ret (he : PE X e te) : PS X (.Return (some e) pos) (tRet te) := by
  intro pins s σ H D I h
  exact wpAny_Return_some (thn (he pins s σ H _ I h) fun v s1 ⟨x, H1, I1, r1, q1⟩ => ⟨x, σ, H1, I1, r1, q1⟩)
def tIfS (c : TT) (t u : TS) : TS := fun D σ H => c σ H fun b H1 => if b = true then t D σ H1 else u D σ H1
theorem ps_if {c : Expr} {a b : List Stmt} {tc : TT} (hc : PT X c tc) (ha : PSs X a t) (hb : PSs X b u) : PS X (.If c a b pos) (tIfS tc t u) := by
  intro pins s σ H D I h
  refine wpAny_If (thn (hc pins s σ H _ I h) fun d s1 ⟨H1, I1, q1⟩ => ?_)
  cases d with
  | true => exact ha pins s1 σ H1 D I1 q1
  | false => exact hb pins s1 σ H1 D I1 q1
end
abbrev TG := V → St → Hp → (St → Hp → Prop) → Prop
abbrev TGs := List V → St → Hp → (St → Hp → Prop) → Prop
def PG (X : Cx) (target : Expr) (t : TG) : Prop :=
  ∀ (pins : List (Addr × Obj)) (s : Shared) (σ : St) (H : Hp) (v : V) (u : Value) (Q : St → Hp → Prop), Inv X pins σ H s → RelV v u → t v σ H Q →
    wpAny (model X.prog X.w) X.A (assign target X.env u) (fun _ s' => ∃ σ' H', Inv X pins σ' H' s' ∧ Q σ' H') X.xe s
def PGs (X : Cx) (ts : List Expr) (t : TGs) : Prop :=
  ∀ (pins : List (Addr × Obj)) (s : Shared) (σ : St) (H : Hp) (vs : List V) (us : List Value) (Q : St → Hp → Prop), Inv X pins σ H s → Vals vs us → t vs σ H Q →
    wpAny (model X.prog X.w) X.A (assignInOrder ((assignEach ts X.env).map (·.2)) us) (fun _ s' => ∃ σ' H', Inv X pins σ' H' s' ∧ Q σ' H') X.xe s
abbrev TSet := V → V → V → Hp → (Hp → Prop) → Prop
def PSet (X : Cx) (t : TSet) : Prop :=
  ∀ (pins : List (Addr × Obj)) (s : Shared) (σ : St) (H : Hp) (o i v : V) (ov iv u : Value) (Q : Hp → Prop), Inv X pins σ H s → RelV o ov → RelV i iv → RelV v u → t o i v H Q →
    wpAny (model X.prog X.w) X.A (setItem ov iv u) (fun _ s' => ∃ H', Inv X pins σ H' s' ∧ Q H') X.xe s
abbrev TIp := V → V → Hp → VK → Prop
section
variable {X : Cx} {pos : Pos}
def gName (i : Nat) : TG := fun v σ H Q => Q (σ.set i (some v)) H
theorem pg_name {i : Nat} {x : Str} (hN : X.N.Nodup) (hi : X.N[i]? = some x) (hx : Loc X.env.scope x) (hf : X.fn x = true ∨ X.env.scope.names.lookup x = some .local := by first | exact .inl rfl | exact .inr rfl | assumption) : PG X (.Name x pos) (gName i) := by
  intro pins s σ H v u Q I r h
  exact wpAny_assign_Name (store_ok I hN hi hx r (fun s' I' => ⟨_, H, I', h⟩) hf)
structure I_gNil  (vs : List V) (σ : St) (H : Hp) (Q : St → Hp → Prop) : Prop where
  mk :: (q1 : vs = []) (q2 : Q σ H)
def gNil : TGs := fun vs σ H Q => I_gNil  vs σ H Q
inductive I_gCons (t : TG) (u : TGs) (vs : List V) (σ : St) (H : Hp) (Q : St → Hp → Prop) : Prop
  | mk (v : _) (r : _) (q1 : vs = v :: r) (q2 : t v σ H fun σ' H' => u r σ' H' Q)
def gCons (t : TG) (u : TGs) : TGs := fun vs σ H Q => I_gCons t u vs σ H Q
theorem pgs_nil : PGs X [] gNil := by
  intro pins s σ H vs us Q I r h
  obtain ⟨e, h⟩ := h
  subst e
  cases r
  exact assignInOrder_nil ⟨σ, H, I, h⟩
theorem pgs_cons {e : Expr} {es : List Expr} {t : TG} {u : TGs} (h1 : PG X e t) (h2 : PGs X es u)
    (hs : (assignEach (e :: es) X.env).map (·.2) = assign e X.env :: (assignEach es X.env).map (·.2) := by rfl) : PGs X (e :: es) (gCons t u) := by
  intro pins s σ H vs us Q I r h
  obtain ⟨v, vr, e1, h⟩ := h
  subst e1
  cases r with
  | cons r rr =>
    rw [hs]
    refine assignInOrder_cons (thn (h1 pins s σ H _ _ _ I r h) fun _ s1 ⟨σ1, H1, I1, q1⟩ => ?_)
    exact h2 pins s1 σ1 H1 _ _ Q I1 rr q1
inductive Tupd (K : PySem.W.Frag) (H : Hp) (v : V) (n : Nat) (Q : List V → Prop) : Prop
  | mk (a : Addr) (xs : List V) (h : v = .ref a) (s : SqT K H a xs) (l : xs.length = n) (q : Q xs)
def gTup (K : PySem.W.Frag) (n : Nat) (t : TGs) : TG := fun v σ H Q => Tupd K H v n fun xs => t xs σ H Q
theorem pg_tup {es : List Expr} {k : Nat} {t : TGs} {n : Nat} (hc : X.calm = X.calm) (h : PGs X es t)
    (hn : (assignEach es X.env).length = n := by rfl) (hst : (assignEach es X.env).findIdx? (·.1) = none := by rfl) : PG X (.Tuple es k pos) (gTup X.K n t) := by
  intro pins s σ H v u Q I r hw
  obtain ⟨a, xs, e1, hq, hl, hw⟩ := hw
  subst e1
  cases r
  obtain ⟨its, rv, ht, hz⟩ := I.tuple hq
  refine assign_any I.hdl ht (by simp [hn, ← hl, rv.length]) hst fun h' hx => ?_
  have I1 : Inv X pins σ H { s with heap := h' } := I.kept (t' := s.toks) fun b o e => hx b o (Nat.ne_of_lt (Heap.lt_size e)) e
  exact h pins _ σ H xs _ Q I1 (by simpa using rv) hw
def gSub (to ti : TE) (t : TSet) : TG := fun v σ H Q => to σ H fun o H1 => ti σ H1 fun i H2 => t o i v H2 fun H3 => Q σ H3
theorem pg_sub {o i : Expr} {to ti : TE} {t : TSet} (ho : PE X o to) (hi : PE X i ti) (hs : PSet X t)
    (ha : ∀ v, assign (.Subscript o i pos) X.env v = (do
      let ov ← holding [v] (eval o X.env)
      let iv ← holding [v, ov] (eval i X.env)
      standAt pos
      holding [v, ov, iv] (setItem ov iv v)
      release [v, ov, iv] []) := by intro _; rfl) : PG X (.Subscript o i pos) (gSub to ti t) := by
  intro pins s σ H v u Q I r h
  rw [ha]
  refine wpAny_bind (wpAny_holding (thn (ho pins s σ H _ I h) fun ov s1 ⟨x, H1, I1, r1, q1⟩ => ?_))
  refine wpAny_bind (wpAny_holding (thn (hi pins s1 σ H1 _ I1 q1) fun iv s2 ⟨y, H2, I2, r2, q2⟩ => ?_))
  refine wpAny_bind (wpAny_standAt (wpAny_bind (wpAny_holding (thn (hs pins s2 σ H2 x y v ov iv u _ I2 r1 r2 r q2) fun _ s3 ⟨H3, I3, q3⟩ => ?_))))
  exact wpAny_release ⟨σ, H3, I3, q3⟩
def tAsg (te : TE) (g : TG) : TS := fun D σ H => te σ H fun x H1 => g x σ H1 D.nx
theorem ps_asg {tg e : Expr} {te : TE} {g : TG} (he : PE X e te) (hg : PG X tg g) (hs : swapsWithSole [tg] e pos.line X.env = pure false := by rfl) (hw : swappedStores [tg] e X.env = pure none := by rfl)
    (h1 : (assignEach [tg] X.env).map (·.2) = [assign tg X.env] := by rfl) : PS X (.Assign [tg] e pos) (tAsg te g) := by
  intro pins s σ H D I h
  refine wpAny_Assign_stores (thn (he pins s σ H _ I h) fun v s1 ⟨x, H1, I1, r1, q1⟩ => ?_) hs hw
  rw [h1]
  exact thn (hg pins s1 σ H1 x v _ I1 r1 q1) fun _ s2 q => q
theorem ps_set {i : Nat} {x : Str} {e : Expr} {te : TE} {pos' : Pos} (hN : X.N.Nodup) (hi : X.N[i]? = some x) (hx : Loc X.env.scope x) (he : PE X e te) (hs : swapsWith e (some (.Name x pos')) pos.line X.env = pure false := by rfl) (hf : X.fn x = true ∨ X.env.scope.names.lookup x = some .local := by first | exact .inl rfl | exact .inr rfl | assumption) :
    PS X (.Assign [.Name x pos'] e pos) (tAsg te (gName i)) := by
  intro pins s σ H D I h
  refine wpAny_Assign_Name (thn (he pins s σ H _ I h) fun v s1 ⟨y, H1, I1, r1, q1⟩ => ?_) hs
  exact store_ok I1 hN hi hx r1 (fun s2 I2 => ⟨_, H1, I2, q1⟩) hf
inductive I_tPar (i : Nat) (j : Nat) (D : Ends) (σ : St) (vs : List V) (H1 : Hp) : Prop
  | mk (v : _) (w : _) (q1 : vs = [v, w]) (q2 : D.nx ((σ.set i (some v)).set j (some w)) H1)
inductive I_tAug (i : Nat) (te : TE) (ti : TIp) (D : Ends) (σ : St) (H : Hp) : Prop
  | mk (x : _) (q1 : σ[i]? = some (some x)) (q2 : te σ H fun y H1 => ti x y H1 fun z H2 => D.nx (σ.set i (some z)) H2)
inductive I_ipI (f : Int → Int → Int) (x : V) (y : V) (H : Hp) (Q : VK) : Prop
  | mk (i : _) (j : _) (q1 : x = .int i) (q2 : y = .int j) (q3 : Q (.int (f i j)) H)
end
section
variable {X : Cx} {pos : Pos}
def tWhile (c : TT) (tb : TS) : TS := fun D σ H => ∃ W : Nat → St → Hp → Prop, (∃ m, W m σ H) ∧ ∀ m σ H, W m σ H →
  c σ H fun b H1 => if b = true then ∃ N : St → Hp → Prop, (∀ σ' H', N σ' H' → ∃ m', m' < m ∧ W m' σ' H') ∧ tb (D.loop N) σ H1 else D.nx σ H1
theorem ps_while {c : Expr} {body : List Stmt} {tc : TT} {tb : TS} (hp : PassesOwn (model X.prog X.w) X.A X.env X.xe) (hc : PT X c tc) (hb : PSs X body tb) : PS X (.While c body [] pos) (tWhile tc tb) := by
  intro pins s σ H D I h
  obtain ⟨W, ⟨m0, w0⟩, turn⟩ := h
  refine wpAny_While (codeAny_whileLoop (fun n s' => ∃ σ' H', Inv X pins σ' H' s' ∧ W n σ' H') ?_ m0 ⟨σ, H, I, w0⟩)
  rintro n s1 ⟨σ1, H1, I1, w1⟩
  refine wpAny_passesOwn hp (thn (hc pins s1 σ1 H1 _ I1 (turn n σ1 H1 w1)) fun b s2 ⟨H2, I2, q2⟩ => ?_)
  cases b with
  | true =>
    obtain ⟨N, hN, q2⟩ := q2
    rw [if_pos rfl]
    refine wpAny_passesOwn hp (thn (hb pins s2 σ1 H2 _ I2 q2) fun f s3 q3 => ?_)
    cases f with
    | next =>
      obtain ⟨σ3, H3, I3, n3⟩ := q3
      obtain ⟨m', hm, w3⟩ := hN σ3 H3 n3
      exact ⟨m', hm, σ3, H3, I3, w3⟩
    | cont =>
      obtain ⟨σ3, H3, I3, n3⟩ := q3
      obtain ⟨m', hm, w3⟩ := hN σ3 H3 n3
      exact ⟨m', hm, σ3, H3, I3, w3⟩
    | brk => exact q3
    | ret v => exact q3
  | false =>
    rw [if_neg Bool.false_ne_true]
    exact wpAny_execs_nil ⟨σ1, H2, I2, q2⟩
end
structure It where
  go : Nat → Hp → Prop
  yld : Nat → Hp → V → Hp → Prop
  stop : Nat → Hp → Prop
def FpOk (X : Cx) (pins : List (Addr × Obj)) (H : Hp) (b : Addr) : Prop :=
  H b = none ∧ b ≠ X.env.locals ∧ b ∉ X.fs ∧ (b ∈ X.ex ∨ X.s₀.heap.objs.size ≤ b) ∧ (∀ x c, X.env.cells.lookup x = some c → c ≠ b) ∧ ∀ p ∈ X.pn ++ pins, p.1 ≠ b
theorem Inv.fpOk {X : Cx} {pins : List (Addr × Obj)} {σ : St} {H H' : Hp} {s : Shared} {b : Addr} (I : Inv X pins σ H s) (hb : s.heap.objs.size ≤ b) (hn : H' b = none) : FpOk X pins H' b := by
  refine ⟨hn, Nat.ne_of_gt (Nat.lt_of_lt_of_le I.lt hb), I.nofs hb, .inr (Nat.le_trans I.sz hb), fun x c e z => ?_, fun p hp z => ?_⟩
  · obtain ⟨v, q⟩ := I.cell x c e
    exact absurd (Nat.lt_of_lt_of_le q.lt (by rw [z]; exact hb)) (Nat.lt_irrefl _)
  · exact absurd (Nat.lt_of_lt_of_le (Heap.lt_size (I.pin p hp).1) (by rw [z]; exact hb)) (Nat.lt_irrefl _)
structure Turn (P : Program) (w : World) (K : PySem.W.Frag) (tg : Expr) (J : It) (fp : List Addr) (it : Addr) (tn : Nat → Heap → Prop) : Prop where
  mem : it ∈ fp
  obj : ∀ i h, tn i h → ∀ b ∈ fp, ∃ o, h.get? b = some o ∧ ∀ v, o.data ≠ .cell v
  keep : ∀ i h h', tn i h → (∀ b ∈ fp, ∀ o, h.get? b = some o → h'.get? b = some o) → tn i h'
  item : ∀ (X : Cx), X.prog = P → X.w = w → X.K = K → X.calm = X.calm → ∀ (i : Nat) (pins : List (Addr × Obj)) (s : Shared) (σ : St) (H : Hp) (E : Value → Shared → Prop), Inv X pins σ H s → (∀ b ∈ fp, FpOk X pins H b) → tn i s.heap → J.go i H →
    wpAny (model P w) X.A (pyNext (.ref it)) (fun r s1 => ∃ u, r = some u ∧
      wpAny (model P w) X.A (letOwnedTupleGo tg (.ref it) u) (fun _ s2 => ∃ x H', Inv X pins σ H' s2 ∧ RelV x u ∧ J.yld i H x H' ∧ tn (i + 1) s2.heap ∧ ∀ b ∈ fp, H' b = none) E s1) E s
  done : ∀ (X : Cx), X.prog = P → X.w = w → X.K = K → X.calm = X.calm → ∀ (i : Nat) (pins : List (Addr × Obj)) (s : Shared) (σ : St) (H : Hp) (E : Value → Shared → Prop), Inv X pins σ H s → (∀ b ∈ fp, FpOk X pins H b) → tn i s.heap → J.stop i H →
    wpAny (model P w) X.A (pyNext (.ref it)) (fun r s1 => r = none ∧ Inv X pins σ H s1) E s
  self : ∀ (A : Around) (i : Nat) (s : Shared) (Q : Value → Shared → Prop) (E : Value → Shared → Prop), tn i s.heap → Q (.ref it) s → wpAny (model P w) A (pyIter (.ref it)) Q E s
abbrev TI := St → Hp → (It → Hp → Prop) → Prop
def PIE (X : Cx) (pins : List (Addr × Obj)) (σ : St) (tg : Expr) (R : It → Hp → Prop) (itv : Value) (s2 : Shared) : Prop :=
  ∃ (it : Addr) (fp : List Addr) (tn : Nat → Heap → Prop) (J : It) (H' : Hp), itv = .ref it ∧ Inv X pins σ H' s2 ∧ Turn X.prog X.w X.K tg J fp it tn ∧ tn 0 s2.heap ∧ (∀ b ∈ fp, FpOk X pins H' b) ∧ R J H'
def PI (X : Cx) (tg iter : Expr) (wi : TI) : Prop :=
  ∀ (pins : List (Addr × Obj)) (s : Shared) (σ : St) (H : Hp) (R : It → Hp → Prop), Inv X pins σ H s → wi σ H R →
    wpAny (model X.prog X.w) X.A (eval iter X.env) (fun v s1 => wpAny (model X.prog X.w) X.A (pyIter v) (PIE X pins σ tg R) X.xe s1) X.xe s
theorem go_of {M : Model} {A : Around} {E : Value → Shared → Prop} {s : Shared} {tg : Expr} {it : Addr} {u : Value} {o : Obj} {n : String} {vs : Array Value} {Q : Unit → Shared → Prop} (ho : s.heap.get? it = some o) (hc : o.cls = .type n) (hd : o.data = .fields vs)
    (hn : ["enumerate", "zip", "dict_itemiterator", "dict_reverseitemiterator", "odict_iterator", "itertools.zip_longest", "itertools.pairwise"].contains n = false) (hQ : Q () s) : wpAny M A (letOwnedTupleGo tg (.ref it) u) Q E s := by
  unfold letOwnedTupleGo
  cases tg <;> first
    | exact wpAny_pure hQ
    | (cases u <;> first
        | exact wpAny_pure hQ
        | (refine wpAny_bind (wpAny_load ho ?_)
           rw [hc, hd]
           show wpAny M A (if (["enumerate", "zip", "dict_itemiterator", "dict_reverseitemiterator", "odict_iterator", "itertools.zip_longest", "itertools.pairwise"].contains n && vs[0]? == some (rawInt _)) = true then _ else _) Q E s
           rw [if_neg (by intro h; rw [hn, Bool.false_and] at h; cases h)]
           exact wpAny_pure hQ))
def Itl (K : PySem.W.Frag) (a : Addr) : It :=
  ⟨fun i H => ∃ xs x, SqL K H a xs ∧ xs[i]? = some x, fun i H x H' => H' = H ∧ ∀ xs, SqL K H a xs → xs[i]? = some x, fun i H => ∃ xs, SqL K H a xs ∧ xs.length ≤ i⟩
def Itt (K : PySem.W.Frag) (a : Addr) : It :=
  ⟨fun i H => ∃ xs x, SqT K H a xs ∧ xs[i]? = some x, fun i H x H' => H' = H ∧ ∀ xs, SqT K H a xs → xs[i]? = some x, fun i H => ∃ xs, SqT K H a xs ∧ xs.length ≤ i⟩
def Itr (lo : Int) (n : Nat) : It := ⟨fun i _ => i < n, fun i H x H' => H' = H ∧ x = .int (lo + i), fun i _ => n ≤ i⟩
theorem turn_list {P : Program} {w : World} {K : PySem.W.Frag} {tg : Expr} (a it : Addr) : Turn P w K tg (Itl K a) [it] it (fun i h => h.IsListIter it a i) where
  mem := by simp
  obj := fun i h st b hb => by
    have e : b = it := by simpa using hb
    subst e
    obtain ⟨o, e, c, d⟩ := st
    exact ⟨o, e, fun v z => by rw [d] at z; cases z⟩
  keep := fun i h h' st k => st.at fun o e => k it (by simp) o e
  item := by
    intro X hP hw hK hc i pins s σ H E I hf st hg
    subst hP hw hK
    obtain ⟨xs, x, hq, hx⟩ := hg
    obtain ⟨its, rv, p, hz⟩ := I.list hq
    obtain ⟨u, hu, ru⟩ := rv.get hx
    obtain ⟨f0, f1, f2, f3, f4, f5⟩ := hf it (by simp)
    refine wpAny_pyNext_list_item st p.isList (x := u) (by simpa using hu) fun h' st' sb => ?_
    have I1 : Inv X pins σ H { s with heap := h' } := I.turned (t' := s.toks) (fun b o hb e => (sb.2 b hb).trans e) f0 f1 f3 f4 f5
    obtain ⟨o, e, c, d⟩ := id st'
    exact ⟨u, rfl, go_of (s := { s with heap := h' }) e c d (by decide) ⟨x, H, I1, ru, ⟨rfl, fun ys hy => by rw [I.list_inj hy hq]; exact hx⟩, st', fun b hb => (hf b hb).1⟩⟩
  done := by
    intro X hP hw hK hc i pins s σ H E I hf st hg
    subst hP hw hK
    obtain ⟨xs, hq, hx⟩ := hg
    obtain ⟨its, rv, p, hz⟩ := I.list hq
    obtain ⟨f0, f1, f2, f3, f4, f5⟩ := hf it (by simp)
    have hl := rv.length
    exact next_list_end I.hdl st p.isList (by simp; omega) fun h' eb => ⟨rfl, I.turned (t' := s.toks) (fun b o hb e => eb b o hb e) f0 f1 f3 f4 f5⟩
  self := fun _ _ _ _ _ st h => wpAny_pyIter_listiter st h
theorem turn_range {P : Program} {w : World} {K : PySem.W.Frag} {tg : Expr} (it : Addr) (lo : Int) (n : Nat) : Turn P w K tg (Itr lo n) [it] it (fun i h => IsRangeIter h it (lo + (i : Nat) * 1) ((n : Int) - (i : Nat)) 1) where
  mem := by simp
  obj := fun i h st b hb => by
    have e : b = it := by simpa using hb
    subst e
    exact ⟨_, st, fun v z => by
      have z' : Data.fields _ = Data.cell v := z
      cases z'⟩
  keep := fun i h h' st k => k it (by simp) _ st
  item := by
    intro X hP hw hK hc i pins s σ H E I hf st hg
    subst hP hw hK
    obtain ⟨f0, f1, f2, f3, f4, f5⟩ := hf it (by simp)
    refine next_range_item i s _ _ hg st fun v h' tk hv st' kk => ?_
    obtain ⟨t, rfl⟩ := hv
    have I1 : Inv X pins σ H { s with heap := h', toks := tk } := I.turned (fun b o hb e => kk b o (by simpa using hb) e) f0 f1 f3 f4 f5
    refine ⟨_, rfl, go_of (s := { s with heap := h', toks := tk }) (n := "range_iterator") st' rfl rfl (by decide) ⟨.int (lo + i), H, I1, ⟨t, ?_⟩, ⟨rfl, rfl⟩, st', fun b hb => (hf b hb).1⟩⟩
    rw [Int.mul_one]
  done := by
    intro X hP hw hK hc i pins s σ H E I hf st hg
    subst hP hw hK
    obtain ⟨f0, f1, f2, f3, f4, f5⟩ := hf it (by simp)
    exact next_range_end I.hdl st (by have : n ≤ i := hg; omega) fun h' eb => ⟨rfl, I.turned (t' := s.toks) (fun b o hb e => eb b o hb e) f0 f1 f3 f4 f5⟩
  self := fun _ _ _ _ _ st h => wpAny_pyIter_rangeiter st h
end L2
namespace L2
open PySem PySem.Spec PyProof.Rows
section
variable {X : Cx} {tg : Expr}
inductive I_iList (K : PySem.W.Frag) (x : V) (H1 : Hp) (R : It → Hp → Prop) : Prop
  | mk (a : _) (q1 : x = .ref a) (q2 : (∃ xs, SqL K H1 a xs)) (q3 : R (Itl K a) H1)
def iList (K : PySem.W.Frag) (tl : TE) : TI := fun σ H R => tl σ H fun x H1 => I_iList K x H1 R
inductive I_iTup (K : PySem.W.Frag) (x : V) (H1 : Hp) (R : It → Hp → Prop) : Prop
  | mk (a : _) (q1 : x = .ref a) (q2 : (∃ xs, SqT K H1 a xs)) (q3 : R (Itt K a) H1)
theorem pi_list {l : Expr} {tl : TE} (hl : PE X l tl) : PI X tg l (iList X.K tl) := by
  intro pins s σ H R I h
  refine thn (hl pins s σ H _ I h) fun v s1 ⟨x, H1, I1, r1, q1⟩ => ?_
  obtain ⟨a, e, ⟨xs, hq⟩, q⟩ := q1
  subst e
  cases r1
  obtain ⟨its, rv, p, hz⟩ := I1.list hq
  refine wpAny_pyIter_list p.isList ?_
  refine ⟨s1.heap.objs.size, [s1.heap.objs.size], _, _, H1, rfl, I1.kept (t' := s1.toks) fun b o e => Heap.get?_push_of_some _ e, turn_list a _, ⟨_, Heap.get?_push_size _ rfl, rfl, rfl⟩, fun b hb => ?_, q⟩
  have e : b = s1.heap.objs.size := by simpa using hb
  subst e
  exact I1.fpOk (Nat.le_refl _) (I1.hok.fresh (Nat.le_refl _))
theorem range_it {pins : List (Addr × Obj)} {σ : St} {H : Hp} {s : Shared} {R : It → Hp → Prop} {E : Value → Shared → Prop} {lo hi : Int} {t u v : Tok} {tk : Nat} (I : Inv X pins σ H s) (h1 : -(2 ^ 62) ≤ lo) (h2 : lo < 2 ^ 62) (h3 : -(2 ^ 62) ≤ hi) (h4 : hi < 2 ^ 62)
    (q : R (Itr lo (hi - lo).toNat) H) : wpAny (model X.prog X.w) X.A (pyIter (.ref s.heap.objs.size)) (PIE X pins σ tg R) E { s with heap := s.heap.push { cls := .type "range", data := .fields #[.int lo t, .int hi u, .int 1 v] }, toks := tk } := by
  refine wpAny_pyIter_range (IsRange.new ..) (small_one h1 h2 h3 h4) ?_
  have I1 : Inv X pins σ H { s with heap := s.heap.push { cls := .type "range", data := .fields #[.int lo t, .int hi u, .int 1 v] }, toks := tk } := I.kept fun b o e => Heap.get?_push_of_some _ e
  refine ⟨(s.heap.push { cls := .type "range", data := .fields #[.int lo t, .int hi u, .int 1 v] }).objs.size, [(s.heap.push { cls := .type "range", data := .fields #[.int lo t, .int hi u, .int 1 v] }).objs.size], _, _, H, rfl,
    I1.kept (t' := tk) fun b o e => Heap.get?_push_of_some _ e, turn_range _ lo (hi - lo).toNat, ?_, fun b hb => ?_, q⟩
  · have e1 : lo + ((0 : Nat) : Int) * 1 = lo := by simp
    have e2 : (((hi - lo).toNat : Nat) : Int) - ((0 : Nat) : Int) = Builtin.Range.rangeSize lo hi 1 := by rw [rangeSize_one]; split <;> omega
    show IsRangeIter _ _ (lo + ((0 : Nat) : Int) * 1) ((((hi - lo).toNat : Nat) : Int) - ((0 : Nat) : Int)) 1
    rw [e1, e2]
    exact Heap.get?_push_size _ rfl
  · have e : b = (s.heap.push { cls := .type "range", data := .fields #[.int lo t, .int hi u, .int 1 v] }).objs.size := by simpa using hb
    subst e
    exact I1.fpOk (Nat.le_refl _) (I1.hok.fresh (Nat.le_refl _))
inductive I_iRng1 (vs : List V) (H1 : Hp) (R : It → Hp → Prop) : Prop
  | mk (j : Int) (q1 : vs = [.int j]) (q2 : -(2 ^ 62) ≤ j) (q3 : j < 2 ^ 62) (q4 : R (Itr 0 j.toNat) H1)
def iRng1 (ta : TA) : TI := fun σ H R => ta σ H fun vs H1 => I_iRng1 vs H1 R
inductive I_iRng2 (vs : List V) (H1 : Hp) (R : It → Hp → Prop) : Prop
  | mk (i j : Int) (q1 : vs = [.int i, .int j]) (q2 : (-(2 ^ 62) ≤ i ∧ i < 2 ^ 62 ∧ -(2 ^ 62) ≤ j ∧ j < 2 ^ 62)) (q3 : R (Itr i (j - i).toNat) H1)
theorem pi_range1 {a : Expr} {ta : TA} {p pos : Pos} (hg : Gl X "range") (hm : X.mg "range" = none) (ha : PA X [a] ta) (hs : starEach [a] X.env = [(false, eval a X.env)] := by rfl) : PI X tg (.Call (.Name "range" p) [a] [] pos) (iRng1 ta) := by
  intro pins s σ H R I h
  refine Call_ (ld_blt I hg hm boot_range (PyProof.Rows.callWith_type1 (thn (ha pos pins s σ H _ I h) fun us s1 ⟨vs, H1, I1, r1, q1⟩ => ?_) hs rfl))
  obtain ⟨j, e, q1, q2, q⟩ := q1
  subst e
  cases r1 with
  | cons r rr =>
    cases rr
    obtain ⟨t, rfl⟩ := r
    exact call_range_1 (range_it I1 (by omega) (by omega) q1 q2 (by simpa using q))
def ForP (J : It) (g : TG) (tb : TS) (D : Ends) (σ : St) (H1 : Hp) : Prop := ∃ W : Nat → Nat → St → Hp → Prop, (∃ m, W 0 m σ H1) ∧ ∀ i m σ H, W i m σ H →
  (J.stop i H ∧ D.nx σ H) ∨ (J.go i H ∧ ∃ N : St → Hp → Prop, (∀ σ' H', N σ' H' → ∃ m', m' < m ∧ W (i + 1) m' σ' H') ∧ ∀ x H', J.yld i H x H' → g x σ H' fun σ2 H2 => tb (D.loop N) σ2 H2)
def tFor (wi : TI) (g : TG) (tb : TS) : TS := fun D σ H => wi σ H fun J H1 => ForP J g tb D σ H1
def pinsAt (fp : List Addr) (h : Heap) : List (Addr × Obj) := fp.filterMap fun b => (h.get? b).map fun o => (b, o)
theorem mem_pinsAt {fp : List Addr} {h : Heap} {b : Addr} {o : Obj} (hb : b ∈ fp) (e : h.get? b = some o) : (b, o) ∈ pinsAt fp h := List.mem_filterMap.mpr ⟨b, hb, by rw [e]; rfl⟩
theorem of_pinsAt {fp : List Addr} {h : Heap} {p : Addr × Obj} (hp : p ∈ pinsAt fp h) : p.1 ∈ fp ∧ h.get? p.1 = some p.2 := by
  obtain ⟨b, hb, e⟩ := List.mem_filterMap.mp hp
  cases q : h.get? b with
  | none => rw [q] at e; cases e
  | some o =>
    rw [q] at e
    have e' : (b, o) = p := Option.some.inj e
    subst e'
    exact ⟨hb, q⟩
theorem Inv.pinned {pins : List (Addr × Obj)} {σ : St} {H : Hp} {s : Shared} {fp : List Addr} (I : Inv X pins σ H s) (hf : ∀ b ∈ fp, FpOk X pins H b) (ho : ∀ b ∈ fp, ∃ o, s.heap.get? b = some o ∧ ∀ v, o.data ≠ .cell v) : Inv X (pins ++ pinsAt fp s.heap) σ H s :=
  I.pins_of fun p hp => (List.mem_append.mp hp).elim (fun z => I.pin p (List.mem_append_right _ z)) fun z => by
    obtain ⟨hb, e⟩ := of_pinsAt z
    obtain ⟨f0, f1, f2, _⟩ := hf p.1 hb
    obtain ⟨o, e', d⟩ := ho p.1 hb
    rw [e] at e'; cases e'
    exact ⟨e, f0, f1, f2, d⟩
theorem Inv.unpinned {pins pl : List (Addr × Obj)} {σ : St} {H : Hp} {s : Shared} (I : Inv X (pins ++ pl) σ H s) : Inv X pins σ H s := I.pins_of fun p hp => I.pin p (List.mem_append_right _ (List.mem_append_left _ hp))
theorem ps_for {iter : Expr} {body : List Stmt} {wi : TI} {g : TG} {tb : TS} {pos : Pos} (hp : PassesOwn (model X.prog X.w) X.A X.env X.xe) (hc : X.calm = X.calm) (hi : PI X tg iter wi) (hg : PG X tg g) (hb : PSs X body tb)
    (hs : ∀ x, foldedSetIterable iter X.env x = pure x := by intro _; rfl) : PS X (.For tg iter body [] pos) (tFor wi g tb) := by
  intro pins s σ H D I h
  refine wpAny_For (thn (hi pins s σ H _ I h) fun v s1 h1 => thn h1 fun itv s2 h2 => ?_) hs
  obtain ⟨it, fp, tn, J, H2, e, I2, T, st2, f2, W, ⟨m0, w0⟩, turn⟩ := h2
  subst e
  have stat : ∀ {H' : Hp}, (∀ b ∈ fp, H' b = none) → ∀ b ∈ fp, FpOk X pins H' b := fun hn b hb => ⟨hn b hb, (f2 b hb).2⟩
  refine codeAny_forLoop_any (fun n s' => ∃ i σ' H', Inv X pins σ' H' s' ∧ tn i s'.heap ∧ (∀ b ∈ fp, H' b = none) ∧ W i n σ' H') ?_ m0 ⟨0, σ, H2, I2, st2, fun b hb => (f2 b hb).1, w0⟩
  rintro n s3 ⟨i, σ3, H3, I3, st3, fr3, w3⟩
  rcases turn i n σ3 H3 w3 with ⟨stop, qn⟩ | ⟨go, N, hN, step⟩
  · refine wpAny_passesOwn hp (thn (T.done X rfl rfl rfl hc i pins s3 σ3 H3 X.xe I3 (stat fr3) st3 stop) fun r s4 ⟨hr, I4⟩ => ?_)
    subst hr
    exact wpAny_execs_nil ⟨σ3, H3, I4, qn⟩
  · refine wpAny_passesOwn hp (thn (T.item X rfl rfl rfl hc i pins s3 σ3 H3 X.xe I3 (stat fr3) st3 go) fun r s4 ⟨u, hr, h4⟩ => ?_)
    subst hr
    refine wpAny_passesOwn hp (thn h4 fun _ s5 ⟨x, H5, I5, r5, y5, st5, fr5⟩ => ?_)
    have I5' := I5.pinned (stat fr5) (T.obj _ _ st5)
    refine wpAny_passesOwn hp (thn (hg _ s5 σ3 H5 x u _ I5' r5 (step x H5 y5)) fun _ s6 ⟨σ6, H6, I6, q6⟩ => ?_)
    refine wpAny_passesOwn hp (thn (hb _ s6 σ6 H6 _ I6 q6) fun f s7 q7 => ?_)
    have again : ∀ {σ7 : St} {H7 : Hp}, Inv X (pins ++ pinsAt fp s5.heap) σ7 H7 s7 → N σ7 H7 → ∃ m, m < n ∧ ∃ i σ' H', Inv X pins σ' H' s7 ∧ tn i s7.heap ∧ (∀ b ∈ fp, H' b = none) ∧ W i m σ' H' := fun {σ7 H7} I7 n7 => by
      obtain ⟨m', hm, w7⟩ := hN σ7 H7 n7
      refine ⟨m', hm, i + 1, σ7, H7, I7.unpinned, T.keep _ _ _ st5 fun b hb o e => (I7.pin (b, o) (List.mem_append_right _ (List.mem_append_right _ (mem_pinsAt hb e)))).1, fun b hb => ?_, w7⟩
      obtain ⟨o, e, d⟩ := T.obj _ _ st5 b hb
      exact (I7.pin (b, o) (List.mem_append_right _ (List.mem_append_right _ (mem_pinsAt hb e)))).2.1
    cases f with
    | next => obtain ⟨σ7, H7, I7, n7⟩ := q7; exact again I7 n7
    | cont => obtain ⟨σ7, H7, I7, n7⟩ := q7; exact again I7 n7
    | brk => obtain ⟨σ7, H7, I7, q7⟩ := q7; exact ⟨σ7, H7, I7.unpinned, q7⟩
    | ret v => obtain ⟨x7, σ7, H7, I7, r7, q7⟩ := q7; exact ⟨x7, σ7, H7, I7.unpinned, r7, q7⟩
end
theorem for_list {K : PySem.W.Frag} {a : Addr} {xs : List V} {g : TG} {tb : TS} {D : Ends} {σ : St} {H : Hp} (Pv : Nat → St → Hp → Prop) (h0 : Pv 0 σ H) (hl : ∀ i σ H, i ≤ xs.length → Pv i σ H → SqL K H a xs)
    (hs : ∀ i x σ H, xs[i]? = some x → Pv i σ H → g x σ H fun σ2 H2 => tb (D.loop (Pv (i + 1))) σ2 H2) (hd : ∀ σ H, Pv xs.length σ H → D.nx σ H) :
    ForP (Itl K a) g tb D σ H := by
  refine ⟨fun i m σ H => m = xs.length - i ∧ i ≤ xs.length ∧ Pv i σ H, ⟨xs.length, by simp, Nat.zero_le _, h0⟩, ?_⟩
  rintro i m σ H ⟨rfl, hi, p⟩
  have q := hl i σ H hi p
  by_cases hlt : i < xs.length
  · refine .inr ⟨⟨xs, xs[i], q, by simp [hlt]⟩, Pv (i + 1), fun σ' H' p' => ⟨xs.length - (i + 1), by omega, rfl, hlt, p'⟩, fun x H' y => ?_⟩
    obtain ⟨e, y⟩ := y
    subst e
    exact hs i x σ _ (y xs q) p
  · have e : i = xs.length := by omega
    subst e
    exact .inl ⟨⟨xs, q, Nat.le_refl _⟩, hd σ H p⟩
theorem for_range {lo : Int} {n : Nat} {g : TG} {tb : TS} {D : Ends} {σ : St} {H : Hp} (Pv : Nat → St → Hp → Prop) (h0 : Pv 0 σ H)
    (hs : ∀ i σ H, i < n → Pv i σ H → g (.int (lo + i)) σ H fun σ2 H2 => tb (D.loop (Pv (i + 1))) σ2 H2) (hd : ∀ σ H, Pv n σ H → D.nx σ H) :
    ForP (Itr lo n) g tb D σ H := by
  refine ⟨fun i m σ H => m = n - i ∧ i ≤ n ∧ Pv i σ H, ⟨n, by simp, Nat.zero_le _, h0⟩, ?_⟩
  rintro i m σ H ⟨rfl, hi, p⟩
  by_cases hlt : i < n
  · refine .inr ⟨hlt, Pv (i + 1), fun σ' H' p' => ⟨n - (i + 1), by omega, rfl, hlt, p'⟩, fun x H' y => ?_⟩
    obtain ⟨e, y⟩ := y
    subst e y
    exact hs i σ _ hlt p
  · have e : i = n := by omega
    subst e
    exact .inl ⟨Nat.le_refl _, hd σ H p⟩
end L2
namespace L2
open PySem PySem.Spec PyProof.Rows
abbrev R2 := V → V → Hp → VK → Prop
def OpR (X : Cx) (f : Value → Value → Sem Value) (r : R2) : Prop :=
  ∀ (pins : List (Addr × Obj)) (s : Shared) (σ : St) (H : Hp) (x y : V) (v u : Value) (Q : VK), Inv X pins σ H s → RelV x v → RelV y u → r x y H Q →
    wpAny (model X.prog X.w) X.A (f v u) (EP X pins σ Q) X.xe s
def UnR (X : Cx) (f : Value → Sem Value) (r : V → Hp → VK → Prop) : Prop :=
  ∀ (pins : List (Addr × Obj)) (s : Shared) (σ : St) (H : Hp) (x : V) (v : Value) (Q : VK), Inv X pins σ H s → RelV x v → r x H Q →
    wpAny (model X.prog X.w) X.A (f v) (EP X pins σ Q) X.xe s
def CallR (X : Cx) (f : Value) (r : List V → Hp → VK → Prop) : Prop :=
  ∀ (pins : List (Addr × Obj)) (s : Shared) (σ : St) (H : Hp) (xs : List V) (us : List Value) (Q : VK), Inv X pins σ H s → Vals xs us → r xs H Q →
    wpAny (model X.prog X.w) X.A (call f us) (EP X pins σ Q) X.xe s
def tOp (r : R2) (ta tb : TE) : TE := fun σ H Q => ta σ H fun x H1 => tb σ H1 fun y H2 => r x y H2 Q
def tUn (r : V → Hp → VK → Prop) (ta : TE) : TE := fun σ H Q => ta σ H fun x H1 => r x H1 Q
def rI (C : Int → Int → Prop) (g : Int → Int → V) : R2 := fun x y H Q => Int2C x y C fun i j => Q (g i j) H
def rI0 (g : Int → Int → V) : R2 := fun x y H Q => Int2 x y fun i j => Q (g i j) H
def rU (g : Int → V) : V → Hp → VK → Prop := fun x H Q => IsInt x fun i => Q (g i) H
section
variable {X : Cx} {a b c : Expr} {ta tb tc : TE} {pos : Pos}
theorem binT (ha : PE X a ta) (hb : PE X b tb) {pins : List (Addr × Obj)} {s : Shared} {σ : St} {H : Hp} {R : V → V → Hp → Prop} (I : Inv X pins σ H s)
    (h : ta σ H fun x H1 => tb σ H1 fun y H2 => R x y H2) {Q : Value → Shared → Prop} {f : Value → Value → Sem Value}
    (hf : ∀ v u s2 x y H2, Inv X pins σ H2 s2 → RelV x v → RelV y u → R x y H2 → wpAny (model X.prog X.w) X.A (f v u) Q X.xe s2) :
    wpAny (model X.prog X.w) X.A (eval a X.env) (fun v s₁ => wpAny (model X.prog X.w) X.A (eval b X.env) (fun u s₂ => wpAny (model X.prog X.w) X.A (f v u) Q X.xe s₂) X.xe s₁) X.xe s := by
  refine thn (ha pins s σ H _ I h) fun v s1 ⟨x, H1, I1, r1, q1⟩ => ?_
  refine thn (hb pins s1 σ H1 _ I1 q1) fun u s2 ⟨y, H2, I2, r2, q2⟩ => ?_
  exact hf v u s2 x y H2 I2 r1 r2 q2
theorem pe_op {op : Operator} {r : R2} (ho : OpR X (binaryOp op) r) (ha : PE X a ta) (hb : PE X b tb) : PE X (.BinOp a op b pos) (tOp r ta tb) := by
  intro pins s σ H Q I h
  exact wpAny_BinOp (binT ha hb I h fun v u s2 x y H2 I2 rx ry q => ho pins s2 σ H2 x y v u Q I2 rx ry q)
theorem pe_un {op : UnaryOp} {r : V → Hp → VK → Prop} (ho : UnR X (unaryOp op) r) (ha : PE X a ta) : PE X (.UnaryOp op a pos) (tUn r ta) := by
  intro pins s σ H Q I h
  exact UnaryOp_ (thn (ha pins s σ H _ I h) fun v s1 ⟨x, H1, I1, r1, q1⟩ => ho pins s1 σ H1 x v Q I1 r1 q1)
theorem opI {f : Value → Value → Sem Value} {C : Int → Int → Prop} {g : Int → Int → Int}
    (rule : ∀ (i j : Int) (t u : Tok) (s : Shared) (Q : Value → Shared → Prop) (E : Value → Shared → Prop), C i j → Q (.int (g i j) s.toks) { s with toks := s.toks + 1 } → wpAny (model X.prog X.w) X.A (f (.int i t) (.int j u)) Q E s) :
    OpR X f (rI C fun i j => .int (g i j)) := by
  intro pins s σ H x y v u Q I rx ry h
  obtain ⟨i, j, rfl, rfl, hc, q⟩ := h
  obtain ⟨t, rfl⟩ := rx
  obtain ⟨t', rfl⟩ := ry
  exact rule i j t t' s _ _ hc ⟨.int (g i j), H, I.tok _, ⟨_, rfl⟩, q⟩
theorem opI0 {f : Value → Value → Sem Value} {g : Int → Int → Int}
    (rule : ∀ (i j : Int) (t u : Tok) (s : Shared) (Q : Value → Shared → Prop) (E : Value → Shared → Prop), Q (.int (g i j) s.toks) { s with toks := s.toks + 1 } → wpAny (model X.prog X.w) X.A (f (.int i t) (.int j u)) Q E s) :
    OpR X f (rI0 fun i j => .int (g i j)) := by
  intro pins s σ H x y v u Q I rx ry h
  obtain ⟨i, j, rfl, rfl, q⟩ := h
  obtain ⟨t, rfl⟩ := rx
  obtain ⟨t', rfl⟩ := ry
  exact rule i j t t' s _ _ ⟨.int (g i j), H, I.tok _, ⟨_, rfl⟩, q⟩
theorem opB0 {f : Value → Value → Sem Value} {g : Int → Int → Bool}
    (rule : ∀ (i j : Int) (t u : Tok) (s : Shared) (Q : Value → Shared → Prop) (E : Value → Shared → Prop), Q (.bool (g i j)) s → wpAny (model X.prog X.w) X.A (f (.int i t) (.int j u)) Q E s) :
    OpR X f (rI0 fun i j => .bl (g i j)) := by
  intro pins s σ H x y v u Q I rx ry h
  obtain ⟨i, j, rfl, rfl, q⟩ := h
  obtain ⟨t, rfl⟩ := rx
  obtain ⟨t', rfl⟩ := ry
  exact rule i j t t' s _ _ ⟨.bl (g i j), H, I, rfl, q⟩
theorem two_pow_nn (k : Nat) : (0 : Int) ≤ 2 ^ k := by
  rw [two_pow_cast]
  exact Int.natCast_nonneg _
theorem op_add : OpR X (binaryOp .Add) (rI0 fun i j => .int (i + j)) := opI0 fun _ _ _ _ _ _ _ q => add_int q
theorem op_sub : OpR X (binaryOp .Sub) (rI0 fun i j => .int (i - j)) := opI0 fun _ _ _ _ _ _ _ q => sub_int q
theorem op_mod : OpR X (binaryOp .Mod) (rI (fun _ j => 0 < j) fun i j => .int (i % j)) := opI fun i j _ _ _ _ _ hc q => by
  have h1 : (0 : Int) < j := hc
  exact mod_int' (by omega) (by rw [Int.fmod_eq_emod_of_nonneg i (by omega)]; exact q)
theorem op_shr : OpR X (binaryOp .RShift) (rI (fun _ j => 0 ≤ j) fun i j => .int (i / 2 ^ j.toNat)) := opI fun i j _ _ _ _ _ hc q =>
  rshift_int hc (by rw [Int.fdiv_eq_ediv_of_nonneg i (two_pow_nn _)]; exact q)
theorem op_and : OpR X (binaryOp .BitAnd) (rI0 fun i j => .int (Builtin.bitAnd i j)) := opI0 fun _ _ _ _ _ _ _ q => and_int q
theorem unI {f : Value → Sem Value} {g : Int → Int}
    (rule : ∀ (i : Int) (t : Tok) (s : Shared) (Q : Value → Shared → Prop) (E : Value → Shared → Prop), Q (.int (g i) s.toks) { s with toks := s.toks + 1 } → wpAny (model X.prog X.w) X.A (f (.int i t)) Q E s) :
    UnR X f (rU fun i => .int (g i)) := by
  intro pins s σ H x v Q I rx h
  obtain ⟨i, rfl, q⟩ := h
  obtain ⟨t, rfl⟩ := rx
  exact rule i t s _ _ ⟨.int (g i), H, I.tok _, ⟨_, rfl⟩, q⟩
theorem un_neg : UnR X (unaryOp .USub) (rU fun i => .int (-i)) := unI fun _ _ _ _ _ q => neg_int q
end
def scal : V → V → Bool
  | .non, .non => true | .non, .int _ => true | .int _, .non => true | .non, .bl _ => true | .bl _, .non => true | .non, .str _ => true | .str _, .non => true
  | .int _, .int _ => true | .bl _, .bl _ => true | .str _, .str _ => true | .byt _, .byt _ => true
  | .int _, .str _ => true | .str _, .int _ => true | .bl _, .str _ => true | .str _, .bl _ => true
  | _, _ => false
structure I_rEq  (x : V) (y : V) (H : Hp) (Q : VK) : Prop where
  mk :: (q1 : scal x y = true) (q2 : Q (.bl (decide (x = y))) H)
def rEq : R2 := fun x y H Q => I_rEq  x y H Q
structure I_rNe  (x : V) (y : V) (H : Hp) (Q : VK) : Prop where
  mk :: (q1 : scal x y = true) (q2 : Q (.bl (!decide (x = y))) H)
def rNe : R2 := fun x y H Q => I_rNe  x y H Q
theorem dec_int {i j : Int} : decide (V.int i = V.int j) = (i == j) := by
  rw [Bool.eq_iff_iff]
  simp
theorem dec_bl {i j : Bool} : decide (V.bl i = V.bl j) = (i == j) := by
  rw [Bool.eq_iff_iff]
  simp
theorem dec_str {i j : Str} : decide (V.str i = V.str j) = (i == j) := by
  rw [Bool.eq_iff_iff]
  simp
theorem dec_byt {i j : Array UInt8} : decide (V.byt i = V.byt j) = (i.toList == j.toList) := by
  rw [Bool.eq_iff_iff]
  cases i
  cases j
  simp
section
variable {X : Cx} {a b c : Expr} {ta tb tc : TE} {pos : Pos}
theorem fin_bl {pins : List (Addr × Obj)} {σ : St} {H : Hp} {s : Shared} {Q : VK} {k k' : Bool} (I : Inv X pins σ H s) (q : Q (.bl k) H) (e : k = k') : EP X pins σ Q (.bool k') s := by
  subst e
  exact ⟨.bl k, H, I, rfl, q⟩
theorem op_eq : OpR X (compareOp .Eq) rEq := by
  intro pins s σ H x y v u Q I rx ry h
  obtain ⟨hs, q⟩ := h
  cases x with
  | non =>
    cases rx
    cases y with
    | non => cases ry; exact PySem.EqNone.eq_none_none (fin_bl I q (by simp))
    | bl j => cases ry; exact PySem.EqNone.eq_none_bool (fin_bl I q (by simp))
    | int j => obtain ⟨t', rfl⟩ := ry; exact PySem.EqNone.eq_none_int (fin_bl I q (by simp))
    | str j => obtain ⟨t', rfl⟩ := ry; exact PySem.EqNone.eq_none_str (fin_bl I q (by simp))
    | _ => exact absurd (show false = true from hs) Bool.false_ne_true
  | bl i =>
    cases rx
    cases y with
    | non => cases ry; exact PySem.EqNone.eq_bool_none (fin_bl I q (by simp))
    | bl j => cases ry; exact eq_bool (fin_bl I q dec_bl)
    | str j => obtain ⟨t', rfl⟩ := ry; exact PySem.EqMixed.eq_bool_str (fin_bl I q (by simp))
    | _ => exact absurd (show false = true from hs) Bool.false_ne_true
  | int i =>
    obtain ⟨t, rfl⟩ := rx
    cases y with
    | non => cases ry; exact PySem.EqNone.eq_int_none (fin_bl I q (by simp))
    | int j => obtain ⟨t', rfl⟩ := ry; exact eq_int (fin_bl I q dec_int)
    | str j => obtain ⟨t', rfl⟩ := ry; exact PySem.EqMixed.eq_int_str (fin_bl I q (by simp))
    | _ => exact absurd (show false = true from hs) Bool.false_ne_true
  | str i =>
    obtain ⟨t, rfl⟩ := rx
    cases y with
    | non => cases ry; exact PySem.EqNone.eq_str_none (fin_bl I q (by simp))
    | bl j => cases ry; exact PySem.EqMixed.eq_str_bool (fin_bl I q (by simp))
    | int j => obtain ⟨t', rfl⟩ := ry; exact PySem.EqMixed.eq_str_int (fin_bl I q (by simp))
    | str j => obtain ⟨t', rfl⟩ := ry; exact eq_str (fin_bl I q dec_str)
    | _ => exact absurd (show false = true from hs) Bool.false_ne_true
  | byt i =>
    obtain ⟨t, rfl⟩ := rx
    cases y with
    | byt j => obtain ⟨t', rfl⟩ := ry; exact PySem.W.eq_bytes (fin_bl I q dec_byt)
    | _ => exact absurd (show false = true from hs) Bool.false_ne_true
  | _ => cases y <;> exact absurd (show false = true from hs) Bool.false_ne_true
theorem op_ne : OpR X (compareOp .NotEq) rNe := by
  intro pins s σ H x y v u Q I rx ry h
  obtain ⟨hs, q⟩ := h
  cases x with
  | non =>
    cases rx
    cases y with
    | non => cases ry; exact PySem.EqNone.ne_none_none (fin_bl I q (by simp))
    | bl j => cases ry; exact PySem.EqNone.ne_none_bool (fin_bl I q (by simp))
    | int j => obtain ⟨t', rfl⟩ := ry; exact PySem.EqNone.ne_none_int (fin_bl I q (by simp))
    | str j => obtain ⟨t', rfl⟩ := ry; exact PySem.EqNone.ne_none_str (fin_bl I q (by simp))
    | _ => exact absurd (show false = true from hs) Bool.false_ne_true
  | bl i =>
    cases rx
    cases y with
    | non => cases ry; exact PySem.EqNone.ne_bool_none (fin_bl I q (by simp))
    | bl j => cases ry; exact ne_bool (fin_bl I q (congrArg not dec_bl))
    | str j => obtain ⟨t', rfl⟩ := ry; exact PySem.EqMixed.ne_bool_str (fin_bl I q (by simp))
    | _ => exact absurd (show false = true from hs) Bool.false_ne_true
  | int i =>
    obtain ⟨t, rfl⟩ := rx
    cases y with
    | non => cases ry; exact PySem.EqNone.ne_int_none (fin_bl I q (by simp))
    | int j => obtain ⟨t', rfl⟩ := ry; exact ne_int (fin_bl I q (congrArg not dec_int))
    | str j => obtain ⟨t', rfl⟩ := ry; exact PySem.EqMixed.ne_int_str (fin_bl I q (by simp))
    | _ => exact absurd (show false = true from hs) Bool.false_ne_true
  | str i =>
    obtain ⟨t, rfl⟩ := rx
    cases y with
    | non => cases ry; exact PySem.EqNone.ne_str_none (fin_bl I q (by simp))
    | bl j => cases ry; exact PySem.EqMixed.ne_str_bool (fin_bl I q (by simp))
    | int j => obtain ⟨t', rfl⟩ := ry; exact PySem.EqMixed.ne_str_int (fin_bl I q (by simp))
    | str j => obtain ⟨t', rfl⟩ := ry; exact ne_str (fin_bl I q (congrArg not dec_str))
    | _ => exact absurd (show false = true from hs) Bool.false_ne_true
  | byt i =>
    obtain ⟨t, rfl⟩ := rx
    cases y with
    | byt j => obtain ⟨t', rfl⟩ := ry; exact PySem.W.ne_bytes (fin_bl I q (congrArg not dec_byt))
    | _ => exact absurd (show false = true from hs) Bool.false_ne_true
  | _ => cases y <;> exact absurd (show false = true from hs) Bool.false_ne_true
theorem op_lt : OpR X (compareOp .Lt) (rI0 fun i j => .bl (decide (i < j))) := opB0 fun _ _ _ _ _ _ _ q => lt_int q
theorem op_le : OpR X (compareOp .LtE) (rI0 fun i j => .bl (decide (i ≤ j))) := opB0 fun _ _ _ _ _ _ _ q => le_int q
theorem op_gt : OpR X (compareOp .Gt) (rI0 fun i j => .bl (decide (j < i))) := opB0 fun _ _ _ _ _ _ _ q => gt_int q
theorem nomark (b : Expr) {op : CmpOp} (h : op ≠ .In := by decide) (h2 : op ≠ .NotIn := by decide) : behindInMarks op b = false := by
  have e1 : (op == CmpOp.In) = false := by cases op <;> first | rfl | exact absurd rfl h
  have e2 : (op == CmpOp.NotIn) = false := by cases op <;> first | rfl | exact absurd rfl h2
  cases b <;> simp [behindInMarks, e1, e2]
theorem pe_cmpR {op : CmpOp} {r : R2} (ho : OpR X (compareOp op) r) (ha : PE X a ta) (hb : PE X b tb) (hm : behindInMarks op b = false) : PE X (.Compare a [op] [b] pos) (tOp r ta tb) := by
  intro pins s σ H Q I h
  exact wpAny_Compare1 (binT ha hb I h fun v u s2 x y H2 I2 rx ry q => ho pins s2 σ H2 x y v u Q I2 rx ry q) hm
def tTest (t : TE) : TT := fun σ H Q => t σ H fun x H' => IsBl x fun k => Q k H'
theorem pt_cmpR {op : CmpOp} {r : R2} (ho : OpR X (compareOp op) r) (ha : PE X a ta) (hb : PE X b tb) (hm : behindInMarks op b = false) : PT X (.Compare a [op] [b] pos) (tTest (tOp r ta tb)) := by
  intro pins s σ H Q I h
  refine wpAny_isTrue_Compare1 (thn (ha pins s σ H _ I h) fun v s1 ⟨x, H1, I1, r1, q1⟩ => thn (hb pins s1 σ H1 _ I1 q1) fun u s2 ⟨y, H2, I2, r2, q2⟩ =>
    thn (ho pins s2 σ H2 x y v u _ I2 r1 r2 q2) fun c s3 ⟨z, H3, I3, r3, k, e, q3⟩ => ?_) hm
  subst e
  cases r3
  exact wpAny_truthy_bool ⟨H3, I3, q3⟩
theorem line63 : (sizeLine : Nat) < 2 ^ 63 := by rw [sizeLine_eq]; decide
theorem vals1 {x : V} {us : List Value} (r : Vals [x] us) : ∃ u, us = [u] ∧ RelV x u := by
  cases r with
  | cons r1 r2 => cases r2; exact ⟨_, rfl, r1⟩
theorem vals2 {x y : V} {us : List Value} (r : Vals [x, y] us) : ∃ u w', us = [u, w'] ∧ RelV x u ∧ RelV y w' := by
  cases r with
  | cons r1 r2 =>
    cases r2 with
    | cons r3 r4 => cases r4; exact ⟨_, _, rfl, r1, r3⟩
end
end L2
namespace L2
open PySem PySem.Spec PyProof.Rows
structure ObjM (h : Heap) (x dx C : Addr) (mA : Str → Option Value) : Prop where
  obj : h.get? x = some (PySem.W.instObj C dx)
  ns : h.Ns1 dx mA
  ne : dx ≠ x
theorem lookIn_ns {h : Heap} {dx : Addr} {mA : Str → Option Value} (n : h.Ns1 dx mA) : ∃ od, h.get? dx = some od ∧ ∀ name, PySem.W.lookIn name od = some (mA name) := by
  obtain ⟨o, es, ep, ho, hd, hk, _, hm⟩ := n
  refine ⟨o, ho, fun name => ?_⟩
  have e := hm name
  unfold nsFind findBy at e
  rw [← Array.find?_toList] at e
  unfold PySem.W.lookIn
  rw [hd]
  dsimp only
  split
  · rename_i y q
    rw [q] at e
    exact congrArg some e
  · rename_i q
    rw [q] at e
    have a : es.toList.any (·.refKey) = false := by
      rw [List.any_eq_false]
      intro y hy
      obtain ⟨z, t, hkey⟩ := hk y (Array.mem_toList_iff.mp hy)
      simp [DictEntry.refKey, hkey]
    have a' : ¬ es.toList.any (·.refKey) = true := by rw [a]; exact Bool.false_ne_true
    rw [if_neg a']
    exact congrArg some e
theorem ObjM.look {h : Heap} {x dx C : Addr} {mA : Str → Option Value} (I : ObjM h x dx C mA) : ∃ od, PySem.W.InstAt h x (PySem.W.instObj C dx) C (some od) ∧ ∀ name, PySem.W.lookIn name od = some (mA name) :=
  let ⟨od, ho, hl⟩ := lookIn_ns I.ns
  ⟨od, ⟨I.obj, rfl, rfl, ho⟩, hl⟩
section
variable {prog : Program} {w : World} {A : Around} {E : Value → Shared → Prop} {s : Shared} {K : PySem.W.Frag} {x dx C f : Addr} {mA : Str → Option Value} {name : Str} {v : Value}
end
section
variable {P : Program} {w : World} {H H' : Hp} {h h' : Heap} {a C dx : Addr} {fs fs' : List (Str × V)}
theorem ins_get (hok : HOk P w H h) (e : H a = some (.ins C dx fs)) : ∃ mA, ObjM h a dx C mA ∧ (∀ f, RelO (fs.lookup f) (mA f)) ∧ PySem.Within mA (fs.map (·.1)) ∧ fs.length ≤ 1000 ∧ H dx = some (.own a) := by
  obtain ⟨d, z, ne, ob, mA, n, r, q⟩ := (show ObjOk P w H h a (.ins C dx fs) from hok a _ e)
  exact ⟨mA, ⟨ob, n, ne⟩, r, q, z, d⟩
end
structure Cls (K : PySem.W.Frag) (C : Addr) : Prop where
  pg : PySem.W.plainGet K C Str.empty = true
  hd : PySem.W.hasDictIn K C = true
  po : PySem.W.plainOver K C = true
  sa : PySem.W.findIn K (.ref C) "__setattr__" = some (some (.builtin "object.__setattr__"))
theorem Cls.get {K : PySem.W.Frag} {C : Addr} (c : Cls K C) (f : Str) : PySem.W.plainGet K C f = true := c.pg
structure Con (K : PySem.W.Frag) (C : Addr) (f : Str) (v : V) (u : Value) : Prop where
  at_ : PySem.W.findIn K (.ref C) f = some (some u)
  rel : RelV v u
  get : PySem.W.specialIn K u "__get__" = some none
  cp : PySem.W.copiedNames.contains f = false
structure Meth (K : PySem.W.Frag) (C : Addr) (m : Str) (f : Addr) : Prop where
  at_ : PySem.W.findIn K (.ref C) m = some (some (.ref f))
  fn : PySem.W.isFn K (.ref f) = true
  kp : PySem.W.keepIn K (.ref f) = true
section
variable {X : Cx} {pins : List (Addr × Obj)} {σ : St} {H : Hp} {s : Shared} {a C dx : Addr} {fs : List (Str × V)} {f : Str} {v : V} {A : Around} {E : Value → Shared → Prop}
end
section
variable {X : Cx} {o e value : Expr} {f : Str} {pos pos' tpos : Pos} {ta tv : TE}
end
section
variable {X : Cx} {pins : List (Addr × Obj)} {σ : St} {H : Hp} {s : Shared} {A : Around} {E : Value → Shared → Prop} {Q : Value → Shared → Prop} {c : Value} {b : Bool}
inductive TyOf (K : PySem.W.Frag) (H : Hp) : V → Value → Prop where
  | non : TyOf K H .non (.type "NoneType")
  | bl (x : Bool) : TyOf K H (.bl x) (.type "bool")
  | int (i : Int) : TyOf K H (.int i) (.type "int")
  | str (x : Str) : TyOf K H (.str x) (.type "str")
  | flt (x : UInt64) : TyOf K H (.flt x) (.type "float")
  | lst {a : Addr} {xs : List V} (e : H a = some (.lst xs)) : TyOf K H (.ref a) (.type "list")
  | frz {a : Addr} {o : Obj} {xs : List V} (e : H a = some (.frz o (.lst xs))) : TyOf K H (.ref a) (.type "list")
  | tup {a : Addr} {xs : List V} (e : H a = some (.tup xs)) : TyOf K H (.ref a) (.type "tuple")
  | dK {a : Addr} {kvs : List (Key × V)} (e : H a = some (.dK kvs)) : TyOf K H (.ref a) (.type "dict")
  | dT {a : Addr} {kvs : List (List Key × V)} (e : H a = some (.dT kvs)) : TyOf K H (.ref a) (.type "dict")
  | ins {a C dx : Addr} {fs : List (Str × V)} (e : H a = some (.ins C dx fs)) (cl : Cls K C) (ha : PySem.W.findIn K (.ref C) "__class__" = some (some (.builtin "object.__class__")))
      (hn : PySem.W.specialIn K (.builtin "object.__class__") "__get__" = some (some (.builtin "getset_descriptor.__get__"))) (htk : PySem.W.takesIn K (.builtin "object.__class__") = some true)
      (hm : PySem.W.mroIn K C (.type "object") = some true) : TyOf K H (.ref a) (.ref C)
theorem isinst_ok {x : V} {u t : Value} (I : Inv X pins σ H s) (rx : RelV x u) (ty : TyOf X.K H x t) (e : PySem.W.kitOne X.K t c = some b) (h : ∀ tk, Q (.bool b) { s with toks := tk }) :
    wpAny (model X.prog X.w) A (call (.builtin "isinstance") [u, c]) Q E s := by
  cases ty with
  | non => cases (show u = Value.none from rx); exact PySem.W.kia_one PySem.W.kitx_none I.kIn True.intro e (fun z => nomatch z) h
  | bl y => cases (show u = Value.bool y from rx); exact PySem.W.kia_one PySem.W.kitx_bool I.kIn True.intro e (fun z => nomatch z) h
  | int i => obtain ⟨t, q⟩ := (show ∃ t, u = Value.int i t from rx); cases q; exact PySem.W.kia_one PySem.W.kitx_int I.kIn True.intro e (fun z => nomatch z) h
  | str y => obtain ⟨t, q⟩ := (show ∃ t, u = Value.str y t from rx); cases q; exact PySem.W.kia_one PySem.W.kitx_str I.kIn True.intro e (fun z => nomatch z) h
  | flt y => obtain ⟨t, q⟩ := (show ∃ t, u = Value.float y t from rx); cases q; exact PySem.W.kia_one PySem.W.kitx_float I.kIn True.intro e (fun z => nomatch z) h
  | @lst a xs ea =>
    cases (show u = Value.ref a from rx)
    obtain ⟨_, _, n, _, h1⟩ := (show ObjOk X.prog X.w H s.heap a (.lst xs) from I.hok a _ ea)
    exact PySem.W.kia_one PySem.W.kitx_list I.kIn ⟨_, h1, rfl⟩ e (fun z => nomatch z) h
  | @frz a ob xs ea =>
    cases (show u = Value.ref a from rx)
    obtain ⟨_, _, _, n, _, h1⟩ := (show ObjOk X.prog X.w H s.heap a (.frz ob (.lst xs)) from I.hok a _ ea)
    exact PySem.W.kia_one PySem.W.kitx_list I.kIn ⟨_, h1, rfl⟩ e (fun z => nomatch z) h
  | @tup a xs ea =>
    cases (show u = Value.ref a from rx)
    obtain ⟨_, _, _, p⟩ := (show ObjOk X.prog X.w H s.heap a (.tup xs) from I.hok a _ ea)
    obtain ⟨o, h1, h2, _⟩ := p
    exact PySem.W.kia_one PySem.W.kitx_tuple I.kIn ⟨o, h1, h2⟩ e (fun z => nomatch z) h
  | @dK a kvs ea =>
    cases (show u = Value.ref a from rx)
    obtain ⟨_, _, vs, _, p⟩ := (show ObjOk X.prog X.w H s.heap a (.dK kvs) from I.hok a _ ea)
    obtain ⟨o, es, ep, h1, h2, _⟩ := p
    exact PySem.W.kia_one PySem.W.kitx_dict I.kIn ⟨o, h1, h2.1⟩ e (fun z => nomatch z) h
  | @dT a kvs ea =>
    cases (show u = Value.ref a from rx)
    obtain ⟨_, _, xs, _, o, es, ep, h1, h2, _⟩ := (show ObjOk X.prog X.w H s.heap a (.dT kvs) from I.hok a _ ea)
    exact PySem.W.kia_one PySem.W.kitx_dict I.kIn ⟨o, h1, h2.1⟩ e (fun z => nomatch z) h
  | @ins a C dx fs ea cl ha hn htk hm =>
    cases (show u = Value.ref a from rx)
    obtain ⟨mA, O, _⟩ := ins_get I.hok ea
    obtain ⟨od, J, _⟩ := O.look
    exact PySem.W.kia_one (PySem.W.kitx_own (cl.get _) cl.hd ha hn htk hm) I.kIn J e (fun z => nomatch z) h
end
end L2
namespace L2
open PySem PySem.Spec PyProof.Rows
structure Room (k : Nat) (A : Around) : Prop where
  dp : A.depth + 3 * k + 5 < recursionLimit
  un : A.units + 16 * k + 200 < cLine
theorem Room.mono {j k : Nat} {A : Around} (r : Room k A) (h : j ≤ k) : Room j A := ⟨by have := r.dp; omega, by have := r.un; omega⟩
theorem Room.deeper {k : Nat} {A : Around} (r : Room (k + 1) A) (env : Env) : Room k (A.deeper env) :=
  ⟨by have := r.dp; show A.depth + 1 + 3 * k + 5 < _; omega, by have := r.un; show A.units + 3 + 16 * k + 200 < _; omega⟩
theorem Room.depth {k : Nat} {A : Around} (r : Room k A) : A.depth < recursionLimit := by have := r.dp; omega
theorem Room.units0 {k : Nat} {A : Around} (r : Room k A) : A.units < cLine := by have := r.un; omega
def tNil : TA := fun _ H Q => Q [] H
def tCons (ta : TE) (tr : TA) : TA := fun σ H Q => ta σ H fun x H1 => tr σ H1 fun xs H2 => Q (x :: xs) H2
section
variable {X : Cx} {e : Expr} {es : List Expr} {te : TE} {t : TA} {pos : Pos}
theorem pa_nil : PA X [] tNil := fun _ _ _ _ H Q I h => Calls.spliced_nil ⟨[], H, I, .nil, h⟩
theorem pa_cons (ha : PE X e te) (hr : PA X es t) (hs : starEach (e :: es) X.env = (false, eval e X.env) :: starEach es X.env := by rfl) : PA X (e :: es) (tCons te t) := by
  intro pos pins s σ H Q I h
  rw [hs]
  show wpAny _ _ (spliced ((false, eval e X.env) :: backTo pos (starEach es X.env))) _ _ s
  refine Calls.spliced_cons (thn (ha pins s σ H _ I h) fun u s1 ⟨x, H1, I1, r1, q1⟩ => ?_)
  exact thn (hr pos pins s1 σ H1 _ I1 q1) fun us s2 ⟨xs, H2, I2, r2, q2⟩ => ⟨x :: xs, H2, I2, .cons r1 r2, q2⟩
structure I_tTup (xs : List V) (H1 : Hp) (Q : VK) : Prop where
  mk :: (q1 : xs.length ≤ sizeLine) (q2 : ∀ p, H1 p = none → Q (.ref p) (upd H1 p (.tup xs)))
def tTup (t : TA) : TE := fun σ H Q => t σ H fun xs H1 => I_tTup xs H1 Q
structure I_tLst (xs : List V) (H1 : Hp) (Q : VK) : Prop where
  mk :: (q1 : xs.length ≤ sizeLine) (q2 : ∀ p, H1 p = none → Q (.ref p) (upd H1 p (.lst xs)))
def tLst (t : TA) : TE := fun σ H Q => t σ H fun xs H1 => I_tLst xs H1 Q
theorem pe_tup {x1} (h : PA X es t) : PE X (.Tuple es x1 pos) (tTup t) := by
  intro pins s σ H Q I hq
  refine wpAny_Tuple_spliced (thn (h pos pins s σ H _ I hq) fun us s1 ⟨xs, H1, I1, r, z, q⟩ => ⟨by rw [← r.length]; exact z, ?_⟩)
  have hf : H1 s1.heap.objs.size = none := I1.hok.fresh (Nat.le_refl _)
  refine ⟨.ref s1.heap.objs.size, upd H1 s1.heap.objs.size (.tup xs), I1.laid (t' := s1.toks) (fun b u e => Heap.get?_push_of_some _ e) (Nat.le_refl _) ?_, rfl, q _ hf⟩
  exact ⟨z, us, r, ⟨_, Heap.get?_push_size _ rfl, rfl, _, rfl⟩⟩
theorem pe_lst (h : PA X es t) : PE X (.List es pos) (tLst t) := by
  intro pins s σ H Q I hq
  refine wpAny_List_spliced (thn (h pos pins s σ H _ I hq) fun us s1 ⟨xs, H1, I1, r, z, q⟩ => ⟨by rw [← r.length]; exact z, ?_⟩)
  have hf : H1 s1.heap.objs.size = none := I1.hok.fresh (Nat.le_refl _)
  refine ⟨.ref s1.heap.objs.size, upd H1 s1.heap.objs.size (.lst xs), I1.laid (t' := s1.toks) (fun b u e => Heap.get?_push_of_some _ e) (Nat.le_refl _) ?_, rfl, q _ hf⟩
  exact ⟨z, us, 0, r, Heap.get?_push_size _ rfl⟩
end
abbrev Sp := List V → Hp → VK → XK → Prop
abbrev CXT1 := List Env → Hp → Shared → XK → Value → Shared → Prop
abbrev CXT := Around → CXT1
structure Env0 (P : Program) (w : World) (K : PySem.W.Frag) (mg : Str → Option Value) (base : Heap) (A : Around) (outer : List Env) (s : Shared) (H : Hp) : Prop where
  frames : A.frames = some outer
  mod : Mod K mg base
  bs : ∀ b o, base.get? b = some o → s.heap.get? b = some o ∧ H b = none
  bsz : base.objs.size ≤ s.heap.objs.size
  funs : s.heap.FunFrames base outer
  frf : ∀ b ∈ frs outer, H b = none
  hok : HOk P w H s.heap
  bare : AllBare s.gens
  hq : HdE A outer s H
def CE (outer : List Env) (P : Program) (w : World) (H : Hp) (s : Shared) (Q : VK) (u : Value) (s' : Shared) : Prop :=
  ∃ v H', s'.os = s.os ∧ AllBare s'.gens ∧ Un (frs outer) [] H H' s.heap s'.heap ∧ HOk P w H' s'.heap ∧ RelV v u ∧ Q v H'
def CR (CX : CXT1) (outer : List Env) (P : Program) (w : World) (H : Hp) (s : Shared) (Q : VK) (E : XK) (r : Result) (s' : Shared) : Prop :=
  match r with
  | .ok (.ret u) => CE outer P w H s Q u s'
  | .ok _ => False
  | .error e => CX outer H s E e s'
structure FnOk (P : Program) (w : World) (K : PySem.W.Frag) (mg : Str → Option Value) (base : Heap) (CX : CXT) (k : Nat) (f : Addr) (fd : FuncData) (ps : List Str) (sp : Sp) : Prop where
  len : ∀ vs H Q E, sp vs H Q E → vs.length = ps.length
  run : ∀ (A : Around) (outer : List Env) (s : Shared) (H : Hp) (args : Args) (us : List Value) (vs : List V) (Q : VK) (E : XK), Room k A → Env0 P w K mg base A outer s H → BindsTo s fd args (ps.zip us) → Vals vs us → sp vs H Q E →
    codeAny (model P w) A (.call (.ref f) args) (CR (CX A) outer P w H s Q E) s
section
variable {X : Cx} {pins : List (Addr × Obj)} {σ : St} {H : Hp} {s s' : Shared}
theorem Inv.env0 (I : Inv X pins σ H s) : Env0 X.prog X.w X.K X.mg X.base X.A X.stack s H :=
  ⟨I.ok.frames, I.ok.mod, I.bs, Nat.le_trans I.ok.bsz I.sz, I.stack, I.stkFree, I.hok, I.bare, I.hde⟩
theorem Inv.after {Q : VK} {u : Value} (I : Inv X pins σ H s) (h : CE X.stack X.prog X.w H s Q u s') : EP X pins σ Q u s' := by
  obtain ⟨v, H', os, bare, un, hok, r, q⟩ := h
  obtain ⟨hh, g, d, t, os'⟩ := s'
  obtain rfl : os' = s.os := os
  exact ⟨v, H', I.call (h' := hh) (g' := g) (d' := d) (t' := t) (ch := []) un hok bare (fun b z => absurd z (by simp)), r, q⟩
end
def tCall (sp : Sp) (dvs : List V) (E : XK) (t : TA) : TE := fun σ H Q => t σ H fun vs H1 => sp (vs ++ dvs) H1 Q E
def Binds (K : PySem.W.Frag) (fd : FuncData) (ps : List Str) (ds : List Value) : Prop :=
  ∀ (s : Shared) (us : List Value), K.In s.heap → (us ++ ds).length = ps.length → BindsTo s fd ⟨us, []⟩ (ps.zip (us ++ ds))
theorem Binds.all {K : PySem.W.Frag} {fd : FuncData} {ps : List Str} (h : ∀ us : List Value, us.length = ps.length → bindArgs fd ⟨us, []⟩ = pure (ps.zip us)) : Binds K fd ps [] := fun s us _ hl => by
  rw [List.append_nil] at hl ⊢
  exact .of_eq (h us hl)
def Passes (CX : CXT) (X : Cx) (E : XK) : Prop := ∀ (pins : List (Addr × Obj)) (σ : St) (H : Hp) (s : Shared) (e : Value) (s' : Shared), Inv X pins σ H s → CX X.A X.stack H s E e s' → X.xe e s'
section
variable {X : Cx} {CX : CXT} {k : Nat} {f C : Addr} {fd : FuncData} {ps : List Str} {sp : Sp} {dvs : List V} {ds : List Value} {E : XK} {x m : Str} {p pos apos : Pos} {e o : Expr} {es : List Expr} {ta : TE} {t : TA}
theorem run_fn {pins : List (Addr × Obj)} {σ : St} {H : Hp} {s : Shared} {Q : VK} {us : List Value} {vs : List V} (F : FnOk X.prog X.w X.K X.mg X.base CX k f fd ps sp) (hr : Room k X.A) (hb : Binds X.K fd ps ds) (hd : Vals dvs ds) (hx : Passes CX X E)
    (I : Inv X pins σ H s) (r : Vals vs us) (h : sp (vs ++ dvs) H Q E) : wpAny (model X.prog X.w) X.A (call (.ref f) us) (EP X pins σ Q) X.xe s := by
  have r2 : Vals (vs ++ dvs) (us ++ ds) := r.append hd
  have hl : (us ++ ds).length = ps.length := by rw [← r2.length]; exact F.len _ _ _ _ h
  refine wpAny_call (codeAny_mono (F.run X.A X.stack s H ⟨us, []⟩ (us ++ ds) (vs ++ dvs) Q E hr I.env0 (hb s us I.kIn hl) r2 h) fun r s' hq => ?_)
  cases r with
  | error e => exact hx pins σ H s e s' I hq
  | ok fl =>
    cases fl with
    | ret u => exact I.after hq
    | next => exact False.elim hq
    | brk => exact False.elim hq
    | cont => exact False.elim hq
theorem pe_call (F : FnOk X.prog X.w X.K X.mg X.base CX k f fd ps sp) (hr : Room k X.A) (hg : Gl X x) (hm : X.mg x = some (.ref f)) (hk : PySem.W.keepIn X.K (.ref f) = true) (hb : Binds X.K fd ps ds) (hd : Vals dvs ds) (hx : Passes CX X E)
    (ha : PA X (e :: es) t) (hdb : (x == ("__debug__" : Str)) = false := by decide) (he : starEach (e :: es) X.env = (false, eval e X.env) :: starEach es X.env := by rfl) (hpl : (backTo pos (starEach es X.env)).any (·.1) = false := by rfl) :
    PE X (.Call (.Name x p) (e :: es) [] pos) (tCall sp dvs E t) := by
  intro pins s σ H Q I h
  refine wpAny_Call_Name_kw (ld_glob I hg hm ?_ hdb)
  refine PySem.W.callWith_K (h₀ := X.base) I.ok.mod.kin hk (thn (ha pos pins s σ H _ I h) fun us s1 ⟨vs, H1, I1, r, q⟩ => ⟨I1.kIn, ?_⟩) he hpl
  exact run_fn F hr hb hd hx I1 r q
structure Mk (K : PySem.W.Frag) (C f : Addr) : Prop where
  makes : PySem.W.makesIn K C = true
  init : PySem.W.findIn K (.ref C) "__init__" = some (some (.ref f))
  fn : PySem.W.isFn K (.ref f) = true
  kp : PySem.W.keepIn K (.ref C) = true
end
section
variable {X : Cx} {CX : CXT} {k : Nat} {f C : Addr} {fd : FuncData} {ps ks : List Str} {sp : Sp} {E : XK} {x m : Str} {p pos apos kpos : Pos} {e o : Expr} {es : List Expr} {kws : List Keyword} {te ta : TE} {t tk : TA} {nm : Option Str}
structure KBinds (K : PySem.W.Frag) (fd : FuncData) (ps ks : List Str) (g : List Value → List Value → List Value) (gV : List V → List V → List V) : Prop where
  to : ∀ (s : Shared) (us ws : List Value), K.In s.heap → (g us ws).length = ps.length → BindsTo s fd ⟨us, ks.zip ws⟩ (ps.zip (g us ws))
  rel : ∀ {vs : List V} {us : List Value} {zs : List V} {ws : List Value}, Vals vs us → Vals zs ws → Vals (gV vs zs) (g us ws)
variable {g : List Value → List Value → List Value} {gV : List V → List V → List V}
end
structure FnScope (N P : List Str) (sc : Scope) : Prop where
  kind : sc.kind = .function
  co : sc.isCoroutine = false
  gen : sc.isGenerator = false
  nd : N.Nodup
  pre : N.take P.length = P
  par : ∀ x ∈ P, sc.names.lookup x = some .local ∨ sc.names.lookup x = some .cell
  nofree : ∀ y ∈ sc.names, y.2 ≠ .free
theorem bindL_out {kindOf : Str → Option NameKind} {x : Str} : ∀ {binds : List (Str × Value)} {m : Str → Option Value}, (∀ v, (x, v) ∉ binds) → bindL kindOf binds m x = m x
  | [], _, _ => rfl
  | (n, v) :: r, m, h => by
    unfold bindL
    rw [bindL_out fun w hw => h w (List.mem_cons_of_mem _ hw)]
    split
    · have : x ≠ n := by rintro rfl; exact h v List.mem_cons_self
      simp [this]
    · rfl
theorem bindC_out {kindOf : Str → Option NameKind} {x : Str} : ∀ {binds : List (Str × Value)} {m : Str → Option Value}, (∀ v, (x, v) ∉ binds) → bindC kindOf binds m x = m x
  | [], _, _ => rfl
  | (n, v) :: r, m, h => by
    unfold bindC
    rw [bindC_out fun w hw => h w (List.mem_cons_of_mem _ hw)]
    split
    · rfl
    · have : x ≠ n := by rintro rfl; exact h v List.mem_cons_self
      simp [this]
theorem bindL_get {kindOf : Str → Option NameKind} {x : Str} {v : Value} : ∀ {P : List Str} {vs : List Value} {i : Nat} {m : Str → Option Value}, P.Nodup → P[i]? = some x → vs[i]? = some v → kindOf x = some .local →
    bindL kindOf (P.zip vs) m x = some v
  | [], _, _, _, _, h, _, _ => by simp at h
  | _ :: _, [], _, _, _, _, h, _ => by simp at h
  | p :: P, w :: vs, 0, m, nd, h1, h2, hk => by
    simp at h1 h2; subst h1; subst h2
    show bindL kindOf ((p, w) :: P.zip vs) m p = _
    unfold bindL
    rw [bindL_out fun v hv => (List.nodup_cons.mp nd).1 (List.of_mem_zip hv).1, if_pos hk]
    simp
  | p :: P, w :: vs, i + 1, m, nd, h1, h2, hk => by
    show bindL kindOf ((p, w) :: P.zip vs) m x = _
    unfold bindL
    exact bindL_get (i := i) (List.nodup_cons.mp nd).2 (by simpa using h1) (by simpa using h2) hk
theorem bindC_get {kindOf : Str → Option NameKind} {x : Str} {v : Value} : ∀ {P : List Str} {vs : List Value} {i : Nat} {m : Str → Option Value}, P.Nodup → P[i]? = some x → vs[i]? = some v → kindOf x ≠ some .local →
    bindC kindOf (P.zip vs) m x = some v
  | [], _, _, _, _, h, _, _ => by simp at h
  | _ :: _, [], _, _, _, _, h, _ => by simp at h
  | p :: P, w :: vs, 0, m, nd, h1, h2, hk => by
    simp at h1 h2; subst h1; subst h2
    show bindC kindOf ((p, w) :: P.zip vs) m p = _
    unfold bindC
    rw [bindC_out fun v hv => (List.nodup_cons.mp nd).1 (List.of_mem_zip hv).1, if_neg hk]
    simp
  | p :: P, w :: vs, i + 1, m, nd, h1, h2, hk => by
    show bindC kindOf ((p, w) :: P.zip vs) m x = _
    unfold bindC
    exact bindC_get (i := i) (List.nodup_cons.mp nd).2 (by simpa using h1) (by simpa using h2) hk
def start (N : List Str) (vs : List V) : St := vs.map some ++ List.replicate (N.length - vs.length) none
def cxOf (CX : CXT) (P : Program) (w : World) (K : PySem.W.Frag) (mg : Str → Option Value) (base : Heap) (N : List Str) (qual : Str) (scope : Scope) (f : Addr) (cd : Value) (A : Around) (outer : List Env) (s : Shared) (H : Hp) (E : XK) : Cx where
  prog := P
  w := w
  K := K
  mg := mg
  base := base
  A := A.deeper (envOfC qual scope s.heap.objs.size f cd)
  N := N
  s₀ := s
  H₀ := H
  env := envOfC qual scope s.heap.objs.size f cd
  outer := outer
  stack := envOfC qual scope s.heap.objs.size f cd :: outer
  ex := []
  calm := A.handled.isNone
  fn := fun _ => true
  pn := []
  xe := fun e s' => wpAny (model P w) (A.deeper (envOfC qual scope s.heap.objs.size f cd)) (leaving (envOfC qual scope s.heap.objs.size f cd) e) (fun _ s'' => CX A outer H s E e s'') (fun e' s'' => CX A outer H s E e' s'') s'
theorem cell_has {sc : Scope} {n : Nat} {x : Str} (h : sc.names.lookup x = some .cell) : ∃ c, (cellsFrom n sc.names []).lookup x = some c := by
  have q := PySem.W.cellsFrom_some sc.names n [] (.inl h)
  exact Option.isSome_iff_exists.mp q
theorem inv_start {CX : CXT} {P : Program} {w : World} {K : PySem.W.Frag} {mg : Str → Option Value} {base : Heap} {N ps : List Str} {qual : Str} {scope : Scope} {f : Addr} {cd : Value} {A : Around} {outer : List Env} {s s1 : Shared} {H : Hp} {E : XK} {us : List Value} {vs : List V}
    (S : FnScope N ps scope) (e0 : Env0 P w K mg base A outer s H) (hl : vs.length = ps.length) (r : Vals vs us)
    (x : InCallC s s.heap.objs.size (bindL (envOfC qual scope s.heap.objs.size f cd).kindOf (ps.zip us) fun _ => none) (cellsFrom (s.heap.objs.size + 1) scope.names []) (bindC (envOfC qual scope s.heap.objs.size f cd).kindOf (ps.zip us) fun _ => none) s1) :
    Inv (cxOf CX P w K mg base N qual scope f cd A outer s H E) [] (start N vs) H s1 := by
  have hpl : ps.length ≤ N.length := by have := congrArg List.length S.pre; rw [List.length_take] at this; omega
  obtain ⟨h1, tk, rfl, hk⟩ := x.done
  have noA : ∀ b : Addr, b ∉ (cxOf CX P w K mg base N qual scope f cd A outer s H E).ex := fun b z => absurd (show b ∈ ([] : List Addr) from z) (by simp)
  have hq : Hq (cxOf CX P w K mg base N qual scope f cd A outer s H E) := by
    rcases e0.hq with z | ⟨e, C, z, L, fr⟩
    · exact .inl z
    · refine .inr ⟨e, C, z, L.1, fun i a q => ?_⟩
      obtain ⟨o, K', vs, r1, r⟩ := L.2 i a q
      obtain ⟨f1, f2⟩ := fr a (List.mem_of_getElem? q)
      exact ⟨o, K', vs, .inr ⟨r1, f1, f2, noA a⟩, r⟩
  refine ⟨⟨e0.mod, S.kind, rfl, rfl, Nat.le_refl _, fun y z c h1 h2 => ?_, fun y hy => ?_, fun y c _ h => ?_, fun z => Option.isNone_iff_eq_none.mp z, hq, Around.frames_deeper e0.frames, .inr ⟨rfl, rfl⟩, fun b z => absurd z (noA b), e0.bs, e0.bsz, fun b _ _ => noA b, fun b z => absurd z (noA b), e0.funs, e0.frf⟩,
    rfl, e0.bare, Un.kept hk, ⟨_, x.toInCall.ns, fun i y v h1 h2 h3 => ?_⟩, fun y c h => ⟨_, x.cell y c h⟩, e0.hok.fresh (Nat.le_refl _), fun y c h => ?_, fun p hp => absurd (show p ∈ ([] : List (Addr × Obj)) from hp) (by simp), e0.hok.kept hk, ?_⟩
  · exact name_of_addr x.apart (PySem.mem_of_lookup h1) (PySem.mem_of_lookup h2)
  · have hy : scope.names.lookup y = some .cell ∨ scope.names.lookup y = some .free := hy
    rcases hy with hy | hy
    · exact cell_has hy
    · exact absurd rfl (S.nofree _ (PySem.mem_of_lookup hy))
  · exact Nat.le_of_lt (x.above y c (PySem.mem_of_lookup h))
  · have hi : i < vs.length := by
      unfold start at h2
      by_cases hi : i < vs.length
      · exact hi
      · rw [List.getElem?_append_right (by simpa using hi)] at h2
        rw [List.getElem?_replicate] at h2
        split at h2 <;> cases h2
    have ha : vs[i]? = some v := by
      unfold start at h2
      rw [List.getElem?_append_left (by simpa using hi), List.getElem?_map] at h2
      cases e : vs[i]? with
      | none => rw [e] at h2; cases h2
      | some a => rw [e] at h2; cases h2; rfl
    obtain ⟨u, hu, rv⟩ := r.get ha
    have hp : ps[i]? = some y := by
      rw [← S.pre, List.getElem?_take_of_lt (by omega)]; exact h1
    have ndP : ps.Nodup := by rw [← S.pre]; exact S.nd.sublist (List.take_sublist _ _)
    refine ⟨u, rv, ?_⟩
    rcases S.par y (List.mem_of_getElem? hp) with k | k
    · exact .inl ⟨k, bindL_get ndP hp hu k⟩
    · obtain ⟨c, e⟩ := cell_has (n := s.heap.objs.size + 1) k
      refine .inr ⟨.inl k, c, e, ?_⟩
      have q := x.cell y c e
      rw [bindC_get ndP hp hu (by show scope.names.lookup y ≠ _; rw [k]; decide)] at q
      exact q
  · exact e0.hok.fresh (Nat.le_of_lt (x.above y c (PySem.mem_of_lookup h)))
  · unfold start
    show _ = N.length
    rw [List.length_append, List.length_map, List.length_replicate]
    omega
theorem fn_of {CX : CXT} {P : Program} {w : World} {K : PySem.W.Frag} {mg : Str → Option Value} {base : Heap} {k : Nat} {f : Addr} {name qual : Str} {params : Arguments} {body : List Stmt} {scope : Scope} {dV kV doc pm cdv ct oc : Value} {an od : Option Addr}
    {osl : Array (Option Value)} {N ps : List Str} {sp : Sp} (lk : K.lookup f = some ⟨oc, od, .func (PySem.W.fnOf name qual params body scope dV kV doc pm an cdv ct), osl⟩) (hcd : PySem.W.codeIn K cdv qual = true) (S : FnScope N ps scope)
    (len : ∀ vs H Q E, sp vs H Q E → vs.length = ps.length)
    (hbody : ∀ (A : Around) (outer : List Env) (s : Shared) (H : Hp) (vs : List V) (Q : VK) (E : XK), Room k (A.deeper (envOfC qual scope s.heap.objs.size f cdv)) → sp vs H Q E →
      ∃ t, PSs (cxOf CX P w K mg base N qual scope f cdv A outer s H E) body t ∧ t (Ends.fin Q) (start N vs) H) :
    FnOk P w K mg base CX (k + 1) f (PySem.W.fnOf name qual params body scope dV kV doc pm an cdv ct) ps sp := by
  refine ⟨len, fun A outer s H args us vs Q E hr e0 hb r hsp => ?_⟩
  have hl := len _ _ _ _ hsp
  have KX : K.In s.heap := e0.mod.kin.keeps fun b o e => (e0.bs b o e).1
  have lim : s.heap.NoLimit := e0.mod.nolimit.keeps fun b o e => (e0.bs b o e).1
  have hkind : ∀ y ∈ ps.zip us, scope.names.lookup y.1 = some .local ∨ (scope.names.lookup y.1 = some .cell ∧ ((cellsFrom (s.heap.objs.size + 1) scope.names []).lookup y.1).isSome = true) := fun ⟨n, v⟩ hy => by
    rcases S.par n (List.of_mem_zip hy).1 with q | q
    · exact .inl q
    · exact .inr ⟨q, PySem.W.cellsFrom_some _ _ _ (.inl q)⟩
  refine codeAny_call_function hr.depth (KX _ _ lk) rfl S.co S.gen rfl (PySem.W.codeRec_of KX hcd) (hb _ _ _ _ ?_)
  refine wpAny_newFunctionEnv_cells S.kind hkind fun env he s1 x => ?_
  subst he
  refine ⟨lim.keeps x.toInCall.keep, codeAny_func ?_⟩
  obtain ⟨t, ht, hq⟩ := hbody A outer s H vs Q E (hr.deeper _) hsp
  have I : Inv (cxOf CX P w K mg base N qual scope f cdv A outer s H E) [] (start N vs) H s1 := inv_start S e0 hl r x
  refine wpAny_mono (ht [] s1 (start N vs) H _ I hq) (fun fl s' hs => ?_) fun e s' hs => hs
  have fin : ∀ {σ' : St} {H' : Hp} {v : V} {u : Value}, Inv (cxOf CX P w K mg base N qual scope f cdv A outer s H E) [] σ' H' s' → RelV v u → Q v H' → CE outer P w H s Q u s' :=
    fun {σ' H' v u} J rv q => ⟨v, H', J.os, J.bare, J.base, J.hok, rv, q⟩
  cases fl with
  | ret u =>
    obtain ⟨v, σ', H', J, rv, q⟩ := hs
    exact fin J rv q
  | next =>
    obtain ⟨σ', H', J, q⟩ := hs
    exact fin (v := V.non) (u := Value.none) J rfl q
  | brk =>
    obtain ⟨_, _, _, q⟩ := hs
    exact False.elim q
  | cont =>
    obtain ⟨_, _, _, q⟩ := hs
    exact False.elim q
end L2
namespace L2
open PySem PySem.Spec PyProof.Rows
section
variable {X : Cx} {x : Str} {p pos : Pos} {e : Expr} {es : List Expr} {t : TA} {id T : String} {r : List V → Hp → VK → Prop}
def tCB (r : List V → Hp → VK → Prop) (t : TA) : TE := fun σ H Q => t σ H fun vs H1 => r vs H1 Q
theorem pe_callB (hc : CallR X (.builtin id) r) (hg : Gl X x) (hm : X.mg x = none) (hv : bootBuiltins x = some (.builtin id)) (ha : PA X (e :: es) t) (hn : x ≠ "__name__" := by decide) (hdb : (x == ("__debug__" : Str)) = false := by decide)
    (he : starEach (e :: es) X.env = (false, eval e X.env) :: starEach es X.env := by rfl) (hpl : (backTo pos (starEach es X.env)).any (·.1) = false := by rfl) : PE X (.Call (.Name x p) (e :: es) [] pos) (tCB r t) := by
  intro pins s σ H Q I h
  refine wpAny_Call_Name_kw (ld_blt I hg hm hv ?_ hn hdb)
  exact PyProof.Rows.callWith_builtin1 (thn (ha pos pins s σ H _ I h) fun us s1 ⟨vs, H1, I1, r1, q1⟩ => hc pins s1 σ H1 vs us Q I1 r1 q1) he hpl
theorem pe_callTy (hc : CallR X (.type T) r) (hg : Gl X x) (hm : X.mg x = none) (hv : bootBuiltins x = some (.type T)) (ha : PA X (e :: es) t) (hn : x ≠ "__name__" := by decide) (hdb : (x == ("__debug__" : Str)) = false := by decide)
    (he : starEach (e :: es) X.env = (false, eval e X.env) :: starEach es X.env := by rfl) (hpl : (backTo pos (starEach es X.env)).any (·.1) = false := by rfl) : PE X (.Call (.Name x p) (e :: es) [] pos) (tCB r t) := by
  intro pins s σ H Q I h
  refine wpAny_Call_Name_kw (ld_blt I hg hm hv ?_ hn hdb)
  exact PyProof.Rows.callWith_type1 (thn (ha pos pins s σ H _ I h) fun us s1 ⟨vs, H1, I1, r1, q1⟩ => hc pins s1 σ H1 vs us Q I1 r1 q1) he hpl
end
end L2
namespace HT
open PySem PyProof.Rows
section
open PySem.SeqAt
open PySem.AutoSeq1 (wpAny_loadPart')
open PySem.MeetsSeq PySem.MeetsSeq2 PySem.MeetsSeq3
end
section
variable {prog : Program} {w : World} {A : Around} {E : Value → Shared → Prop} {s : Shared}
def sIx (n d : Nat) : Option Int → Nat
  | none => d
  | some v => if v < 0 then (v + (n : Int)).toNat else min v.toNat n
theorem sIx_none (n d : Nat) : sIx n d none = d := rfl
theorem sIx_nat (n d k : Nat) : sIx n d (some (k : Int)) = min k n := by
  show (if (k : Int) < 0 then ((k : Int) + (n : Int)).toNat else min (k : Int).toNat n) = min k n
  rw [if_neg (by omega), Int.toNat_natCast]
end
end HT
namespace L2
open PySem PySem.Spec PyProof.Rows
abbrev TO := St → Hp → (Option Int → Hp → Prop) → Prop
def PO (X : Cx) (e : Option Expr) (t : TO) : Prop :=
  ∀ (pins : List (Addr × Obj)) (s : Shared) (σ : St) (H : Hp) (Q : Option Int → Hp → Prop), Inv X pins σ H s → t σ H Q →
    wpAny (model X.prog X.w) X.A (evalPart e X.env) (fun u s' => ∃ o H', Inv X pins σ H' s' ∧ IsPart u o ∧ Q o H') X.xe s
def tNoPart : TO := fun _ H Q => Q none H
def tPart (t : TE) : TO := fun σ H Q => t σ H fun x H1 => IsInt x fun i => Q (some i) H1
section
variable {X : Cx} {e : Expr} {te : TE} {lo hi : Option Expr} {tl th : TO} {pos p2 : Pos}
theorem po_none : PO X none tNoPart := by
  intro pins s σ H Q I h
  rw [evalPart_none]
  exact wpAny_pure ⟨none, H, I, .none, h⟩
theorem po_some (h : PE X e te) : PO X (some e) (tPart te) := by
  intro pins s σ H Q I hw
  rw [evalPart_some]
  refine thn (h pins s σ H _ I hw) fun u s1 ⟨x, H1, I1, r1, q1⟩ => ?_
  obtain ⟨i, rfl, q⟩ := q1
  obtain ⟨t, rfl⟩ := r1
  exact ⟨some i, H1, I1, .int i t, q⟩
def SlR (X : Cx) (r : V → Option Int → Option Int → Hp → VK → Prop) : Prop :=
  ∀ (pins : List (Addr × Obj)) (s : Shared) (σ : St) (H : Hp) (x : V) (v vl vu : Value) (lo hi : Option Int) (sl : Addr) (Q : VK), Inv X pins σ H s → RelV x v → s.heap.IsSliceOf sl vl vu .none → IsPart vl lo → IsPart vu hi → r x lo hi H Q →
    ∃ T id, typeLookup (.type T) "__getitem__" = pure (some (.builtin id)) ∧ s.TypeIs v T ∧ wpAny (model X.prog X.w) X.A (getItem v (.ref sl)) (EP X pins σ Q) X.xe s
def tSl (r : V → Option Int → Option Int → Hp → VK → Prop) (te : TE) (tl th : TO) : TE := fun σ H Q => te σ H fun x H1 => tl σ H1 fun l H2 => th σ H2 fun u H3 => r x l u H3 Q
theorem pe_slice {r : V → Option Int → Option Int → Hp → VK → Prop} (hr : SlR X r) (he : PE X e te) (hl : PO X lo tl) (hu : PO X hi th) : PE X (.Subscript e (.Slice lo hi none p2) pos) (tSl r te tl th) := by
  intro pins s σ H Q I h
  refine Subscript_ (thn (he pins s σ H _ I h) fun v s1 ⟨x, H1, I1, r1, q1⟩ => ?_)
  refine wpAny_Slice (thn (hl pins s1 σ H1 _ I1 q1) fun vl s2 ⟨l, H2, I2, pl, q2⟩ => thn (hu pins s2 σ H2 _ I2 q2) fun vu s3 ⟨u, H3, I3, pu, q3⟩ => ?_)
  rw [evalPart_none]
  refine wpAny_pure ?_
  have I4 : Inv X pins σ H3 { s3 with heap := s3.heap.push { cls := .type "slice", data := .fields #[vl, vu, .none] } } := I3.kept (t' := s3.toks) fun b ob q => Heap.get?_push_of_some _ q
  obtain ⟨T, id, hT, ht, hg⟩ := hr pins { s3 with heap := s3.heap.push { cls := .type "slice", data := .fields #[vl, vu, .none] } } σ H3 x v vl vu l u s3.heap.objs.size Q I4 r1 (Heap.IsSliceOf.new ..) pl pu q3
  show wpAny (model X.prog X.w) X.A (subscriptTail e (.Slice lo hi none p2) v (.ref s3.heap.objs.size)) (EP X pins σ Q) X.xe { s3 with heap := s3.heap.push { cls := .type "slice", data := .fields #[vl, vu, .none] } }
  exact tail_any (ops := [.ref s3.heap.objs.size, v]) ht hT hg (by with_unfolding_all rfl)
def cutV (xs : List V) (lo hi : Option Int) : List V := (xs.drop (HT.sIx xs.length 0 lo)).take (HT.sIx xs.length xs.length hi - HT.sIx xs.length 0 lo)
theorem cutV_length (xs : List V) (lo hi : Option Int) : (cutV xs lo hi).length ≤ xs.length := by
  unfold cutV
  rw [List.length_take, List.length_drop]
  omega
inductive I_rSlT (K : PySem.W.Frag) (x : V) (lo : Option Int) (hi : Option Int) (H : Hp) (Q : VK) : Prop
  | mk (a : _) (xs : _) (q1 : x = .ref a) (q2 : SqT K H a xs) (q3 : ¬ (HT.sIx xs.length 0 lo = 0 ∧ HT.sIx xs.length xs.length hi = xs.length)) (q4 : ∀ p, H p = none → Q (.ref p) (upd H p (.tup (cutV xs lo hi))))
inductive I_rCatT (K : PySem.W.Frag) (x : V) (y : V) (H : Hp) (Q : VK) : Prop
  | mk (a : _) (b : _) (xs : _) (ys : _) (q1 : x = .ref a) (q2 : y = .ref b) (q3 : SqT K H a xs) (q4 : SqT K H b ys) (q5 : xs ≠ []) (q6 : xs.length + ys.length ≤ sizeLine) (q7 : (ys = [] → Q (.ref a) H)) (q8 : (ys ≠ [] → ∀ p, H p = none → Q (.ref p) (upd H p (.tup (xs ++ ys)))))
end
end L2
namespace L2
open PySem PySem.Spec PyProof.Rows
def ixN (n : Nat) (i : Int) : Option Nat := if 0 ≤ i then (if i < n then some i.toNat else none) else if -(n : Int) ≤ i then some (i + n).toNat else none
def atI {α : Type} (xs : List α) (i : Int) : Option α := (ixN xs.length i).bind fun j => xs[j]?
theorem ixN_seq {n : Nat} {i : Int} {j : Nat} (h : ixN n i = some j) : seqIndex? i n = some j ∧ j < n ∧ -(n : Int) ≤ i ∧ i < n := by
  unfold ixN at h
  by_cases h0 : 0 ≤ i
  · rw [if_pos h0] at h
    by_cases h1 : i < n
    · rw [if_pos h1] at h
      have e : i.toNat = j := Option.some.inj h
      exact ⟨by rw [seqIndex_of h0 h1, e], by omega, by omega, h1⟩
    · rw [if_neg h1] at h; cases h
  · rw [if_neg h0] at h
    by_cases h1 : -(n : Int) ≤ i
    · rw [if_pos h1] at h
      have e : (i + n).toNat = j := Option.some.inj h
      exact ⟨by rw [seqIndex_neg (by omega) h1, e], by omega, h1, by omega⟩
    · rw [if_neg h1] at h; cases h
theorem atI_get {α : Type} {xs : List α} {i : Int} {v : α} (h : atI xs i = some v) : ∃ j, seqIndex? i xs.length = some j ∧ xs[j]? = some v ∧ j < xs.length ∧ -(xs.length : Int) ≤ i ∧ i < xs.length := by
  unfold atI at h
  cases e : ixN xs.length i with
  | none => rw [e] at h; cases h
  | some j =>
    rw [e] at h
    obtain ⟨h1, h2, h3, h4⟩ := ixN_seq e
    exact ⟨j, h1, h, h2, h3, h4⟩
theorem atI_nat {α : Type} {xs : List α} {j : Nat} {v : α} (h : xs[j]? = some v) : atI xs (j : Int) = some v := by
  have hj : j < xs.length := (List.getElem?_eq_some_iff.mp h).1
  have e : ixN xs.length (j : Int) = some j := by
    unfold ixN
    rw [if_pos (by omega), if_pos (by omega)]; simp
  unfold atI; rw [e]; exact h
def PlainIx (b : Expr) : Prop := ∀ o i, subscripted b false o i = operate [o, i] (getItem o i)
def IxR (X : Cx) (r : R2) : Prop :=
  ∀ (value slice : Expr) (pins : List (Addr × Obj)) (s : Shared) (σ : St) (H : Hp) (x y : V) (v u : Value) (Q : VK), Inv X pins σ H s → RelV x v → RelV y u → r x y H Q →
    subscripted slice false v u = operate [v, u] (getItem v u) → wpAny (model X.prog X.w) X.A (subscriptTail value slice v u) (EP X pins σ Q) X.xe s
def MtR (X : Cx) (id : String) (r : V → List V → Hp → VK → Prop) : Prop :=
  ∀ (pins : List (Addr × Obj)) (s : Shared) (σ : St) (H : Hp) (x : V) (xs : List V) (v : Value) (us : List Value) (Q : VK), Inv X pins σ H s → RelV x v → Vals xs us → r x xs H Q →
    wpAny (model X.prog X.w) X.A (call (.builtin id) (v :: us)) (EP X pins σ Q) X.xe s
section
variable {X : Cx} {a b : Expr} {ta tb : TE} {pos : Pos}
theorem pe_ix {r : R2} (hr : IxR X r) (ha : PE X a ta) (hb : PE X b tb) (hs : PlainIx b) : PE X (.Subscript a b pos) (tOp r ta tb) := by
  intro pins s σ H Q I h
  exact Subscript_ (binT ha hb I h fun v u s2 x y H2 I2 rx ry q => hr a b pins s2 σ H2 x y v u Q I2 rx ry q (hs _ _))
inductive Ixd (S : Addr → List V → Prop) (x y : V) (Q : V → Prop) : Prop
  | mk (p : Addr) (xs : List V) (i : Int) (v : V) (h1 : x = .ref p) (h2 : y = .int i) (s : S p xs) (a : atI xs i = some v) (q : Q v)
def rIxL (K : PySem.W.Frag) : R2 := fun x y H Q => Ixd (SqL K H) x y fun v => Q v H
inductive I_rIxS  (x : V) (y : V) (H : Hp) (Q : VK) : Prop
  | mk (z : _) (i : _) (c : _) (q1 : x = .str z) (q2 : y = .int i) (q3 : z.length ≤ sizeLine) (q4 : atI z.cps.toList i = some c) (q5 : Q (.str ⟨#[c]⟩) H)
theorem ix_list : IxR X (rIxL X.K) := by
  intro value slice pins s σ H x y v u Q I rx ry h hs
  obtain ⟨p, xs, i, z, rfl, rfl, hq, he, q⟩ := h
  cases rx
  obtain ⟨t, rfl⟩ := ry
  obtain ⟨its, r, pl, hz⟩ := I.list hq
  obtain ⟨j, h1, h2, h3, h4, h5⟩ := atI_get he
  obtain ⟨w, ew, rw'⟩ := r.get h2
  have hl := r.length
  have hn := line63
  have fin : EP X pins σ Q w s := ⟨z, H, I, rw', q⟩
  by_cases h0 : 0 ≤ i
  · have hj : i.toNat = j := by
      rw [seqIndex_of h0 h5] at h1
      exact Option.some.inj h1
    exact item_listR pl.isList h0 (by omega) (by rw [hj]; simpa using ew) fin hs
  · have hj : (i + (its.toArray.size : Int)).toNat = j := by
      rw [seqIndex_neg (by omega) h4] at h1
      rw [List.size_toArray, ← hl]
      exact Option.some.inj h1
    exact subscriptTail_builtinR (x := w) pl.isList.typeIs slot_list_getitem.lookup
      (wpAny_getItem_list_neg (Q := fun r s' => r = w ∧ EP X pins σ Q r s') pl.isList (by omega) (by rw [List.size_toArray] <;> omega) (by omega) (by rw [hj]; simpa using ew) ⟨rfl, fin⟩) hs
theorem mapSeq_set (its : List Value) (n j : Nat) (u : Value) : Obj.mapSeq (·.setIfInBounds j u) { cls := .type "list", data := .seq its.toArray n } = { cls := .type "list", data := .seq (its.set j u).toArray n } := by
  simp [Obj.mapSeq]
theorem Inv.lst {pins : List (Addr × Obj)} {σ : St} {H : Hp} {s : Shared} {p : Addr} {xs : List V} (I : Inv X pins σ H s) (h : H p = some (.lst xs)) :
    ∃ (its : List Value) (n : Nat), Vals xs its ∧ s.heap.get? p = some { cls := .type "list", data := .seq its.toArray n } ∧ xs.length ≤ sizeLine := by
  obtain ⟨z, its, n, r, e⟩ := I.hok p _ h
  exact ⟨its, n, r, e, z⟩
theorem Inv.lstUpd {pins : List (Addr × Obj)} {σ : St} {H : Hp} {s : Shared} {p : Addr} {xs ys : List V} {its its' : List Value} {n n' : Nat} {f : Obj → Obj} (I : Inv X pins σ H s) (h : H p = some (.lst xs))
    (ho : s.heap.get? p = some { cls := .type "list", data := .seq its.toArray n }) (hf : f { cls := .type "list", data := .seq its.toArray n } = { cls := .type "list", data := .seq its'.toArray n' }) (r : Vals ys its') (hz : ys.length ≤ sizeLine) (t : Nat) :
    Inv X pins σ (upd H p (.lst ys)) { s with heap := s.heap.update p f, toks := t } := by
  have e : (s.heap.update p f).get? p = some { cls := .type "list", data := .seq its'.toArray n' } := by
    rw [Heap.get?_update_self f ho (by rw [hf] <;> rfl), hf]
  refine I.write (x := p) (e := p) (by rw [h]; trivial) (.inl rfl) (fun b u hb q => (Heap.get?_update_other _ _ (Ne.symm hb)).trans q) ⟨_, e⟩ ?_
  exact ⟨hz, its', n', r, e⟩
inductive I_rSetL  (o : V) (i : V) (v : V) (H : Hp) (Q : Hp → Prop) : Prop
  | mk (p : _) (xs : _) (k : _) (j : _) (q1 : o = .ref p) (q2 : i = .int k) (q3 : H p = some (.lst xs)) (q4 : ixN xs.length k = some j) (q5 : Q (upd H p (.lst (xs.set j v))))
def rSetL : V → V → V → Hp → (Hp → Prop) → Prop := fun o i v H Q => I_rSetL  o i v H Q
theorem set_list : PSet X rSetL := by
  intro pins s σ H o i v ov iv u Q I ro ri rv h
  obtain ⟨p, xs, k, j, rfl, rfl, hp, hj, q⟩ := h
  cases ro
  obtain ⟨t, rfl⟩ := ri
  obtain ⟨its, n, r, ho, hz⟩ := I.lst hp
  obtain ⟨h1, h2, h3, h4⟩ := ixN_seq hj
  have hl := r.length
  have hn := line63
  have I' : Inv X pins σ (upd H p (.lst (xs.set j v))) { s with heap := s.heap.update p (Obj.mapSeq (·.setIfInBounds j u)) } :=
    I.lstUpd hp ho (mapSeq_set its n j u) (r.set rv j) (by rw [List.length_set]; exact hz) s.toks
  by_cases h0 : 0 ≤ k
  · have hk : k.toNat = j := by
      rw [seqIndex_of h0 h4] at h1
      exact Option.some.inj h1
    exact PySem.W.ki_setAt ho h0 (by omega) (by rw [List.size_toArray, ← hl]; exact h4) (by rw [hk]; exact ⟨_, I', q⟩)
  · have hk : (k + (its.toArray.size : Int)).toNat = j := by
      rw [seqIndex_neg (by omega) h3] at h1
      rw [List.size_toArray, ← hl]
      exact Option.some.inj h1
    exact PySem.W.ki_setBack ho (by omega) (by rw [List.size_toArray, ← hl]; exact h3) (by omega) (by rw [hk]; exact ⟨_, I', q⟩)
theorem slice_bounds (lo hi : Option Int) (n : Nat) : (sliceBounds lo hi none n).1 = ((HT.sIx n 0 lo : Nat) : Int) ∧ (sliceBounds lo hi none n).2.1 = ((HT.sIx n n hi : Nat) : Int) ∧ (sliceBounds lo hi none n).2.2 = 1 := by
  refine ⟨?_, ?_, rfl⟩
  · cases lo with
    | none => simp [sliceBounds, HT.sIx]
    | some i =>
      simp only [sliceBounds, HT.sIx, Option.getD_none, show (1 : Int) > 0 by decide, if_true]
      by_cases h : i < 0
      · simp only [h, if_true] <;> omega
      · simp only [h, if_false] <;> omega
  · cases hi with
    | none => simp [sliceBounds, HT.sIx]
    | some i =>
      simp only [sliceBounds, HT.sIx, Option.getD_none, show (1 : Int) > 0 by decide, if_true]
      by_cases h : i < 0
      · simp only [h, if_true] <;> omega
      · simp only [h, if_false] <;> omega
theorem slicePick_cut (its : List Value) (lo hi : Option Int) : slicePick its.toArray lo hi none = ((its.drop (HT.sIx its.length 0 lo)).take (HT.sIx its.length its.length hi - HT.sIx its.length 0 lo)).toArray := by
  obtain ⟨h1, h2, h3⟩ := slice_bounds lo hi its.toArray.size
  unfold slicePick
  rw [h1, h2, h3]
  simp only [sliceRange_one, pick_run, List.size_toArray] <;> rfl
inductive I_rSlL (K : PySem.W.Frag) (x : V) (lo : Option Int) (hi : Option Int) (H : Hp) (Q : VK) : Prop
  | mk (a : _) (xs : _) (q1 : x = .ref a) (q2 : SqL K H a xs) (q3 : ∀ p, H p = none → Q (.ref p) (upd H p (.lst (cutV xs lo hi))))
def rSlL (K : PySem.W.Frag) : V → Option Int → Option Int → Hp → VK → Prop := fun x lo hi H Q => I_rSlL K x lo hi H Q
theorem sl_list : SlR X (rSlL X.K) := by
  intro pins s σ H x v vl vu lo hi sl Q I rx hs pl pu h
  obtain ⟨a, xs, rfl, hx, q⟩ := h
  cases rx
  obtain ⟨its, r, ht, hz⟩ := I.list hx
  have hlen := r.length
  refine ⟨"list", _, slot_list_getitem.lookup, ht.isList.typeIs, ?_⟩
  refine wpAny_getItem_list_slice ht.isList hs pl pu .none (by simp) ?_ (by rw [List.size_toArray] <;> omega)
  rw [slicePick_cut, ← hlen]
  refine ⟨.ref s.heap.objs.size, _, I.laid (t' := s.toks) (o := .lst (cutV xs lo hi)) (fun b ob q => Heap.get?_push_of_some _ q) (Nat.le_refl _) ?_, rfl, q _ (I.hok.fresh (Nat.le_refl _))⟩
  exact ⟨Nat.le_trans (cutV_length xs lo hi) hz, _, 0, (r.drop (HT.sIx xs.length 0 lo)).take (HT.sIx xs.length xs.length hi - HT.sIx xs.length 0 lo), Heap.get?_push_size _ rfl⟩
def flatV : V → Bool
  | .non => true
  | .bl _ => true
  | .int _ => true
  | .str _ => true
  | _ => false
def eqV : V → V → Bool
  | .non, .non => true
  | .bl a, .bl b => a == b
  | .bl a, .int b => (if a then 1 else 0) == b
  | .int a, .bl b => a == (if b then 1 else 0)
  | .int a, .int b => a == b
  | .str a, .str b => a == b
  | _, _ => false
theorem eqAt_V {A : Around} {s : Shared} {y x : V} {u v : Value} (ry : RelV y u) (rx : RelV x v) (fy : flatV y = true) (fx : flatV x = true) : SeqAt.EqAt A s u v (eqV y x) := by
  cases y with
  | non =>
    cases ry
    cases x with
    | non => cases rx; exact SeqAt.EqAt.same _
    | bl b => cases rx; exact SeqAt.EqAt.none_bool b
    | int b => obtain ⟨t, rfl⟩ := rx; exact SeqAt.EqAt.none_int b t
    | str b => obtain ⟨t, rfl⟩ := rx; exact SeqAt.EqAt.none_str b t
    | _ => exact absurd (show false = true from fx) Bool.false_ne_true
  | bl a =>
    cases ry
    cases x with
    | non => cases rx; exact SeqAt.EqAt.bool_none a
    | bl b => cases rx; exact SeqAt.EqAt.bool_bool a b
    | int b => obtain ⟨t, rfl⟩ := rx; exact SeqAt.EqAt.bool_int a b t
    | str b => obtain ⟨t, rfl⟩ := rx; exact SeqAt.EqAt.bool_str a b t
    | _ => exact absurd (show false = true from fx) Bool.false_ne_true
  | int a =>
    obtain ⟨t', rfl⟩ := ry
    cases x with
    | non => cases rx; exact SeqAt.EqAt.int_none a t'
    | bl b => cases rx; exact SeqAt.EqAt.int_bool a t' b
    | int b => obtain ⟨t, rfl⟩ := rx; exact SeqAt.EqAt.int_int a t' b t
    | str b => obtain ⟨t, rfl⟩ := rx; exact SeqAt.EqAt.int_str a t' b t
    | _ => exact absurd (show false = true from fx) Bool.false_ne_true
  | str a =>
    obtain ⟨t', rfl⟩ := ry
    cases x with
    | non => cases rx; exact SeqAt.EqAt.str_none a t'
    | bl b => cases rx; exact SeqAt.EqAt.str_bool a t' b
    | int b => obtain ⟨t, rfl⟩ := rx; exact SeqAt.EqAt.str_int a t' b t
    | str b => obtain ⟨t, rfl⟩ := rx; exact SeqAt.EqAt.str_str a t' b t
    | _ => exact absurd (show false = true from fx) Bool.false_ne_true
  | _ => exact absurd (show false = true from fy) Bool.false_ne_true
def eqU (x : V) (u : Value) : Bool := match u with
  | .none => eqV .non x
  | .bool b => eqV (.bl b) x
  | .int i _ => eqV (.int i) x
  | .str z _ => eqV (.str z) x
  | _ => false
theorem eqU_of {x y : V} {u : Value} (r : RelV y u) (f : flatV y = true) : eqU x u = eqV y x := by
  cases y with
  | non => cases r; rfl
  | bl b => cases r; rfl
  | int i => obtain ⟨t, rfl⟩ := r; rfl
  | str z => obtain ⟨t, rfl⟩ := r; rfl
  | _ => exact absurd (show false = true from f) Bool.false_ne_true
theorem any_eqU {x : V} : ∀ {xs : List V} {us : List Value}, Vals xs us → xs.all flatV = true → us.any (eqU x) = xs.any fun y => eqV y x
  | _, _, .nil, _ => rfl
  | y :: xs, u :: us, .cons r t, f => by
    rw [List.all_cons, Bool.and_eq_true] at f
    rw [List.any_cons, List.any_cons, eqU_of r f.1, any_eqU t f.2]
theorem mem_eqAt {A : Around} {s : Shared} {x : V} {v : Value} (rx : RelV x v) (fx : flatV x = true) : ∀ {xs : List V} {us : List Value}, Vals xs us → xs.all flatV = true → ∀ u ∈ us, SeqAt.EqAt A s u v (eqU x u)
  | _, _, .nil, _ => fun u hu => by cases hu
  | y :: xs, u :: us, .cons r t, f => fun u' hu => by
    rw [List.all_cons, Bool.and_eq_true] at f
    rcases List.mem_cons.mp hu with rfl | hu
    · rw [eqU_of r f.1]; exact eqAt_V r rx f.1 fx
    · exact mem_eqAt rx fx t f.2 u' hu
def inV (x : V) (xs : List V) : Bool := xs.any fun y => eqV y x
inductive I_rIn (K : PySem.W.Frag) (neg : Bool) (x : V) (y : V) (H : Hp) (Q : VK) : Prop
  | mk (p : _) (xs : _) (q1 : y = .ref p) (q2 : (SqL K H p xs ∨ SqT K H p xs)) (q3 : flatV x = true) (q4 : xs.all flatV = true) (q5 : Q (.bl (if neg then !inV x xs else inV x xs)) H)
def rIn (K : PySem.W.Frag) (neg : Bool) : R2 := fun x y H Q => I_rIn K neg x y H Q
theorem op_in_seq : OpR X (compareOp .In) (rIn X.K false) := by
  intro pins s σ H x y v u Q I rx ry h
  obtain ⟨p, xs, rfl, hq, fx, fs, q⟩ := h
  cases ry
  rcases hq with hq | hq
  · obtain ⟨its, r, pl, hz⟩ := I.list hq
    refine SeqAt.in_listAt (eqU x) pl.isList (fun w hw => mem_eqAt rx fx r fs w (by simpa using hw)) ⟨.bl _, H, I, rfl, ?_⟩
    rw [show its.toArray.any (eqU x) = its.any (eqU x) by simp, any_eqU r fs]
    exact q
  · obtain ⟨its, r, pl, hz⟩ := I.tuple hq
    refine SeqAt.in_tupleAt (eqU x) pl (fun w hw => mem_eqAt rx fx r fs w (by simpa using hw)) ⟨.bl _, H, I, rfl, ?_⟩
    rw [show its.toArray.any (eqU x) = its.any (eqU x) by simp, any_eqU r fs]
    exact q
theorem op_notIn_seq : OpR X (compareOp .NotIn) (rIn X.K true) := by
  intro pins s σ H x y v u Q I rx ry h
  obtain ⟨p, xs, rfl, hq, fx, fs, q⟩ := h
  cases ry
  rcases hq with hq | hq
  · obtain ⟨its, r, pl, hz⟩ := I.list hq
    refine SeqAt.notIn_listAt (eqU x) pl.isList (fun w hw => mem_eqAt rx fx r fs w (by simpa using hw)) ⟨.bl _, H, I, rfl, ?_⟩
    rw [show its.toArray.any (eqU x) = its.any (eqU x) by simp, any_eqU r fs]
    exact q
  · obtain ⟨its, r, pl, hz⟩ := I.tuple hq
    refine SeqAt.notIn_tupleAt (eqU x) pl (fun w hw => mem_eqAt rx fx r fs w (by simpa using hw)) ⟨.bl _, H, I, rfl, ?_⟩
    rw [show its.toArray.any (eqU x) = its.any (eqU x) by simp, any_eqU r fs]
    exact q
theorem call_len_seq : CallR X (.builtin "len") (fun xs H Q => ∃ p ys, xs = [.ref p] ∧ (SqL X.K H p ys ∨ SqT X.K H p ys) ∧ Q (.int ys.length) H) := by
  intro pins s σ H xs us Q I r h
  obtain ⟨p, ys, rfl, hq, q⟩ := h
  obtain ⟨u, rfl, rx⟩ := vals1 r
  cases rx
  have hn := line63
  rcases hq with hq | hq
  · obtain ⟨its, r', pl, hz⟩ := I.list hq
    have hlen := r'.length
    exact Calls.call_len_list pl.isList (by simp only [List.size_toArray] <;> omega) ⟨.int ys.length, H, I.tok _, ⟨s.toks + 1, by rw [List.size_toArray, hlen]⟩, q⟩
  · obtain ⟨its, r', pl, hz⟩ := I.tuple hq
    have hlen := r'.length
    exact len_tuple pl (by simp only [List.size_toArray] <;> omega) ⟨.int ys.length, H, I.tok _, ⟨s.toks + 1, by rw [List.size_toArray, hlen]⟩, q⟩
theorem call_list_of : CallR X (.type "list") (fun xs H Q => ∃ p ys, xs = [.ref p] ∧ (SqL X.K H p ys ∨ SqT X.K H p ys) ∧ ∀ l, H l = none → Q (.ref l) (upd H l (.lst ys))) := by
  intro pins s σ H xs us Q I r h
  obtain ⟨p, ys, rfl, hq, q⟩ := h
  obtain ⟨u, rfl, rx⟩ := vals1 r
  cases rx
  have fin : ∀ (its : List Value), Vals ys its → ys.length ≤ sizeLine → ∀ (h' : Heap) (c' : Nat), (∀ b o', s.heap.get? b = some o' → h'.get? b = some o') →
      h'.get? s.heap.objs.size = some { cls := .type "list", dict := none, data := .seq its.toArray c', slots := #[] } → EP X pins σ Q (.ref s.heap.objs.size) { s with heap := h' } := fun its r' hz h' c' kp e =>
    ⟨.ref s.heap.objs.size, _, I.laid (t' := s.toks) kp (Nat.le_refl _) (show ObjOk X.prog X.w _ h' _ (.lst ys) from ⟨hz, its, c', r', e⟩), rfl, q _ (I.hok.fresh (Nat.le_refl _))⟩
  rcases hq with hq | hq
  · obtain ⟨its, r', pl, hz⟩ := I.list hq
    have hlen := r'.length
    obtain ⟨o, ho, hc, n, hd⟩ := pl.isList
    exact call_list_seq p (.inl rfl) ho hc hd (fun h' c' kp e => fin its r' hz h' c' kp e) (by simp only [List.size_toArray] <;> omega)
  · obtain ⟨its, r', pl, hz⟩ := I.tuple hq
    have hlen := r'.length
    obtain ⟨o, ho, hc, n, hd⟩ := pl
    exact call_list_seq p (.inr rfl) ho hc hd (fun h' c' kp e => fin its r' hz h' c' kp e) (by simp only [List.size_toArray] <;> omega)
def tyV (K : PySem.W.Frag) (T : String) (x : V) (H : Hp) : Prop := match x with
  | .str _ => T = "str"
  | .int _ => T = "int"
  | .ref p => (T = "list" ∧ ∃ xs, SqL K H p xs) ∨ (T = "tuple" ∧ ∃ o, K.lookup p = some o ∧ o.cls = .type "tuple" ∧ o.dict = none) ∨
      (T = "dict" ∧ ((∃ kvs, H p = some (.dK kvs)) ∨ ∃ kvs, H p = some (.dT kvs))) ∨ (T = "set" ∧ ∃ S n, H p = some (.set S n))
  | _ => False
theorem tyV_is {pins : List (Addr × Obj)} {σ : St} {H : Hp} {s : Shared} {T : String} {x : V} {v : Value} (I : Inv X pins σ H s) (r : RelV x v) (ty : tyV X.K T x H) :
    s.TypeIs v T ∧ ∀ a, v = .ref a → ∃ ob, s.heap.get? a = some ob ∧ ob.dict = none := by
  cases x with
  | str z =>
    obtain ⟨t, rfl⟩ := r
    cases (show T = "str" from ty)
    exact ⟨typeIs_str s z t, fun _ e => nomatch e⟩
  | int i =>
    obtain ⟨t, rfl⟩ := r
    cases (show T = "int" from ty)
    exact ⟨typeIs_int s i t, fun _ e => nomatch e⟩
  | ref p =>
    cases r
    rcases ty with ⟨rfl, xs, hq⟩ | ⟨rfl, o, hk, hc, hd⟩ | ⟨rfl, hk⟩ | ⟨rfl, S, n, hk⟩
    · obtain ⟨its, _, pl, _⟩ := I.list hq
      refine ⟨pl.isList.typeIs, fun a e => ?_⟩
      cases e
      obtain ⟨o, n, e, c, hd, _⟩ := pl
      exact ⟨o, e, hd⟩
    · refine ⟨⟨o, I.kIn p o hk, hc⟩, fun a e => ?_⟩
      cases e
      exact ⟨o, I.kIn _ o hk, hd⟩
    · have z : ∃ o, s.heap.get? p = some o ∧ o.ExactDict := by
        rcases hk with ⟨kvs, hk⟩ | ⟨kvs, hk⟩
        · obtain ⟨_, _, _, _, o, _, _, e, ex, _⟩ := I.hok p _ hk
          exact ⟨o, e, ex⟩
        · obtain ⟨_, _, _, _, o, _, _, e, ex, _⟩ := I.hok p _ hk
          exact ⟨o, e, ex⟩
      obtain ⟨o, e, ex⟩ := z
      refine ⟨⟨o, e, ex.1⟩, fun a e2 => ?_⟩
      cases e2
      exact ⟨o, e, ex.2.1⟩
    · obtain ⟨o, _, _, _, e, ex, _⟩ := I.hok p _ hk
      refine ⟨⟨o, e, ex.1⟩, fun a e2 => ?_⟩
      cases e2
      exact ⟨o, e, ex.2.1⟩
  | _ => exact False.elim ty
def tBM0 (K : PySem.W.Frag) (T : String) (r : V → List V → Hp → VK → Prop) (to : TE) : TE := fun σ H Q => to σ H fun x H1 => tyV K T x H1 ∧ r x [] H1 Q
def tBM (K : PySem.W.Frag) (T : String) (r : V → List V → Hp → VK → Prop) (to : TE) (t : TA) : TE := fun σ H Q => to σ H fun x H1 => tyV K T x H1 ∧ t σ H1 fun xs H2 => r x xs H2 Q
variable {o e : Expr} {es : List Expr} {to : TE} {t : TA} {name : Str} {apos cpos : Pos} {T id : String} {r : V → List V → Hp → VK → Prop}
theorem pe_bm0 (pa : PlainAttrs T) (slot : Slot T name id) (hty : typeOf (.builtin id) = pure (.type "method_descriptor")) (hm : MtR X id r) (ho : PE X o to)
    (hbase : attributeBase o name X.env (eval o X.env) = eval o X.env := by rfl) (hline : (apos.endLine == cpos.line) = true := by rfl) : PE X (.Call (.Attribute o name apos) [] [] cpos) (tBM0 X.K T r to) := by
  intro pins s σ H Q I h
  refine wpAny_Call_method0_late hbase hline (thn (ho pins s σ H _ I h) fun v s1 ⟨x, H1, I1, r1, ty, q1⟩ => ?_)
  obtain ⟨h1, h2⟩ := tyV_is I1 r1 ty
  exact ⟨T, id, pa, slot, hty, h1, h2, Calls.callWith_builtin rfl (PySem.evalArgs_none (hm pins s1 σ H1 x [] v [] Q I1 r1 .nil q1))⟩
theorem pe_bm (pa : PlainAttrs T) (slot : Slot T name id) (hty : typeOf (.builtin id) = pure (.type "method_descriptor")) (hm : MtR X id r) (ho : PE X o to) (ha : PA X (e :: es) t)
    (hbase : attributeBase o name X.env (eval o X.env) = eval o X.env := by rfl)
    (hfew : ((backTo cpos (starEach (e :: es) X.env)).all (fun x => !x.1) && (backToKw cpos (keywordEach [] X.env)).all (fun x => x.1.isSome)
      && decide ((e :: es).length + ([] : List Keyword).length + (if ([] : List Keyword).isEmpty then 0 else 1) < 30)) = true := by rfl)
    (hline : (apos.endLine == cpos.line) = true := by rfl) (hs : starEach (e :: es) X.env = (false, eval e X.env) :: starEach es X.env := by rfl) (hplain : (backTo cpos (starEach es X.env)).any (·.1) = false := by rfl) :
    PE X (.Call (.Attribute o name apos) (e :: es) [] cpos) (tBM X.K T r to t) := by
  intro pins s σ H Q I h
  refine wpAny_Call_method_late hbase hfew hline rfl (thn (ho pins s σ H _ I h) fun v s1 ⟨x, H1, I1, r1, ty, q1⟩ => ?_)
  obtain ⟨h1, h2⟩ := tyV_is I1 r1 ty
  refine ⟨T, id, pa, slot, hty, h1, h2, ?_⟩
  have hA := ha cpos pins s1 σ H1 _ I1 q1
  rw [hs] at hA ⊢
  refine Calls.callWith_builtin (by show (false || (backTo cpos (starEach es X.env)).any (·.1)) = false; rw [hplain] <;> rfl) (Calls.evalArgs_plain ?_)
  exact thn hA fun us s2 ⟨vs, H2, I2, r2, q2⟩ => hm pins s2 σ H2 x vs v us Q I2 r1 r2 q2
end
end L2
namespace L2
open PySem PySem.Spec PyProof.Rows
def MtM (X : Cx) (id : String) (r : V → List V → Hp → VK → Prop) : Prop :=
  ∀ (pins : List (Addr × Obj)) (s : Shared) (σ : St) (H : Hp) (x : V) (xs : List V) (v : Value) (us : List Value) (Q : VK), Inv X pins σ H s → RelV x v → Vals xs us → r x xs H Q →
    wpAny (model X.prog X.w) X.A (call (.builtin id) (v :: us)) (EP X pins σ Q) X.xe s
theorem Vals.one : ∀ {x : V} {us : List Value}, Vals [x] us → ∃ u, us = [u] ∧ RelV x u
  | _, _, .cons r .nil => ⟨_, rfl, r⟩
theorem Vals.zero : ∀ {us : List Value}, Vals [] us → us = []
  | _, .nil => rfl
theorem Vals.dropLast {xs : List V} {us : List Value} (h : Vals xs us) : Vals xs.dropLast us.dropLast := by
  induction h with
  | nil => exact .nil
  | cons r t ih =>
    cases t with
    | nil => exact .nil
    | cons q t' => exact .cons r ih
theorem erase_last {α : Type} (l : List α) : l.eraseIdx (l.length - 1) = l.dropLast := by
  induction l with
  | nil => rfl
  | cons a r ih =>
    cases r with
    | nil => rfl
    | cons b r =>
      have e : (a :: b :: r).length - 1 = ((b :: r).length - 1) + 1 := by
        have h1 : (a :: b :: r).length = r.length + 2 := rfl
        have h2 : (b :: r).length = r.length + 1 := rfl
        omega
      rw [e, List.eraseIdx_cons_succ, ih]
      all_goals rfl
section
variable {X : Cx} {pins : List (Addr × Obj)} {σ : St} {H : Hp} {s : Shared} {l b : Addr} {xs ys zs : List V}
theorem Inv.lset {its its' : List Value} {n : Nat} {f : Array Value → Array Value} {t' : Nat} (I : Inv X pins σ H s) (hH : H l = some (.lst xs))
    (e : s.heap.get? l = some { cls := .type "list", data := .seq its.toArray n }) (hf : f its.toArray = its'.toArray) (hv : Vals ys its') (hz : ys.length ≤ sizeLine) :
    Inv X pins σ (upd H l (.lst ys)) { s with heap := s.heap.update l (Obj.mapSeq f), toks := t' } := by
  have q := PySem.IsL.update e f
  rw [hf] at q
  refine I.write (x := l) (e := l) (by rw [hH]; exact trivial) (.inl rfl) (fun b' u hb hu => (Heap.get?_update_other s.heap (Obj.mapSeq f) (Ne.symm hb)).trans hu) ⟨_, q⟩ ?_
  exact ⟨hz, its', _, hv, q⟩
theorem Inv.lnew {its : List Value} {t' : Nat} (I : Inv X pins σ H s) (hv : Vals ys its) (hz : ys.length ≤ sizeLine) :
    Inv X pins σ (upd H s.heap.objs.size (.lst ys)) { s with heap := s.heap.push { cls := .type "list", data := .seq its.toArray }, toks := t' } :=
  I.laid (fun _ _ q => Heap.get?_push_of_some _ q) (Nat.le_refl _) ⟨hz, its, 0, hv, Heap.get?_push_size _ rfl⟩
theorem Inv.fresh (I : Inv X pins σ H s) : H s.heap.objs.size = none := I.hok.fresh (Nat.le_refl _)
theorem Inv.lstM (I : Inv X pins σ H s) (hH : H l = some (.lst xs)) : xs.length ≤ sizeLine ∧ ∃ (its : List Value) (n : Nat), Vals xs its ∧ xs.length = its.length ∧ s.heap.get? l = some { cls := .type "list", data := .seq its.toArray n } := by
  obtain ⟨z, its, n, r, e⟩ := I.hok l _ hH
  exact ⟨z, its, n, r, r.length, e⟩
theorem notLongL {n : Nat} (h : n ≤ sizeLine) : Builtin.List.listTooLong n = false := by
  unfold Builtin.List.listTooLong
  exact decide_eq_false (by omega)
end
section
variable {X : Cx}
inductive I_rAppend  (x : V) (vs : List V) (H : Hp) (Q : VK) : Prop
  | mk (l : _) (xs : _) (y : _) (q1 : x = .ref l) (q2 : vs = [y]) (q3 : H l = some (.lst xs)) (q4 : xs.length < sizeLine) (q5 : Q .non (upd H l (.lst (xs ++ [y]))))
def rAppend : V → List V → Hp → VK → Prop := fun x vs H Q => I_rAppend  x vs H Q
theorem mt_append : MtM X "list.append" rAppend := by
  intro pins s σ H x vs v us Q I rx rv h
  obtain ⟨l, xs, y, rfl, rfl, hH, hz, q⟩ := h
  cases rx
  obtain ⟨u, rfl, ru⟩ := rv.one
  obtain ⟨z, its, n, r, hl, e⟩ := I.lstM hH
  refine call_meets F.slot_list_append ⟨_, e, rfl⟩ F.entry_list_append (F.args_list_append_2 _ _) (PySem.list_append l its.toArray n u (by rw [List.size_toArray]; omega)) ⟨e, ?_⟩
  refine ⟨.non, _, I.lset (its' := its ++ [u]) hH e (by simp) (r.append (.cons ru .nil)) ?_, rfl, q⟩
  rw [List.length_append, List.length_singleton]
  omega
inductive I_rExtend  (x : V) (vs : List V) (H : Hp) (Q : VK) : Prop
  | mk (l : _) (b : _) (xs : _) (zs : _) (q1 : x = .ref l) (q2 : vs = [.ref b]) (q3 : H l = some (.lst xs)) (q4 : H b = some (.lst zs)) (q5 : xs.length + zs.length ≤ sizeLine) (q6 : Q .non (upd H l (.lst (xs ++ zs))))
def rExtend : V → List V → Hp → VK → Prop := fun x vs H Q => I_rExtend  x vs H Q
theorem mt_extend : MtM X "list.extend" rExtend := by
  intro pins s σ H x vs v us Q I rx rv h
  obtain ⟨l, b, xs, zs, rfl, rfl, hH, hB, hz, q⟩ := h
  cases rx
  obtain ⟨u, rfl, ru⟩ := rv.one
  cases ru
  obtain ⟨z, its, n, r, hl, e⟩ := I.lstM hH
  obtain ⟨z2, its2, n2, r2, hl2, e2⟩ := I.lstM hB
  have hsz : its.toArray.size + its2.toArray.size ≤ sizeLine := by rw [List.size_toArray, List.size_toArray]; omega
  have hlong : ¬ (!its.toArray.isEmpty && Builtin.List.listTooLong (its.toArray.size + its2.toArray.size)) = true := by
    rw [notLongL hsz, Bool.and_false]
    exact Bool.false_ne_true
  refine call_meets F.slot_list_extend ⟨_, e, rfl⟩ F.entry_list_extend (F.args_list_extend_2 _ _)
    (AutoSeq1.list_extend_list_list_0 l its.toArray n b its2.toArray n2 hlong (by rw [List.size_toArray]; omega) (by omega)) ⟨e, e2, ?_⟩
  refine ⟨.non, _, I.lset (its' := its ++ its2) hH e (by simp) (r.append r2) ?_, rfl, q⟩
  rw [List.length_append]
  omega
inductive I_rPop  (x : V) (vs : List V) (H : Hp) (Q : VK) : Prop
  | mk (l : _) (xs : _) (y : _) (q1 : x = .ref l) (q2 : vs = []) (q3 : H l = some (.lst xs)) (q4 : xs[xs.length - 1]? = some y) (q5 : Q y (upd H l (.lst xs.dropLast)))
def rPop : V → List V → Hp → VK → Prop := fun x vs H Q => I_rPop  x vs H Q
theorem mt_pop : MtM X "list.pop" rPop := by
  intro pins s σ H x vs v us Q I rx rv h
  obtain ⟨l, xs, y, rfl, rfl, hH, hy, q⟩ := h
  cases rx
  have hus := rv.zero
  subst hus
  obtain ⟨z, its, n, r, hl, e⟩ := I.lstM hH
  obtain ⟨u, hu, ru⟩ := r.get hy
  have hy' : its.toArray[its.toArray.size - 1]? = some u := by
    show its.toArray[its.length - 1]? = some u
    rw [← Array.getElem?_toList, ← hl]
    exact hu
  refine call_meets F.slot_list_pop ⟨_, e, rfl⟩ F.entry_list_pop (F.args_list_pop_1 _) (MeetsSeq.list_pop_last l its.toArray n u hy' (by rw [List.size_toArray]; omega)) ⟨e, ?_⟩
  refine ⟨y, _, I.lset (its' := its.dropLast) hH e ?_ r.dropLast ?_, ru, q⟩
  · show its.toArray.eraseIdxIfInBounds (its.toArray.size - 1) = its.dropLast.toArray
    rw [List.size_toArray, List.eraseIdxIfInBounds_toArray, erase_last]
  · rw [List.length_dropLast]
    omega
inductive I_rCat  (x : V) (y : V) (H : Hp) (Q : VK) : Prop
  | mk (l : _) (b : _) (xs : _) (zs : _) (q1 : x = .ref l) (q2 : y = .ref b) (q3 : H l = some (.lst xs)) (q4 : H b = some (.lst zs)) (q5 : xs.length + zs.length ≤ sizeLine) (q6 : ∀ p, H p = none → Q (.ref p) (upd H p (.lst (xs ++ zs))))
def rCat : R2 := fun x y H Q => I_rCat  x y H Q
theorem op_cat : OpR X (binaryOp .Add) rCat := by
  intro pins s σ H x y v u Q I rx ry h
  obtain ⟨l, b, xs, zs, rfl, rfl, hH, hB, hz, q⟩ := h
  cases rx
  cases ry
  obtain ⟨z, its, n, r, hl, e⟩ := I.lstM hH
  obtain ⟨z2, its2, n2, r2, hl2, e2⟩ := I.lstM hB
  refine PySem.P.add_list e e2 ?_ (by rw [List.size_toArray, List.size_toArray]; omega)
  have ea : its.toArray ++ its2.toArray = (its ++ its2).toArray := by simp
  rw [ea]
  exact ⟨.ref _, _, I.lnew (t' := s.toks) (r.append r2) (by rw [List.length_append]; omega), rfl, q _ I.fresh⟩
inductive I_rRep  (x : V) (y : V) (H : Hp) (Q : VK) : Prop
  | mk (l : _) (k : _) (xs : _) (q1 : x = .ref l) (q2 : y = .int k) (q3 : H l = some (.lst xs)) (q4 : -(2 ^ 63) ≤ k) (q5 : k < 2 ^ 63) (q6 : xs.length * k.toNat ≤ sizeLine) (q7 : ∀ p, H p = none → Q (.ref p) (upd H p (.lst (List.replicate k.toNat xs).flatten)))
end
section
variable {prog : Program} {w : World} {A : Around} {E : Value → Shared → Prop} {s : Shared}
set_option maxRecDepth 100000 in
end
section
variable {X : Cx}
end
end L2
namespace Att
open PySem PySem.W PySem.Calls PyProof.Rows
theorem ints_of_wellAll {P : Params} {h : Heap} : ∀ (ns : List Int) (vs : List Value), WellAll P h vs (ns.map WData.int) → IntsAre vs ns := by
  intro ns
  induction ns with
  | nil =>
    intro vs w
    rw [List.map_nil] at w
    cases w
    exact .nil
  | cons n ns ih =>
    intro vs w
    rw [List.map_cons] at w
    cases w with
    | cons a b =>
      cases a
      exact .cons _ _ (ih _ b)
theorem script_of {l : OpenLaw} {n : Nat} (hn : l.most = some n) {P : Params} {h : Heap} {args : List WData} {vals : List Value}
    (hpre : l.row.toRowW.claim.pre args = true) (hwl : WellAll P h vals args) :
    ∃ a vs ns, vals = [Value.ref a] ∧ args = [WData.list (ns.map WData.int)] ∧ h.get? a = some { cls := .type "list", data := .seq vs.toArray } ∧ IntsAre vs ns ∧ ns.length ≤ n := by
  have hsh : WShape.hasAll [] args [.list .int] = true := (pre_splitW hpre).1
  have hc : l.pre.holds [] { args := args } = true := (pre_splitW hpre).2
  obtain ⟨d, r, rfl, h1, h2⟩ := hasAllW_cons hsh
  obtain rfl := hasAllW_nil h2
  obtain ⟨xs, rfl, h3⟩ := hasW_list h1
  obtain ⟨ns, rfl⟩ := items_int h3
  have hlen : ns.length ≤ n := by
    unfold OpenLaw.pre at hc
    have h4 : (WTm.not (.lt (.lit (.int (n : Int))) (.len (.arg 0)))).holds [] { args := [.list (ns.map .int)] } = true := by
      have h4 := (holds_andW hc).1
      rw [hn] at h4
      exact h4
    have h5 := condW_of h4 (w_not (w_lt w_lit (w_len_list (w_arg rfl))))
    rw [List.length_map] at h5
    refine Nat.le_of_not_lt fun q => ?_
    have q' : (n : Int) < ((ns.length : Nat) : Int) := by omega
    first
      | (rw [decide_eq_true q'] at h5; exact absurd h5 (by decide))
      | (simp at h5; omega)
  cases hwl with
  | cons w1 w2 =>
    cases w2
    cases w1 with
    | list ho hall => exact ⟨_, _, ns, rfl, rfl, ho, ints_of_wellAll ns _ hall, hlen⟩
theorem post_true (l : OpenLaw) (args : List WData) : l.row.toRowW.claim.post args (.bool true) args = true :=
  postW_of (r := l.row.toRowW) (X := (true == true))
    (show WShape.has [] (.bool true) .bool = true by first | rfl | decide | simp [WShape.has, WShape.arms, WShape.armsAll])
    (show (WTm.eq .res (.lit (.bool true))).value [] { args := args, res := some (.bool true), after := args } = some (.bool (true == true)) from w_eq_bool (w_res rfl) w_lit) rfl
theorem attach_call {l : OpenLaw} {n : Nat} {q : Program} {loose : List Str} {XP : (Str → Option Value) → Heap → Prop} {YP : World → Heap → Prop} {d : DefRec}
    (hn : l.most = some n) (hdf : d.params.defaults = [])
    (call : ∀ (w : World) (s₀ s₁ : Shared) (mg mb : Str → Option Value) (fa : Addr) (o : Obj) (pm cd doc : Value) (a : Addr) (vs : List Value) (ns : List Int),
      Ground q loose [] XP w s₀ mg mb s₁.heap → YP w s₁.heap →
      s₁.heap.get? fa = some o → o.data = .func (docDef d.name d.params d.body d.scope pm cd doc) → s₁.heap.CodeRec cd d.name → mg d.name = some (.ref fa) →
      s₁.heap.get? a = some { cls := .type "list", data := .seq vs.toArray } → IntsAre vs ns → ns.length ≤ n → s₁.gens = #[] →
      codeAny (model l.prog w) callerA (.call (.ref fa) ⟨[.ref a], []⟩) (fun r s' => r = .ok (.ret (.bool true)) ∧ OldK s₁.heap s'.heap ∧ s'.os = s₁.os ∧ AllBare s'.gens) s₁) :
    WalkO q loose XP YP l.row.toRowW d [] (fun f vs => PySem.call f vs) := by
  intro w s₀ s₁ mg mb G Y fa o pm cd doc dV kV ho hd hcd hD hmg hg args vals as hpre hlay hrd hwl hlo
  obtain rfl : dV = .none := Dflts.none hD hdf
  obtain rfl : kV = .none := Dflts.noKw hD
  obtain ⟨a, vs, ns, rfl, rfl, hobj, hints, hlen⟩ := script_of hn hpre hwl
  refine enter_call (codeAny_mono (call w s₀ s₁ mg mb fa o pm cd doc a vs ns G Y ho (fd_plain hd) hcd hmg hobj hints hlen hg) fun r s' hq => ?_)
  obtain ⟨rfl, h2, h3, h4⟩ := hq
  exact ⟨.inl ⟨.bool true, .bool true, [], rfl, fun _ => rfl, .bool true, post_true l _, fun _ => ⟨List.Pairwise.nil, fun _ hm => (nomatch hm)⟩⟩, h2, h3, h4⟩
section
variable {prog : Program} {w : World} {A : Around} {E : Value → Shared → Prop} {s : Shared} {K : Frag}
def ledger (h : Heap) (L d : Addr) : List (Addr × Obj) := (List.range h.objs.size).filterMap fun a => if a = L ∨ a = d then none else (h.get? a).map fun o => (a, o)
end
end Att
namespace L2
open PySem PySem.Spec PyProof.Rows
theorem vals_ints : ∀ {vs : List Value} {ns : List Int}, IntsAre vs ns → Vals (ns.map V.int) vs
  | _, _, .nil => .nil
  | _, _, .cons n t h => .cons ⟨t, rfl⟩ (vals_ints h)
def Only (H : Hp) : Prop := ∀ b, H b = none ∨ ∃ o xs, H b = some (.frz o (.lst xs))
theorem law_call {P : Program} {w : World} {K : PySem.W.Frag} {mg mb : Str → Option Value} {CX : CXT} {k : Nat} {fa a : Addr} {fd : FuncData} {x : Str} {sp : Sp} {s₁ : Shared} {vs : List Value} {ns : List Int}
    (KX : K.In s₁.heap) (hns : s₁.heap.Ns mainGlobals mg) (hb : s₁.heap.Ns builtinsNs mb) (hbb : ∀ x : Str, x ≠ "__name__" → mb x = bootBuiltins x) (hlim : s₁.heap.NoLimit) (hg : s₁.gens = #[])
    (ha : s₁.heap.get? a = some { cls := .type "list", data := .seq vs.toArray }) (hi : IntsAre vs ns) (hl : ns.length ≤ sizeLine) (hr : Room k callerA)
    (F : ∀ base : Heap, K.In base → base.Ns mainGlobals mg → FnOk P w K mg base CX k fa fd [x] sp) (hbind : ∀ (s : Shared) (u : Value), BindsTo s fd ⟨[u], []⟩ [(x, u)])
    (hsp : ∀ H : Hp, Only H → SqL K H a (ns.map V.int) → sp [.ref a] H (fun v _ => v = .bl true) fun _ _ _ => False)
    (hCX : ∀ H e s', CX callerA [] H s₁ (fun _ _ _ => False) e s' → False) :
    codeAny (model P w) callerA (.call (.ref fa) ⟨[.ref a], []⟩) (fun r s' => r = .ok (.ret (.bool true)) ∧ OldK s₁.heap s'.heap ∧ s'.os = s₁.os ∧ AllBare s'.gens) s₁ := by
  have rv := vals_ints hi
  have lenV := hi.length
  have core : ∀ H : Hp, Only H → SqL K H a (ns.map V.int) → HOk P w H s₁.heap → (∀ b, H b ≠ none → b = a) → (H a ≠ none → K.lookup a = none) →
      codeAny (model P w) callerA (.call (.ref fa) ⟨[.ref a], []⟩) (fun r s' => r = .ok (.ret (.bool true)) ∧ OldK s₁.heap s'.heap ∧ s'.os = s₁.os ∧ AllBare s'.gens) s₁ := by
    intro H hO hS hok hA hK
    have base_of : ∀ {b : Addr} {o : Obj}, s₁.heap.get? b = some o → H b = none → (hidT s₁.heap H).get? b = some o := fun e n => hidT_get e n
    have noA : ∀ {b : Addr} {o : Obj} {es : Array DictEntry} {ep : Nat}, s₁.heap.get? b = some o → o.data = .dict es ep → H b = none := fun {b o es ep} e d => by
      cases q : H b with
      | none => rfl
      | some u =>
        have e' : b = a := hA b (by rw [q]; simp)
        subst e'
        rw [ha] at e; cases e
        have d' : Data.seq vs.toArray _ = Data.dict es ep := d
        cases d'
    have nsK : ∀ {b : Addr} {m : Str → Option Value}, s₁.heap.Ns b m → (hidT s₁.heap H).Ns b m := fun {b m} ⟨o, es, ep, e, d, r⟩ => ⟨o, es, ep, base_of e (noA e d), d, r⟩
    have hKb : K.In (hidT s₁.heap H) := fun b o e => base_of (KX b o e) (by
      cases q : H b with
      | none => rfl
      | some u =>
        have e' : b = a := hA b (by rw [q]; simp)
        subst e'
        rw [hK (by rw [q]; simp)] at e; cases e)
    have hM : Mod K mg (hidT s₁.heap H) := ⟨hKb, nsK hns, ⟨mb, nsK hb, hbb⟩, let ⟨mc, h1, h2⟩ := hlim; ⟨mc, nsK h1, h2⟩⟩
    have e0 : Env0 P w K mg (hidT s₁.heap H) callerA [] s₁ H := ⟨rfl, hM, fun b o e => of_hidT e, Nat.le_of_eq (hidT_size _ _), trivial, fun b hb => absurd (show b ∈ ([] : List Addr) from hb) (by simp), hok, .of_eq hg, .inl rfl⟩
    refine codeAny_mono ((F _ hKb (nsK hns)).run callerA [] s₁ H ⟨[.ref a], []⟩ [.ref a] [.ref a] _ _ hr e0 (hbind s₁ (.ref a)) (.cons rfl .nil) (hsp H hO hS)) fun r s' h => ?_
    cases r with
    | error e => exact (hCX H e s' h).elim
    | ok fl =>
      cases fl with
      | next => exact False.elim h
      | brk => exact False.elim h
      | cont => exact False.elim h
      | ret u =>
        obtain ⟨v, H', os, bare, un, hok', r', q⟩ := h
        have q' : v = .bl true := q
        subst q'
        obtain rfl : u = Value.bool true := r'
        refine ⟨rfl, OldK.of_keep fun b o e => ?_, os, bare⟩
        cases q : H b with
        | none => exact un.keep b o e q (by intro z; exact absurd (show b ∈ ([] : List Addr) from z) (by simp)) (by simp)
        | some u =>
          rcases hO b with z | ⟨ob, xs, z⟩
          · rw [q] at z; cases z
          · have z2 := un.frzs b ob _ z
            obtain ⟨e1, _⟩ := hok b _ z
            obtain ⟨e2, _⟩ := hok' b _ z2
            rw [e] at e1; cases e1
            exact e2
  cases hk : K.lookup a with
  | some o =>
    have e := KX a o hk
    rw [ha] at e
    cases e
    refine core (fun _ => none) (fun _ => .inl rfl) (.inr ⟨_, vs.toArray, _, hk, rfl, rfl, rfl, by rw [List.size_toArray, lenV]; exact hl, by simpa using rv⟩) (fun b u z => by have z' : (none : Option HO) = some u := z; cases z') (fun b z => absurd rfl z) fun z => absurd rfl z
  | none =>
    refine core (fun b => if b = a then some (.frz { cls := .type "list", data := .seq vs.toArray } (.lst (ns.map V.int))) else none) (fun b => ?_) (.inl (.inr ⟨{ cls := .type "list", data := .seq vs.toArray }, if_pos rfl⟩)) (fun b u z => ?_) (fun b z => ?_) fun _ => hk
    · by_cases hb : b = a
      · exact .inr ⟨_, _, if_pos hb⟩
      · exact .inl (if_neg hb)
    · by_cases hb : b = a
      · have z' := (if_pos hb).symm.trans z
        cases z'
        subst hb
        exact ⟨ha, by rw [List.length_map]; exact hl, vs, _, rv, ha⟩
      · have z' := (if_neg hb).symm.trans z
        cases z'
    · by_cases hb : b = a
      · exact hb
      · exact absurd (if_neg hb) z
end L2
namespace L2
open PySem PySem.Spec PyProof.Rows
abbrev KOf {K : PySem.W.Frag} {h : Heap} (_ : K.In h) : PySem.W.Frag := K
theorem walk_of {l : PySem.W.OpenLaw} {n k : Nat} {q : Program} {loose : List Str} {XP : (Str → Option Value) → Heap → Prop} {YP : World → Heap → Prop} {d : DefRec} {K : Params → PySem.W.Frag} {CX : World → CXT} {sp : World → Sp} {x : Str}
    (hn : l.most = some n) (hn2 : n ≤ sizeLine) (hdf : d.params.defaults = []) (hr : Room k callerA)
    (hY : ∀ (w : World) (h : Heap), YP w h → (K w.params).In h)
    (F : ∀ (w : World) (mg : Str → Option Value) (fa : Addr) (h : Heap), (K w.params).In h → h.Ns mainGlobals mg → mg d.name = some (.ref fa) →
      ∃ fd : FuncData, (∀ (s : Shared) (u : Value), BindsTo s fd ⟨[u], []⟩ [(x, u)]) ∧
        ∀ base : Heap, (K w.params).In base → base.Ns mainGlobals mg → FnOk l.prog w (K w.params) mg base (CX w) k fa fd [x] (sp w))
    (hsp : ∀ (w : World) (H : Hp) (a : Addr) (ns : List Int), ns.length ≤ n → Only H → SqL (K w.params) H a (ns.map V.int) → sp w [.ref a] H (fun v _ => v = .bl true) fun _ _ _ => False)
    (hCX : ∀ (w : World) (H : Hp) (s : Shared) (e : Value) (s' : Shared), CX w callerA [] H s (fun _ _ _ => False) e s' → False) :
    PySem.W.WalkO q loose XP YP l.row.toRowW d [] (fun f vs => PySem.call f vs) := by
  refine Att.attach_call hn hdf fun w s₀ s₁ mg mb fa o pm cd doc a vs ns G Y ho hd hcd hmg hobj hints hlen hg => ?_
  have KX := hY w _ Y
  obtain ⟨fd, hb, hF⟩ := F w mg fa _ KX G.T.g hmg
  exact law_call KX G.T.g G.T.b G.T.builtins G.T.nolimit hg hobj hints (Nat.le_trans hlen hn2) hr hF hb (fun H hO hS => hsp w H a ns hlen hO hS) fun H e s' => hCX w H s₁ e s'
end L2
namespace L2
open PySem PySem.Spec PyProof.Rows
def defArgs (s : Stmt) : Arguments := match s with
  | .FunctionDef _ a _ _ _ _ _ _ _ _ => a
  | _ => { posonlyargs := [], args := [], vararg := none, kwonlyargs := [], kw_defaults := [], kwarg := none, defaults := [] }
def defBody (s : Stmt) : List Stmt := match s with
  | .FunctionDef _ _ b _ _ _ _ _ _ _ => b
  | _ => []
def defScope (s : Stmt) : Scope := match s with
  | .FunctionDef _ _ _ _ _ _ sc _ _ _ => sc
  | _ => { kind := .function, names := [], isGenerator := false, isCoroutine := false }
abbrev CX0 : CXT := fun _ _ _ _ _ _ _ => False
abbrev E0 : XK := fun _ _ _ => False
theorem pass0 {X : Cx} : Passes CX0 X E0 := fun _ _ _ _ _ _ _ h => h.elim
structure Fun (K : PySem.W.Frag) (x qual : Str) (st : Stmt) (f : Addr) (fd : FuncData) : Prop where
  ex : ∃ (oc : Value) (od : Option Addr) (kV doc pm : Value) (an : Option Addr) (cdv ct : Value) (osl : Array (Option Value)),
    fd = PySem.W.fnOf x qual (defArgs st) (defBody st) (defScope st) .none kV doc pm an cdv ct ∧ K.lookup f = some ⟨oc, od, .func fd, osl⟩ ∧ PySem.W.codeIn K cdv qual = true
  kp : PySem.W.keepIn K (.ref f) = true
section
variable {P : Program} {w : World} {K : PySem.W.Frag} {mg : Str → Option Value} {base : Heap}
theorem Fun.ok {x qual : Str} {st : Stmt} {f : Addr} {fd : FuncData} {N ps : List Str} {k : Nat} {sp : Sp} (F : Fun K x qual st f fd) (S : FnScope N ps (defScope st)) (len : ∀ vs H Q E, sp vs H Q E → vs.length = ps.length)
    (hbody : ∀ (cdv : Value) (A : Around) (outer : List Env) (s : Shared) (H : Hp) (vs : List V) (Q : VK) (E : XK), Room k (A.deeper (envOfC qual (defScope st) s.heap.objs.size f cdv)) → sp vs H Q E →
      ∃ t, PSs (cxOf CX0 P w K mg base N qual (defScope st) f cdv A outer s H E).nox (defBody st) t ∧ t (Ends.fin Q) (start N vs) H) : FnOk P w K mg base CX0 (k + 1) f fd ps sp := by
  obtain ⟨oc, od, kV, doc, pm, an, cdv, ct, osl, rfl, lk, hcd⟩ := F.ex
  refine fn_of lk hcd S len fun A outer s H vs Q E hr hsp => ?_
  obtain ⟨t, h, q⟩ := hbody cdv A outer s H vs Q E hr hsp
  exact ⟨t, h.nox, q⟩
theorem Fun.binds {x qual : Str} {st : Stmt} {f : Addr} {fd : FuncData} {ps : List Str} (F : Fun K x qual st f fd)
    (h : ∀ (kV doc pm : Value) (an : Option Addr) (cdv ct : Value) (us : List Value), us.length = ps.length → bindArgs (PySem.W.fnOf x qual (defArgs st) (defBody st) (defScope st) .none kV doc pm an cdv ct) ⟨us, []⟩ = pure (ps.zip us)) : Binds K fd ps [] := by
  obtain ⟨oc, od, kV, doc, pm, an, cdv, ct, osl, rfl, lk, hcd⟩ := F.ex
  exact .all (h kV doc pm an cdv ct)
theorem fun_mk {x qual : Str} {st : Stmt} {f : Addr} {oc : Value} {od an : Option Addr} {osl : Array (Option Value)} {kV doc pm cdv ct : Value} (l : K.lookup f = some ⟨oc, od, .func (PySem.W.fnOf x qual (defArgs st) (defBody st) (defScope st) .none kV doc pm an cdv ct), osl⟩)
    (c : PySem.W.codeIn K cdv qual = true) (k : PySem.W.keepIn K (.ref f) = true) : Fun K x qual st f (PySem.W.fnOf x qual (defArgs st) (defBody st) (defScope st) .none kV doc pm an cdv ct) := ⟨⟨oc, od, kV, doc, pm, an, cdv, ct, osl, rfl, l, c⟩, k⟩
end
section
variable {X : Cx}
theorem pv (i : Nat) {x : Str} {pos : Pos} (hN : X.N[i]? = some x := by rfl) (hv : Vis X.env.scope x := by first | exact Or.inl rfl | exact Or.inr (Or.inl rfl) | exact Or.inr (Or.inr rfl)) (hd : (x == ("__debug__" : Str)) = false := by decide)
    (hcd : (x == ("__classdict__" : Str)) = false := by decide) : PE X (.Name x pos) (tVar i) := pe_var hN hv hd hcd
end
theorem iteF {A B : Prop} (h : B) : if false = true then A else B := by
  rw [if_neg Bool.false_ne_true]
  exact h
theorem iteT {A B : Prop} (h : A) : if true = true then A else B := by
  rw [if_pos rfl]
  exact h
def Same (H H' : Hp) : Prop := ∀ b o, H b = some o → H' b = some o
theorem Same.refl (H : Hp) : Same H H := fun _ _ h => h
theorem Same.trans {H H1 H2 : Hp} (a : Same H H1) (b : Same H1 H2) : Same H H2 := fun c o h => b c o (a c o h)
end L2
namespace L2
open PySem PySem.Spec PyProof.Rows
section
variable {κ : Type} [DecidableEq κ]
end
section
variable {P : Program} {w : World} {H : Hp} {h : Heap} {a : Addr}
end
section
variable {X : Cx} {pins : List (Addr × Obj)} {σ : St} {H : Hp} {s : Shared} {a : Addr} {y v : V} {u r : Value} {o : Option V} {A : Around} {E : Value → Shared → Prop}
end
section
variable {X : Cx} {pins : List (Addr × Obj)} {σ : St} {H : Hp} {s : Shared} {a : Addr} {kvs : List (Key × V)} {k : Key} {u : Value} {A : Around} {E : Value → Shared → Prop}
end
section
variable {X : Cx} {o i e value : Expr} {pos pos' tpos : Pos} {td ty tv : TE}
end
section
variable {X : Cx} {pos : Pos}
end
structure M1 (X : Cx) (o : Expr) (m : Str) (apos : Pos) (e : Expr) (cpos : Pos) : Prop where
  base : attributeBase o m X.env (eval o X.env) = eval o X.env
  few : ((backTo cpos (starEach [e] X.env)).all (fun x => !x.1) && (backToKw cpos (keywordEach [] X.env)).all (fun x => x.1.isSome)
    && decide (([e] : List Expr).length + ([] : List Keyword).length + (if ([] : List Keyword).isEmpty then 0 else 1) < 30)) = true
  line : (apos.endLine == cpos.line) = true
  trees : backTo cpos (starEach [e] X.env) = [(false, eval e X.env)]
structure M2 (X : Cx) (o : Expr) (m : Str) (apos : Pos) (e f : Expr) (cpos : Pos) : Prop where
  base : attributeBase o m X.env (eval o X.env) = eval o X.env
  few : ((backTo cpos (starEach [e, f] X.env)).all (fun x => !x.1) && (backToKw cpos (keywordEach [] X.env)).all (fun x => x.1.isSome)
    && decide (([e, f] : List Expr).length + ([] : List Keyword).length + (if ([] : List Keyword).isEmpty then 0 else 1) < 30)) = true
  line : (apos.endLine == cpos.line) = true
  trees : backTo cpos (starEach [e, f] X.env) = [(false, eval e X.env), (false, eval f X.env)]
section
variable {X : Cx} {pins : List (Addr × Obj)} {σ : St} {H : Hp} {s : Shared} {a : Addr} {y d : V} {u r : Value} {o : Option V} {A : Around} {E : Value → Shared → Prop}
end
section
variable {X : Cx} {o e f : Expr} {apos cpos : Pos} {td ty tx : TE}
end
section
variable {X : Cx} {pins : List (Addr × Obj)} {σ : St} {H : Hp} {s : Shared} {a : Addr} {kvs : List (Key × V)} {A : Around} {E : Value → Shared → Prop}
end
section
variable {X : Cx} {pins : List (Addr × Obj)} {σ : St} {H : Hp} {s : Shared} {a : Addr} {y : V} {u : Value} {A : Around} {E : Value → Shared → Prop}
end
end L2
namespace L2
open PySem PySem.Spec PyProof.Rows
section
variable {X : Cx}
end
end L2
namespace L2
open PySem PySem.Spec PyProof.Rows
section
variable {κ : Type} [DecidableEq κ]
end
end L2
set_option Elab.async false
set_option linter.all false
set_option maxRecDepth 100000
namespace L2
open PySem PySem.Spec PyProof.Rows
theorem closure_of {scope : Scope} {env : Env} (h : ∀ y ∈ scope.names, y.2 = .free → ∃ c, env.cells.lookup y.1 = some c) :
    ∃ cl, closureFor scope env = pure cl ∧ (∀ x c, cl.lookup x = some c → env.cells.lookup x = some c) ∧ ∀ y ∈ scope.names, y.2 = .free → ∃ c, cl.lookup y.1 = some c := by
  have key : ∀ (l : List (Str × NameKind)) (cs : List (Str × Addr)), (∀ y ∈ l, y.2 = .free → ∃ c, env.cells.lookup y.1 = some c) → (∀ x c, cs.lookup x = some c → env.cells.lookup x = some c) →
      ∃ cl, (forIn l cs fun (x : Str × NameKind) r => do
        if x.2 == .free then do
          let c ← cellOf env x.1
          pure (ForInStep.yield ((x.1, c) :: r))
        else pure (ForInStep.yield r) : Sem (List (Str × Addr))) = pure cl ∧ (∀ x c, cl.lookup x = some c → env.cells.lookup x = some c) ∧ (∀ y ∈ l, y.2 = .free → ∃ c, cl.lookup y.1 = some c) ∧ ∀ x c, cs.lookup x = some c → ∃ c', cl.lookup x = some c' := by
    intro l
    induction l with
    | nil => intro cs _ hc; exact ⟨cs, rfl, hc, (fun y hy => nomatch hy), fun x c e => ⟨c, e⟩⟩
    | cons y r ih =>
      intro cs hy hc
      rw [List.forIn_cons]
      by_cases hk : y.2 = .free
      · obtain ⟨c, e⟩ := hy y List.mem_cons_self hk
        have hb : (y.2 == NameKind.free) = true := by rw [hk]; rfl
        have hcell : cellOf env y.1 = pure c := by unfold cellOf; rw [e]
        have hc' : ∀ x c', List.lookup x ((y.1, c) :: cs) = some c' → env.cells.lookup x = some c' := fun x c' hx => by
          rw [List.lookup_cons] at hx
          by_cases hxy : x = y.1
          · subst hxy
            rw [beq_self_eq_true] at hx
            cases hx
            exact e
          · rw [show (x == y.1) = false from beq_eq_false_iff_ne.mpr hxy] at hx
            exact hc x c' hx
        obtain ⟨cl, h1, h2, h3, h4⟩ := ih ((y.1, c) :: cs) (fun z hz => hy z (List.mem_cons_of_mem _ hz)) hc'
        refine ⟨cl, ?_, h2, fun z hz hf => ?_, fun x c' hx => ?_⟩
        · rw [if_pos hb, hcell]
          simp only [pure_bind]
          exact h1
        · rcases List.mem_cons.mp hz with rfl | hz
          · exact h4 z.1 c (by rw [List.lookup_cons, beq_self_eq_true])
          · exact h3 z hz hf
        · by_cases hxy : x = y.1
          · exact h4 x c (by rw [List.lookup_cons, hxy, beq_self_eq_true])
          · exact h4 x c' (by rw [List.lookup_cons, show (x == y.1) = false from beq_eq_false_iff_ne.mpr hxy]; exact hx)
      · have hb : (y.2 == NameKind.free) = false := beq_eq_false_iff_ne.mpr hk
        obtain ⟨cl, h1, h2, h3, h4⟩ := ih cs (fun z hz => hy z (List.mem_cons_of_mem _ hz)) hc
        refine ⟨cl, ?_, h2, fun z hz hf => ?_, h4⟩
        · rw [hb]
          simp only [Bool.false_eq_true, if_false, pure_bind]
          exact h1
        · rcases List.mem_cons.mp hz with rfl | hz
          · exact absurd hf hk
          · exact h3 z hz hf
  obtain ⟨cl, h1, h2, h3, _⟩ := key scope.names [] h (fun x c e => nomatch e)
  refine ⟨cl, ?_, h2, h3⟩
  show (forIn scope.names [] _ >>= fun cs => pure cs) = pure cl
  rw [bind_pure]
  exact h1
def cxComp (X : Cx) (N : List Str) (scope : Scope) (cl : List (Str × Addr)) (C : Addr) (fp : List Addr) (s : Shared) (H : Hp) : Cx where
  prog := X.prog
  w := X.w
  K := X.K
  mg := X.mg
  base := X.base
  A := X.A
  N := N
  s₀ := s
  H₀ := H
  env := compEnvC scope cl C X.env
  outer := X.stack
  stack := X.stack
  ex := fp
  fn := fun _ => false
  calm := X.calm
  pn := []
  xe := fun _ _ => False
def slotsC (fr : List (Option Nat)) (σ : St) : St := fr.map fun o => o.bind fun j => (σ[j]?).bind id
structure CScope (X : Cx) (N : List Str) (fr : List (Option Nat)) (scope : Scope) : Prop where
  kind : scope.kind = .function
  nocell : ∀ y ∈ scope.names, y.2 ≠ .cell
  names : ∀ y ∈ scope.names, y.2 = .local → scope.names.lookup y.1 = some .local
  free : ∀ y ∈ scope.names, y.2 = .free → X.env.kindOf y.1 = some .cell ∨ X.env.kindOf y.1 = some .free
  len : fr.length = N.length
  frs : ∀ (i j : Nat), fr[i]? = some (some j) → ∃ x, N[i]? = some x ∧ X.N[j]? = some x ∧ scope.names.lookup x = some .free
theorem CScope.of {X : Cx} {N : List Str} {fr : List (Option Nat)} {scope : Scope} (h1 : scope.kind = .function := by rfl) (h2 : (scope.names.all fun y => y.2 != .cell) = true := by rfl)
    (h3 : (scope.names.all fun y => y.2 != .local || scope.names.lookup y.1 == some .local) = true := by rfl) (h4 : (scope.names.all fun y => y.2 != .free || (X.env.kindOf y.1 == some .cell || X.env.kindOf y.1 == some .free)) = true := by rfl)
    (h5 : fr.length = N.length := by rfl) (h6 : ((List.range fr.length).all fun i => match fr[i]? with
      | some (some j) => (match N[i]? with | some x => X.N[j]? == some x && scope.names.lookup x == some .free | none => false)
      | _ => true) = true := by rfl) : CScope X N fr scope where
  kind := h1
  nocell := fun y hy e => by
    have := List.all_eq_true.mp h2 y hy
    rw [e] at this
    exact absurd this (by decide)
  names := fun y hy e => by
    have := List.all_eq_true.mp h3 y hy
    rw [e] at this
    simpa using this
  free := fun y hy e => by
    have := List.all_eq_true.mp h4 y hy
    rw [e] at this
    simpa using this
  len := h5
  frs := fun i j e => by
    have hi : i < fr.length := (List.getElem?_eq_some_iff.mp e).1
    have := List.all_eq_true.mp h6 i (List.mem_range.mpr hi)
    simp only [e] at this
    cases en : N[i]? with
    | none => rw [en] at this; exact Bool.noConfusion this
    | some x =>
      rw [en] at this
      have h := Bool.and_eq_true_iff.mp this
      exact ⟨x, rfl, beq_iff_eq.mp h.1, beq_iff_eq.mp h.2⟩
theorem relabel_kind {scope : Scope} {env : Env} : ∀ {names : List (Str × NameKind)} {x : Str} {k : NameKind}, (∀ y ∈ names, y.2 ≠ .cell) → (k = .cell ∨ k = .free) →
    (names.map fun (n, k) => if (k == NameKind.free && env.scope.kind == .function && env.kindOf n == some .cell) then (n, NameKind.cell) else (n, k)).lookup x = some k → (x, NameKind.free) ∈ names
  | [], _, _, _, _, h => by simp at h
  | (n, k0) :: r, x, k, hn, hk, h => by
    by_cases hx : x = n
    · subst hx
      by_cases hf : k0 = .free
      · subst hf; exact List.mem_cons_self
      · exfalso
        have hb : (k0 == NameKind.free) = false := beq_eq_false_iff_ne.mpr hf
        simp only [List.map_cons, hb, Bool.false_and, Bool.false_eq_true, if_false, List.lookup_cons, beq_self_eq_true] at h
        cases h
        rcases hk with hk | hk
        · exact hn _ List.mem_cons_self hk
        · exact hf hk
    · have hb : (x == n) = false := beq_eq_false_iff_ne.mpr hx
      have h' : (r.map fun (n, k) => if (k == NameKind.free && env.scope.kind == .function && env.kindOf n == some .cell) then (n, NameKind.cell) else (n, k)).lookup x = some k := by
        rw [List.map_cons] at h
        dsimp only at h
        by_cases hc : (k0 == NameKind.free && env.scope.kind == .function && env.kindOf n == some .cell) = true
        · rw [if_pos hc, List.lookup_cons, hb] at h; exact h
        · rw [if_neg hc, List.lookup_cons, hb] at h; exact h
      exact List.mem_cons_of_mem _ (relabel_kind (scope := scope) (fun y hy => hn y (List.mem_cons_of_mem _ hy)) hk h')
theorem relabel_free {env : Env} : ∀ {names : List (Str × NameKind)} {x : Str}, names.lookup x = some .free →
    (names.map fun (n, k) => if (k == NameKind.free && env.scope.kind == .function && env.kindOf n == some .cell) then (n, NameKind.cell) else (n, k)).lookup x = some .cell ∨
    (names.map fun (n, k) => if (k == NameKind.free && env.scope.kind == .function && env.kindOf n == some .cell) then (n, NameKind.cell) else (n, k)).lookup x = some .free
  | [], _, h => by simp at h
  | (n, k0) :: r, x, h => by
    by_cases hx : x = n
    · subst hx
      rw [List.lookup_cons, beq_self_eq_true] at h
      cases h
      rw [List.map_cons]
      dsimp only
      by_cases hc : (NameKind.free == NameKind.free && env.scope.kind == .function && env.kindOf x == some .cell) = true
      · rw [if_pos hc, List.lookup_cons, beq_self_eq_true]; exact .inl rfl
      · rw [if_neg hc, List.lookup_cons, beq_self_eq_true]; exact .inr rfl
    · have hb : (x == n) = false := beq_eq_false_iff_ne.mpr hx
      rw [List.lookup_cons, hb] at h
      have ih := relabel_free (env := env) h
      rw [List.map_cons]
      dsimp only
      by_cases hc : (k0 == NameKind.free && env.scope.kind == .function && env.kindOf n == some .cell) = true
      · rw [if_pos hc, List.lookup_cons, hb]; exact ih
      · rw [if_neg hc, List.lookup_cons, hb]; exact ih
section
variable {X : Cx} {pins : List (Addr × Obj)} {σ : St} {H : Hp} {s : Shared} {N : List Str} {fr : List (Option Nat)} {scope : Scope} {cl : List (Str × Addr)} {fp : List Addr}
theorem Inv.stkLt (I : Inv X pins σ H s) {b : Addr} (hb : b ∈ frs X.stack) : b < s.heap.objs.size := by
  rcases List.mem_cons.mp (I.stkSub b hb) with e | hb
  · rw [e]; exact I.lt
  · exact Nat.lt_of_not_le fun z => I.nofs z hb
theorem comp_ok {C : Addr} (I : Inv X pins σ H s) (S : CScope X N fr scope) (hcl : ∀ x c, cl.lookup x = some c → X.env.cells.lookup x = some c) (hcf : ∀ y ∈ scope.names, y.2 = .free → ∃ c, cl.lookup y.1 = some c)
    (hf : ∀ b ∈ fp, FpOk X pins H b) (hlt : ∀ b ∈ fp, b < s.heap.objs.size) (hC : s.heap.objs.size ≤ C) : (cxComp X N scope cl C fp s H).Ok where
  mod := I.ok.mod
  kind := S.kind
  glob := I.ok.glob
  blt := I.ok.blt
  above := hC
  inj := fun x y c h1 h2 => I.ok.inj x y c (hcl x c h1) (hcl y c h2)
  has := fun x hx => by
    have hm : (x, NameKind.free) ∈ scope.names := by
      rcases hx with hx | hx
      · exact relabel_kind (scope := scope) (env := X.env) S.nocell (.inl rfl) hx
      · exact relabel_kind (scope := scope) (env := X.env) S.nocell (.inr rfl) hx
    exact hcf _ hm rfl
  cab := fun x c h => nomatch h
  hd := I.ok.hd
  hq := by
    rcases I.ok.hq with z | ⟨e, C', z, nd, l⟩
    · exact .inl z
    · refine .inr ⟨e, C', z, nd, fun i a q => ?_⟩
      obtain ⟨o, K', vs, fx, r⟩ := l i a q
      obtain ⟨h1, h2, _, _, h3⟩ := I.fixed fx
      refine ⟨o, K', vs, .inr ⟨h1, h2, h3, fun hb => ?_⟩, r⟩
      obtain ⟨_, _, _, f4, _, f6⟩ := hf a hb
      rcases fx with fx | ⟨g1, _, _, g4⟩
      · exact f6 (a, o) (List.mem_append_left _ fx) rfl
      · rcases f4 with f4 | f4
        · exact g4 f4
        · exact absurd (Heap.lt_size g1) (Nat.not_lt.mpr f4)
  frames := I.ok.frames
  stk := .inl rfl
  exf := fun b hb => ⟨Nat.ne_of_lt (Nat.lt_of_lt_of_le (hlt b hb) hC), fun x c e => (hf b hb).2.2.2.2.1 x c (hcl x c e)⟩
  bs := I.bs
  bsz := Nat.le_trans I.ok.bsz I.sz
  noex := fun b o e hb => by
    rcases (hf b hb).2.2.2.1 with z | z
    · exact I.ok.noex b o e z
    · exact absurd (Nat.lt_of_lt_of_le (Heap.lt_size e) (Nat.le_trans I.ok.bsz z)) (Nat.lt_irrefl _)
  exfs := fun b hb z => by
    rcases List.mem_cons.mp (I.stkSub b z) with e | z
    · exact (hf b hb).2.1 e
    · exact (hf b hb).2.2.1 z
  funs := I.stack
  frf := I.stkFree
theorem slotsC_get {i : Nat} {v : V} (h : (slotsC fr σ)[i]? = some (some v)) : ∃ j, fr[i]? = some (some j) ∧ σ[j]? = some (some v) := by
  unfold slotsC at h
  rw [List.getElem?_map] at h
  cases e : fr[i]? with
  | none => rw [e] at h; cases h
  | some o =>
    rw [e] at h
    have h : (o.bind fun j => (σ[j]?).bind id) = some v := Option.some.inj h
    cases o with
    | none => cases h
    | some j =>
      refine ⟨j, rfl, ?_⟩
      have h : (σ[j]?).bind id = some v := h
      cases e2 : σ[j]? with
      | none => rw [e2] at h; cases h
      | some w => rw [e2] at h; exact congrArg some h
theorem comp_start {C D : Addr} {h1 : Heap} {tk : Nat} {m : Str → Option Value} {ob : Obj} (I : Inv X pins σ H s) (S : CScope X N fr scope) (hcl : ∀ x c, cl.lookup x = some c → X.env.cells.lookup x = some c)
    (hcf : ∀ y ∈ scope.names, y.2 = .free → ∃ c, cl.lookup y.1 = some c) (hf : ∀ b ∈ fp, FpOk X pins H b) (hlt : ∀ b ∈ fp, b < s.heap.objs.size) (hC : s.heap.objs.size ≤ C) (hD : s.heap.objs.size ≤ D) (hDC : D ≠ C)
    (k : ∀ b o, s.heap.get? b = some o → h1.get? b = some o) (hn : h1.Ns C m) (hd : h1.get? D = some ob) (hob : ∀ v, ob.data ≠ .cell v) :
    Inv (cxComp X N scope cl C fp s H) [(D, ob)] (slotsC fr σ) H { s with heap := h1, toks := tk } where
  ok := comp_ok I S hcl hcf hf hlt hC
  os := rfl
  bare := I.bare
  base := Un.kept k
  loc := ⟨m, hn, fun i x v e1 e2 e3 => by
    obtain ⟨j, f1, f2⟩ := slotsC_get e2
    obtain ⟨y, n1, n2, n3⟩ := S.frs i j f1
    have e1 : N[i]? = some x := e1
    rw [e1] at n1
    cases n1
    have kx := S.free _ (PySem.mem_of_lookup n3) rfl
    obtain ⟨m0, _, hl⟩ := I.loc
    obtain ⟨u, r, l⟩ := hl j x v n2 f2 (.inr kx)
    refine ⟨u, r, .inr ⟨relabel_free (env := X.env) n3, ?_⟩⟩
    rcases l with ⟨l, _⟩ | ⟨_, c, ec, hc⟩
    · rcases kx with kx | kx <;> (rw [l] at kx; cases kx)
    · obtain ⟨c', ec'⟩ := hcf _ (PySem.mem_of_lookup n3) rfl
      have := hcl _ _ ec'
      rw [ec] at this
      cases this
      obtain ⟨o, ho, hv⟩ := hc
      exact ⟨c, ec', o, k c o ho, hv⟩⟩
  cell := fun x c e => by
    obtain ⟨v, o, ho, hv⟩ := I.cell x c (hcl x c e)
    exact ⟨v, o, k c o ho, hv⟩
  free := I.hok.fresh hC
  freeC := fun x c e => I.freeC x c (hcl x c e)
  pin := fun p hp => by
    have e : p = (D, ob) := by
      have hp : p ∈ [(D, ob)] := hp
      simpa using hp
    subst e
    exact ⟨hd, I.hok.fresh hD, hDC, fun z => absurd (Nat.lt_of_lt_of_le (I.stkLt z) hD) (Nat.lt_irrefl _), hob⟩
  hok := I.hok.kept k
  len := by
    show (fr.map _).length = N.length
    rw [List.length_map, S.len]
theorem HOk.track {P : Program} {w : World} {H : Hp} {h h' : Heap} {a : Addr} {o : HO} (x : HOk P w H h) (hn : H a = none) (k : ∀ b u, H b ≠ none → h.get? b = some u → h'.get? b = some u) (new : ObjOk P w (upd H a o) h' a o) : HOk P w (upd H a o) h' := fun b u e => by
  by_cases hb : b = a
  · subst hb; rw [upd_same] at e; cases e; exact new
  · rw [upd_ne hb] at e
    refine (x b u e).stay (fun c v hc q => k c v ?_ q) (fun c q => by rw [upd_ne (ne_of_none q hn)]; exact q) fun c xs q => by rw [upd_ne (ne_of_none q hn)]; exact q
    rcases hc with rfl | hc
    · rw [e]; exact fun z => nomatch z
    · rw [hc]; exact fun z => nomatch z
theorem comp_end {C D : Addr} {h' : Heap} {H' : Hp} {s' : Shared} {σ' : St} {its : List Value} {n : Nat} {acc : List V} (I : Inv X pins σ H s)
    (hf : ∀ b ∈ fp, FpOk X pins H b) (hC : s.heap.objs.size ≤ C) (hD : s.heap.objs.size ≤ D) (hDC : D ≠ C)
    (J : Inv (cxComp X N scope cl C fp s H) [(D, { cls := .type "list", data := .seq its.toArray n })] σ' H' s') (r : Vals acc its) (hz : acc.length ≤ sizeLine) (sb : Heap.SameBut C s'.heap h') :
    Inv X pins σ (upd H' D (.lst acc)) { s' with heap := h' } := by
  obtain ⟨hd, hD0, _, _, _⟩ := J.pin (D, { cls := .type "list", data := .seq its.toArray n }) (by simp)
  have hC0 : H' C = none := J.free
  have kC : ∀ b o, b ≠ C → s'.heap.get? b = some o → h'.get? b = some o := fun b o hb e => sb.extBut b o hb e
  have hok : HOk X.prog X.w (upd H' D (.lst acc)) h' := J.hok.track hD0 (fun b u hb e => kC b u (fun z => hb (by rw [z]; exact hC0)) e) ⟨hz, its, n, r, kC D _ hDC hd⟩
  have neC : ∀ b o, s.heap.get? b = some o → b ≠ C := fun b o e => Nat.ne_of_lt (Nat.lt_of_lt_of_le (Heap.lt_size e) hC)
  have neD : ∀ b o, s.heap.get? b = some o → b ≠ D := fun b o e => Nat.ne_of_lt (Nat.lt_of_lt_of_le (Heap.lt_size e) hD)
  have trD : ∀ b o, H b = some o → b ≠ D := fun b o e => Nat.ne_of_lt (Nat.lt_of_lt_of_le (I.hok.lt e) hD)
  have B : Un (frs X.stack) fp H H' s.heap s'.heap := J.base
  have U : Un (frs X.stack) fp H (upd H' D (.lst acc)) s.heap h' := {
    keep := fun b o e n hb hx => kC b o (neC b o e) (B.keep b o e n hb hx)
    slot := fun b o e n hb hx => by
      obtain ⟨sl, q⟩ := B.slot b o e n hb hx
      exact ⟨sl, kC b _ (neC b o e) q⟩
    free := fun b o e n hx => by rw [upd_ne (neD b o e)]; exact B.free b o e n hx
    there := fun b o e hx => by
      obtain ⟨o', q⟩ := B.there b o e hx
      exact ⟨o', kC b _ (neC b o e) q⟩
    tups := fun b xs e => by rw [upd_ne (trD b _ e)]; exact B.tups b xs e
    frzs := fun b o u e => by rw [upd_ne (trD b _ e)]; exact B.frzs b o u e
    tbls := fun b ps e => by rw [upd_ne (trD b _ e)]; exact B.tbls b ps e }
  exact I.call' (s' := { s' with heap := h' }) J.os U hok J.bare fun b hb => ⟨(hf b hb).2.2.2.1, (hf b hb).2.1, (hf b hb).2.2.2.2.1, (hf b hb).2.2.2.2.2⟩
end
def PTs (X : Cx) (ifs : List Expr) (t : TT) : Prop :=
  ∀ (pins : List (Addr × Obj)) (s : Shared) (σ : St) (H : Hp) (Q : Bool → Hp → Prop), Inv X pins σ H s → t σ H Q →
    wpAny (model X.prog X.w) X.A (forIn ifs true fun c r => if r = true then do let ok ← isTrue c X.env (eval c X.env); pure (ForInStep.yield ok) else pure (ForInStep.yield r)) (TP X pins σ Q) X.xe s
def tYes : TT := fun _ H Q => Q true H
theorem pts_nil {X : Cx} : PTs X [] tYes := fun pins s σ H Q I h => wpAny_tests_nil ⟨H, I, h⟩
def tTurns (J : It) (g : TG) (tt : TT) (te : TE) (σ0 : St) (H1 : Hp) (Fin : List V → Hp → Prop) : Prop :=
  ∃ W : Nat → Nat → List V → St → Hp → Prop, (∃ m, W 0 m [] σ0 H1) ∧ ∀ i m acc σ' H', W i m acc σ' H' →
    (J.stop i H' ∧ acc.length ≤ sizeLine ∧ Fin acc H') ∨ (J.go i H' ∧ acc.length < sizeLine ∧ ∃ N : List V → St → Hp → Prop, (∀ acc' σ2 H2, N acc' σ2 H2 → ∃ m', m' < m ∧ W (i + 1) m' acc' σ2 H2) ∧
      ∀ x H2, J.yld i H' x H2 → g x σ' H2 fun σ2 H3 => tt σ2 H3 fun b H4 => if b = true then te σ2 H4 fun y H5 => N (acc ++ [y]) σ2 H5 else N acc σ2 H4)
abbrev lobj (its : List Value) (n : Nat) : Obj := { cls := .type "list", data := .seq its.toArray n }
section
variable {X : Cx} {pins : List (Addr × Obj)} {σ : St} {H : Hp} {s s1 : Shared} {N : List Str} {fr : List (Option Nat)} {scope : Scope} {cl : List (Str × Addr)} {fp : List Addr}
  {elt tg iter : Expr} {ifs : List Expr} {pos : Pos} {it C D : Addr} {tn : Nat → Heap → Prop} {J : It} {g : TG} {tt : TT} {te : TE} {R : Result → Shared → Prop} {Fin : List V → Hp → Prop} {σ0 : St} {H1 : Hp}
theorem comp_loop (hc : X.calm = X.calm) (hg : PG (cxComp X N scope cl C fp s H) tg g) (ht : PTs (cxComp X N scope cl C fp s H) ifs tt) (he : PE (cxComp X N scope cl C fp s H) elt te) (T : Turn X.prog X.w X.K tg J fp it tn)
    (sf : ∀ b ∈ fp, b ≠ C ∧ b ∉ frs X.stack ∧ (∀ x c, cl.lookup x = some c → c ≠ b) ∧ D ≠ b) (sD : s.heap.objs.size ≤ D ∧ D ≠ C ∧ D ∉ frs X.stack ∧ ∀ x c, cl.lookup x = some c → c ≠ D)
    (I0 : Inv (cxComp X N scope cl C fp s H) [(D, lobj [] 0)] σ0 H1 s1) (st0 : tn 0 s1.heap) (f0 : ∀ b ∈ fp, H1 b = none) (hL : tTurns J g tt te σ0 H1 Fin)
    (hR : ∀ s' H' σ' its n acc, Inv (cxComp X N scope cl C fp s H) [(D, lobj its n)] σ' H' s' → Vals acc its → acc.length ≤ sizeLine → Fin acc H' → R (.ok .next) s') :
    codeAny (model X.prog X.w) X.A (.compLoop (.ListComp elt [⟨tg, iter, ifs, 0⟩] scope pos) 0 (.ref it) (.ref D) (compEnvC scope cl C X.env)) R s1 := by
  obtain ⟨W, ⟨m0, w0⟩, turn⟩ := hL
  refine codeAny_loop rfl (fun n s' => ∃ i σ' H' its k acc, Inv (cxComp X N scope cl C fp s H) [(D, lobj its k)] σ' H' s' ∧ tn i s'.heap ∧ (∀ b ∈ fp, H' b = none) ∧ Vals acc its ∧ W i n acc σ' H') ?_ m0 ⟨0, σ0, H1, [], 0, [], I0, st0, f0, .nil, w0⟩
  rintro n s3 ⟨i, σ3, H3, its, k, acc, I3, st3, fr3, r3, w3⟩
  show wpAny _ X.A ((compTurn (.ListComp elt [⟨tg, iter, ifs, 0⟩] scope pos) 0 (.ref it) (.ref D) (compEnvC scope cl C X.env)).onRaise (fun x => do noteFrame x (compEnvC scope cl C X.env); theTreesLotGoes x)) _ _ s3
  refine wpAny_noted ?_
  rw [compTurn_list]
  have stat : ∀ {its : List Value} {k : Nat} {H' : Hp}, (∀ b ∈ fp, H' b = none) → ∀ b ∈ fp, FpOk (cxComp X N scope cl C fp s H) [(D, lobj its k)] H' b := fun {its k H'} hn b hb => by
    obtain ⟨a1, a2, a3, a4⟩ := sf b hb
    refine ⟨hn b hb, a1, a2, .inl hb, a3, fun p hp => ?_⟩
    have e : p = (D, lobj its k) := by
      have hp : p ∈ [(D, lobj its k)] := hp
      simpa using hp
    subst e
    exact a4
  rcases turn i n acc σ3 H3 w3 with ⟨stop, hz, fin⟩ | ⟨go, hz, Nx, hN, step⟩
  · refine wpAny_bind (wpAny_standAt (wpAny_bind (wpAny_mono (T.done (cxComp X N scope cl C fp s H) rfl rfl rfl hc i _ s3 σ3 H3 (fun _ _ => False) I3 (stat fr3) st3 stop) (fun r s4 h4 => ?_) fun _ _ f => f.elim)))
    obtain ⟨hr, I4⟩ := h4
    subst hr
    exact wpAny_pure (hR s4 H3 σ3 its k acc I4 r3 hz fin)
  · refine wpAny_bind (wpAny_standAt (wpAny_bind (wpAny_mono (T.item (cxComp X N scope cl C fp s H) rfl rfl rfl hc i _ s3 σ3 H3 (fun _ _ => False) I3 (stat fr3) st3 go) (fun r s4 h4 => ?_) fun _ _ f => f.elim)))
    obtain ⟨u, hr, h4⟩ := h4
    subst hr
    refine wpAny_bind (wpAny_mono h4 (fun _ s5 h5 => ?_) fun _ _ f => f.elim)
    obtain ⟨x, H5, I5, r5, y5, st5, fr5⟩ := h5
    have I5' := I5.pinned (stat fr5) (T.obj _ _ st5)
    refine wpAny_bind (wpAny_mono (hg _ s5 σ3 H5 x u _ I5' r5 (step x H5 y5)) (fun _ s6 h6 => ?_) fun _ _ f => f.elim)
    obtain ⟨σ6, H6, I6, q6⟩ := h6
    refine wpAny_bind (wpAny_mono (ht _ s6 σ6 H6 _ I6 q6) (fun ok s7 h7 => ?_) fun _ _ f => f.elim)
    obtain ⟨H7, I7, q7⟩ := h7
    have pn : ∀ {σ8 : St} {H8 : Hp} {s8 : Shared}, Inv (cxComp X N scope cl C fp s H) ([(D, lobj its k)] ++ pinsAt fp s5.heap) σ8 H8 s8 → tn (i + 1) s8.heap ∧ (∀ b ∈ fp, H8 b = none) ∧ s8.heap.get? D = some (lobj its k) ∧ H8 D = none := fun {σ8 H8 s8} I8 => by
      refine ⟨T.keep _ _ _ st5 fun b hb o e => (I8.pin (b, o) (List.mem_append_right _ (List.mem_append_right _ (mem_pinsAt hb e)))).1, fun b hb => ?_, ?_, ?_⟩
      · obtain ⟨o, e, d⟩ := T.obj _ _ st5 b hb
        exact (I8.pin (b, o) (List.mem_append_right _ (List.mem_append_right _ (mem_pinsAt hb e)))).2.1
      · exact (I8.pin (D, lobj its k) (List.mem_append_right _ (List.mem_append_left _ (by simp)))).1
      · exact (I8.pin (D, lobj its k) (List.mem_append_right _ (List.mem_append_left _ (by simp)))).2.1
    cases ok with
    | false =>
      obtain ⟨t8, f8, _, _⟩ := pn I7
      obtain ⟨m', hm, w8⟩ := hN acc σ6 H7 q7
      exact wpAny_pure ⟨rfl, m', hm, i + 1, σ6, H7, its, k, acc, I7.unpinned, t8, f8, r3, w8⟩
    | true =>
      have q7 : te σ6 H7 fun y H5 => Nx (acc ++ [y]) σ6 H5 := q7
      refine wpAny_bind (wpAny_bind (wpAny_mono (he _ s7 σ6 H7 _ I7 q7) (fun v s8 h8 => ?_) fun _ _ f => f.elim))
      obtain ⟨y, H8, I8, r8, n8⟩ := h8
      obtain ⟨t8, f8, d8, dn8⟩ := pn I8
      have hil : its.toArray.size ≤ sizeLine := by
        have := r3.length
        simp only [List.size_toArray]
        omega
      refine wpAny_bind (append_at (hsz := hil) d8 fun h9 sb9 d9 => ?_)
      refine wpAny_pure (wpAny_pure ⟨rfl, ?_⟩)
      obtain ⟨m', hm, w9⟩ := hN (acc ++ [y]) σ6 H8 n8
      have I8' : Inv (cxComp X N scope cl C fp s H) [] σ6 H8 s8 := I8.pins_of fun p hp => nomatch hp
      have I9 : Inv (cxComp X N scope cl C fp s H) [] σ6 H8 { s8 with heap := h9 } := I8'.turned (t' := s8.toks) (it := D) (fun b o hb e => sb9.extBut b o hb e) dn8 sD.2.1 (.inr sD.1) sD.2.2.2 fun p hp => nomatch hp
      have eo : ({ cls := .type "list", data := .seq (its.toArray.push v) (k + 1) } : Obj) = lobj (its ++ [v]) (k + 1) := by
        show ({ cls := .type "list", data := .seq (its.toArray.push v) (k + 1) } : Obj) = { cls := .type "list", data := .seq (its ++ [v]).toArray (k + 1) }
        rw [List.push_toArray]
      refine ⟨m', hm, i + 1, σ6, H8, its ++ [v], k + 1, acc ++ [y], I9.pins_of fun p hp => ?_, T.keep _ _ _ t8 fun b hb o e => sb9.extBut b o (fun z => (sf b hb).2.2.2 z.symm) e, f8, r3.append (.cons r8 .nil), w9⟩
      have e : p = (D, lobj (its ++ [v]) (k + 1)) := by
        have hp : p ∈ [(D, lobj (its ++ [v]) (k + 1))] := hp
        simpa using hp
      subst e
      refine ⟨d9.trans (congrArg some eo), dn8, sD.2.1, sD.2.2.1, fun v z => nomatch z⟩
theorem comp_block {RR : Value → Addr → Result → Shared → Prop} {E : Value → Shared → Prop} (hc : X.calm = X.calm) (S : CScope X N fr scope) (hcl : ∀ x c, cl.lookup x = some c → X.env.cells.lookup x = some c)
    (hcf : ∀ y ∈ scope.names, y.2 = .free → ∃ c, cl.lookup y.1 = some c) (hg : ∀ C fp s H, PG (cxComp X N scope cl C fp s H) tg g) (ht : ∀ C fp s H, PTs (cxComp X N scope cl C fp s H) ifs tt) (he : ∀ C fp s H, PE (cxComp X N scope cl C fp s H) elt te)
    (T : Turn X.prog X.w X.K tg J fp it tn) (I : Inv X pins σ H s) (st : tn 0 s.heap) (hf : ∀ b ∈ fp, FpOk X pins H b) (hL : tTurns J g tt te (slotsC fr σ) H Fin)
    (hRR : ∀ C D s' H' σ' its n acc, s.heap.objs.size ≤ C → s.heap.objs.size ≤ D → D ≠ C → Inv (cxComp X N scope cl C fp s H) [(D, lobj its n)] σ' H' s' → Vals acc its → acc.length ≤ sizeLine → Fin acc H' → RR (.ref D) C (.ok .next) s') :
    wpAny (model X.prog X.w) X.A (newList []) (fun acc s₃ => wpAny (model X.prog X.w) X.A (newFunctionEnv scope X.env.globals cl [] X.env.qual none .none (some X.env)) (fun cenv s₄ =>
      codeAny (model X.prog X.w) X.A (.compStart (.ListComp elt [⟨tg, iter, ifs, 0⟩] scope pos) 0 (.ref it) acc { cenv with scope := relabel scope X.env }) (RR acc cenv.locals) s₄) E s₃) E s := by
  refine wpAny_newObj_type (wpAny_newFunctionEnv S.nocell (by intro y hy; simp at hy) (fun h₁ hns₁ hsb₁ => ?_) S.kind)
  dsimp only at hns₁ hsb₁ ⊢
  generalize hH2 : s.heap.push { cls := .type "list", dict := none, data := .seq ([] : List Value).toArray } = H2 at hns₁ hsb₁ ⊢
  have hC : H2.objs.size = s.heap.objs.size + 1 := by rw [← hH2, Heap.size_push]
  have hDC : s.heap.objs.size ≠ H2.objs.size := by rw [hC]; exact Nat.ne_of_lt (Nat.lt_succ_self _)
  have hCle : s.heap.objs.size ≤ H2.objs.size := by rw [hC]; exact Nat.le_succ _
  have old : ∀ b o, s.heap.get? b = some o → h₁.get? b = some o := fun b o e => hsb₁.extBut b o (Nat.ne_of_lt (Nat.lt_of_lt_of_le (Heap.lt_size e) hCle)) (Heap.get?_push_of_some _ (hH2 ▸ Heap.get?_push_of_some _ e))
  have hacc : h₁.get? s.heap.objs.size = some (lobj [] 0) := hsb₁.extBut _ _ hDC (Heap.get?_push_of_some _ (hH2 ▸ Heap.get?_push_size _ rfl))
  have hlt : ∀ b ∈ fp, b < s.heap.objs.size := fun b hb => by
    obtain ⟨o, e, _⟩ := T.obj _ _ st b hb
    exact Heap.lt_size e
  have hcs : ∀ x c, cl.lookup x = some c → c < s.heap.objs.size := fun x c e => by
    obtain ⟨v, q⟩ := I.cell x c (hcl x c e)
    exact q.lt
  have loop : ∀ s₃ : Shared, s₃ = { s with heap := h₁, toks := s.toks + ([] : List (Str × Value)).length } →
      codeAny (model X.prog X.w) X.A (.compLoop (.ListComp elt [⟨tg, iter, ifs, 0⟩] scope pos) 0 (.ref it) (.ref s.heap.objs.size) (compEnvC scope cl H2.objs.size X.env))
        (RR (.ref s.heap.objs.size) H2.objs.size) s₃ := by
    rintro s₃ rfl
    refine comp_loop hc (hg _ _ _ _) (ht _ _ _ _) (he _ _ _ _) T (fun b hb => ⟨Nat.ne_of_lt (Nat.lt_of_lt_of_le (hlt b hb) hCle), fun z => ?_, fun x c e => (hf b hb).2.2.2.2.1 x c (hcl x c e), Nat.ne_of_gt (hlt b hb)⟩)
      ⟨Nat.le_refl _, hDC, fun z => absurd (I.stkLt z) (Nat.lt_irrefl _), fun x c e => Nat.ne_of_lt (hcs x c e)⟩
      (comp_start I S hcl hcf hf hlt hCle (Nat.le_refl _) hDC old hns₁ hacc fun v z => nomatch z) (T.keep _ _ _ st fun b _ o e => old b o e) (fun b hb => (hf b hb).1) hL
      fun s' H' σ' its n acc I' r hz fin => hRR _ _ s' H' σ' its n acc hCle (Nat.le_refl _) hDC I' r hz fin
    rcases List.mem_cons.mp (I.stkSub b z) with e | z
    · exact (hf b hb).2.1 e
    · exact (hf b hb).2.2.1 z
  exact codeAny_compStart_list (loop _ rfl) (T.self X.A 0 _ _ _ (T.keep _ _ _ st fun b _ o e => old b o e) (loop _ rfl))
def tComp (wi : TI) (fr : List (Option Nat)) (g : TG) (tt : TT) (te : TE) : TE := fun σ H Q => wi σ H fun J H1 => tTurns J g tt te (slotsC fr σ) H1 fun acc H2 => ∀ p, H2 p = none → Q (.ref p) (upd H2 p (.lst acc))
theorem pe_comp {wi : TI} (N : List Str) (fr : List (Option Nat)) (hc : X.calm = X.calm) (S : CScope X N fr scope) (hi : PI X tg iter wi) (hg : ∀ cl C fp s H, PG (cxComp X N scope cl C fp s H) tg g) (ht : ∀ cl C fp s H, PTs (cxComp X N scope cl C fp s H) ifs tt)
    (he : ∀ cl C fp s H, PE (cxComp X N scope cl C fp s H) elt te) (hs : ∀ x, foldedSetIterable iter X.env x = pure x := by intro _; rfl) : PE X (.ListComp elt [⟨tg, iter, ifs, 0⟩] scope pos) (tComp wi fr g tt te) := by
  intro pins s σ H Q I h
  obtain ⟨cl, hclos, hcl, hcf⟩ := closure_of (scope := scope) (env := X.env) fun y hy hf => I.ok.has y.1 (S.free y hy hf)
  rw [eval_ListComp]
  refine wpAny_comprehension_free (use := none) rfl hs hclos S.kind S.names (wpAny_mono (hi pins s σ H _ I h) (fun xv s₁ h₁ => wpAny_mono h₁ (fun itv s2 h2 => ?_) fun _ _ e => e) fun _ _ e => e)
  obtain ⟨it, fp, tn, J, H2, e, I2, T, st2, f2, hL⟩ := h2
  subst e
  refine comp_block (RR := fun acc C => compPost (model X.prog X.w) X.A X.xe none (EP X pins σ Q) acc C) hc S hcl hcf (hg cl) (ht cl) (he cl) T I2 st2 f2 hL ?_
  intro C D s' H' σ' its n acc hC hD hDC J' r hz fin
  obtain ⟨m, hn, _⟩ := J'.loc
  refine ⟨m, hn, fun h' sb => ⟨.ref D, _, comp_end I2 f2 hC hD hDC J' r hz sb, rfl, fin D ?_⟩⟩
  exact (J'.pin (D, lobj its n) (by simp)).2.1
theorem ps_comp {wi : TI} {i : Nat} {y : Str} {py spos : Pos} (N : List Str) (fr : List (Option Nat)) (hc : X.calm = X.calm) (hN : X.N.Nodup) (hiy : X.N[i]? = some y) (hy : X.env.scope.names.lookup y = some .local) (S : CScope X N fr scope) (hi : PI X tg iter wi)
    (hg : ∀ cl C fp s H, PG (cxComp X N scope cl C fp s H) tg g) (ht : ∀ cl C fp s H, PTs (cxComp X N scope cl C fp s H) ifs tt) (he : ∀ cl C fp s H, PE (cxComp X N scope cl C fp s H) elt te)
    (hsw : swapsWith (.ListComp elt [⟨tg, iter, ifs, 0⟩] scope pos) (some (.Name y py)) spos.line X.env = pure true := by rfl) (hs : ∀ x, foldedSetIterable iter X.env x = pure x := by intro _; rfl) :
    PS X (.Assign [.Name y py] (.ListComp elt [⟨tg, iter, ifs, 0⟩] scope pos) spos) (tAsg (tComp wi fr g tt te) (gName i)) := by
  intro pins s σ H Dn I h
  obtain ⟨cl, hclos, hcl, hcf⟩ := closure_of (scope := scope) (env := X.env) fun y hy hf => I.ok.has y.1 (S.free y hy hf)
  rw [exec_Assign_Name_used _ _ _ _ hsw]
  refine wpAny_bind (wpAny_standAt (wpAny_bind ?_))
  show wpAny _ X.A (do let _ ← comprehension (.ListComp elt [⟨tg, iter, ifs, 0⟩] scope pos) scope X.env _ (newList []) false (eval iter X.env) (some (assign (.Name y py) X.env))) _ _ s
  refine wpAny_bind (wpAny_mono (wpAny_comprehension_free (use := some (assign (.Name y py) X.env)) (Q := fun _ s' => SP X pins Dn .next s') rfl hs hclos S.kind S.names
    (wpAny_mono (hi pins s σ H _ I h) (fun xv s₁ h₁ => wpAny_mono h₁ (fun itv s2 h2 => ?_) fun _ _ e => e) fun _ _ e => e)) (fun _ s' hq => wpAny_pure (wpAny_pure hq)) fun _ _ e => e)
  obtain ⟨it, fp, tn, J, H2, e, I2, T, st2, f2, hL⟩ := h2
  subst e
  refine comp_block (RR := fun acc C => compPost (model X.prog X.w) X.A X.xe (some (assign (.Name y py) X.env)) (fun _ s' => SP X pins Dn .next s') acc C) hc S hcl hcf (hg cl) (ht cl) (he cl) T I2 st2 f2 hL ?_
  intro C D s' H' σ' its n acc hC hD hDC J' r hz fin
  obtain ⟨m, hn, _⟩ := J'.loc
  have hD0 : H' D = none := (J'.pin (D, lobj its n) (by simp)).2.1
  have hC0 : H' C = none := J'.free
  have I3 : Inv X pins σ (upd H' D (.lst acc)) s' := comp_end (h' := s'.heap) I2 f2 hC hD hDC J' r hz (Heap.SameBut.refl ..)
  refine wpAny_assign_Name (store_ok2 (v := .ref D) I3 hN hiy (.inl hy) rfl (fun s4 I4 sb4 => ?_) (.inr hy))
  obtain ⟨a, sb4, ha⟩ := sb4
  have hCa : C ≠ a := by
    rcases ha with ha | ha
    · rw [ha]; exact Nat.ne_of_gt (Nat.lt_of_lt_of_le I2.lt hC)
    · obtain ⟨v, q⟩ := I2.cell y a ha
      exact Nat.ne_of_gt (Nat.lt_of_lt_of_le q.lt hC)
  refine ⟨m, hn.sameBut sb4 hCa, fun h' sb => ?_⟩
  refine ⟨_, _, I4.turned (t' := s4.toks) (it := C) (fun b o hb e => sb.extBut b o hb e) ?_ ?_ ?_ ?_ ?_, fin D hD0⟩
  · rw [upd_ne (Ne.symm hDC)]; exact hC0
  · exact Nat.ne_of_gt (Nat.lt_of_lt_of_le I2.lt hC)
  · exact .inr (Nat.le_trans I2.sz hC)
  · intro x c e
    obtain ⟨v, q⟩ := I2.cell x c e
    exact Nat.ne_of_lt (Nat.lt_of_lt_of_le q.lt hC)
  · intro p hp
    exact Nat.ne_of_lt (Nat.lt_of_lt_of_le (Heap.lt_size (I2.pin p hp).1) hC)
end
end L2
set_option Elab.async false
set_option linter.all false
set_option maxRecDepth 100000
namespace L2
open PySem PySem.Spec PyProof.Rows
section
variable {X : Cx} {a b : Expr} {ta tb : TE} {pos : Pos} {tg : Expr}
theorem op_mulB : OpR X (binaryOp .Mult) (rI IntMulOk fun i j => .int (i * j)) := opI fun _ _ _ _ _ _ _ hc q => mul_int q hc
def CDivB (_ j : Int) : Prop := 0 < j ∧ j.natAbs.log2 < 9000
theorem op_fdivB : OpR X (binaryOp .FloorDiv) (rI CDivB fun i j => .int (i / j)) := opI fun i j _ _ _ _ _ hc q => by
  have h1 : (0 : Int) < j := hc.1
  refine floordiv_int (by omega) ?_ (Or.inl (PyProof.noPylong_of_log2 hc.2))
  rw [Int.fdiv_eq_ediv_of_nonneg _ (by omega)]
  exact q
def Its (x : Str) : It := ⟨fun i _ => i < x.cps.size, fun i H v H' => H' = H ∧ ∃ c, x.cps[i]? = some c ∧ v = .str ⟨#[c]⟩, fun i _ => x.cps.size = i⟩
inductive I_iStr (x : V) (H1 : Hp) (R : It → Hp → Prop) : Prop
  | mk (z : _) (q1 : x = .str z) (q2 : R (Its z) H1)
inductive I_rJoin (K : PySem.W.Frag) (x : V) (vs : List V) (H : Hp) (Q : VK) : Prop
  | mk (z : Str) (p : Addr) (ys : List Str) (q1 : x = .str z) (q2 : vs = [.ref p]) (q3 : SqL K H p (ys.map V.str)) (q4 : (ys.map (·.length)).sum + ys.length * z.length ≤ 16777216) (q5 : Q (.str (Txt.join z ys)) H)
inductive I_rBits  (x : V) (vs : List V) (H : Hp) (Q : VK) : Prop
  | mk (i : _) (q1 : x = .int i) (q2 : vs = []) (q3 : Q (.int (Builtin.Int.intBits i)) H)
def TyQ (K : PySem.W.Frag) (H : Hp) (x : V) (t : Value) : Prop := TyOf K H x t ∨ ∃ a xs, x = .ref a ∧ SqT K H a xs ∧ t = .type "tuple"
inductive I_rIsi (K : PySem.W.Frag) (xs : List V) (H : Hp) (Q : VK) : Prop
  | mk (x : _) (c : _) (t : _) (b : _) (q1 : xs = [x, c]) (q2 : TyQ K H x t) (q3 : ((∃ n, c = .ty n ∧ PySem.W.kitOne K t (.type n) = some b) ∨ ∃ (a : Addr) (ns : List String), c = .ref a ∧ H a = some (.tup (ns.map V.ty)) ∧ PySem.W.kitAny K t (ns.map Value.type) = some b)) (q4 : Q (.bl b) H)
def rIsi (K : PySem.W.Frag) : List V → Hp → VK → Prop := fun xs H Q => I_rIsi K xs H Q
theorem types_of {ns : List String} : ∀ {us : List Value}, Vals (ns.map V.ty) us → us = ns.map Value.type := by
  induction ns with
  | nil => intro us r; cases r; rfl
  | cons n r ih =>
    intro us q
    cases q with
    | cons h t =>
      cases h
      rw [ih t]
      rfl
theorem isinst_tup {pins : List (Addr × Obj)} {σ : St} {H : Hp} {s : Shared} {A : Around} {E : Value → Shared → Prop} {Q : Value → Shared → Prop} {x : V} {u t : Value} {tp : Addr} {ns : List String} {b : Bool} (I : Inv X pins σ H s) (rx : RelV x u) (ty : TyOf X.K H x t)
    (htp : H tp = some (.tup (ns.map V.ty))) (e : PySem.W.kitAny X.K t (ns.map Value.type) = some b) (h : ∀ tk, Q (.bool b) { s with toks := tk }) :
    wpAny (model X.prog X.w) A (call (.builtin "isinstance") [u, .ref tp]) Q E s := by
  obtain ⟨_, its, rv, ⟨cls, dd, data, sl⟩, ho, hcl, n, hd⟩ := (show ObjOk X.prog X.w H s.heap tp (.tup (ns.map V.ty)) from I.hok tp _ htp)
  simp only at hcl hd
  subst hcl hd
  have ei := types_of rv
  subst ei
  cases ty with
  | non => cases (show u = Value.none from rx); exact PySem.W.kia_tup PySem.W.kitx_none I.kIn True.intro ho e (fun z => nomatch z) h
  | bl y => cases (show u = Value.bool y from rx); exact PySem.W.kia_tup PySem.W.kitx_bool I.kIn True.intro ho e (fun z => nomatch z) h
  | int i => obtain ⟨t, q⟩ := (show ∃ t, u = Value.int i t from rx); cases q; exact PySem.W.kia_tup PySem.W.kitx_int I.kIn True.intro ho e (fun z => nomatch z) h
  | str y => obtain ⟨t, q⟩ := (show ∃ t, u = Value.str y t from rx); cases q; exact PySem.W.kia_tup PySem.W.kitx_str I.kIn True.intro ho e (fun z => nomatch z) h
  | flt y => obtain ⟨t, q⟩ := (show ∃ t, u = Value.float y t from rx); cases q; exact PySem.W.kia_tup PySem.W.kitx_float I.kIn True.intro ho e (fun z => nomatch z) h
  | @lst a xs ea =>
    cases (show u = Value.ref a from rx)
    obtain ⟨_, _, n, _, h1⟩ := (show ObjOk X.prog X.w H s.heap a (.lst xs) from I.hok a _ ea)
    exact PySem.W.kia_tup PySem.W.kitx_list I.kIn ⟨_, h1, rfl⟩ ho e (fun z => nomatch z) h
  | @frz a ob xs ea =>
    cases (show u = Value.ref a from rx)
    obtain ⟨_, _, _, n, _, h1⟩ := (show ObjOk X.prog X.w H s.heap a (.frz ob (.lst xs)) from I.hok a _ ea)
    exact PySem.W.kia_tup PySem.W.kitx_list I.kIn ⟨_, h1, rfl⟩ ho e (fun z => nomatch z) h
  | @tup a xs ea =>
    cases (show u = Value.ref a from rx)
    obtain ⟨_, _, _, p⟩ := (show ObjOk X.prog X.w H s.heap a (.tup xs) from I.hok a _ ea)
    obtain ⟨o, h1, h2, _⟩ := p
    exact PySem.W.kia_tup PySem.W.kitx_tuple I.kIn ⟨o, h1, h2⟩ ho e (fun z => nomatch z) h
  | @dK a kvs ea =>
    cases (show u = Value.ref a from rx)
    obtain ⟨_, _, vs, _, p⟩ := (show ObjOk X.prog X.w H s.heap a (.dK kvs) from I.hok a _ ea)
    obtain ⟨o, es, ep, h1, h2, _⟩ := p
    exact PySem.W.kia_tup PySem.W.kitx_dict I.kIn ⟨o, h1, h2.1⟩ ho e (fun z => nomatch z) h
  | @dT a kvs ea =>
    cases (show u = Value.ref a from rx)
    obtain ⟨_, _, xs, _, o, es, ep, h1, h2, _⟩ := (show ObjOk X.prog X.w H s.heap a (.dT kvs) from I.hok a _ ea)
    exact PySem.W.kia_tup PySem.W.kitx_dict I.kIn ⟨o, h1, h2.1⟩ ho e (fun z => nomatch z) h
  | @ins a C dx fs ea cl ha hn htk hm =>
    cases (show u = Value.ref a from rx)
    obtain ⟨mA, O, _⟩ := ins_get I.hok ea
    obtain ⟨od, J, _⟩ := O.look
    exact PySem.W.kia_tup (PySem.W.kitx_own (cl.get _) cl.hd ha hn htk hm) I.kIn J ho e (fun z => nomatch z) h
theorem call_isi : CallR X (.builtin "isinstance") (rIsi X.K) := by
  intro pins s σ H xs us Q I r h
  obtain ⟨x, c, t, b, rfl, ty, hc, q⟩ := h
  obtain ⟨u, w', rfl, ru, rw'⟩ := vals2 r
  rcases hc with ⟨n, rfl, e⟩ | ⟨a, ns, rfl, ha, e⟩
  · cases (show w' = Value.type n from rw')
    rcases ty with ty | ⟨p, ys, rfl, hp, rfl⟩
    · exact isinst_ok I ru ty e fun tk => ⟨.bl b, H, I.tok _, rfl, q⟩
    · cases (show u = Value.ref p from ru)
      obtain ⟨its, r', ⟨o, h1, h2, _⟩, _⟩ := I.tuple hp
      exact PySem.W.kia_one PySem.W.kitx_tuple I.kIn ⟨o, h1, h2⟩ e (fun z => nomatch z) fun tk => ⟨.bl b, H, I.tok _, rfl, q⟩
  · cases (show w' = Value.ref a from rw')
    rcases ty with ty | ⟨p, ys, rfl, hp, rfl⟩
    · exact isinst_tup I ru ty ha e fun tk => ⟨.bl b, H, I.tok _, rfl, q⟩
    · cases (show u = Value.ref p from ru)
      obtain ⟨its, r', ⟨o, h1, h2, _⟩, _⟩ := I.tuple hp
      obtain ⟨_, its', rv, ⟨cls, dd, data, sl⟩, ho, hcl, n, hd⟩ := (show ObjOk X.prog X.w H s.heap a (.tup (ns.map V.ty)) from I.hok a _ ha)
      simp only at hcl hd
      subst hcl hd
      have ei := types_of rv
      subst ei
      exact PySem.W.kia_tup PySem.W.kitx_tuple I.kIn ⟨o, h1, h2⟩ ho e (fun z => nomatch z) fun tk => ⟨.bl b, H, I.tok _, rfl, q⟩
def eqVs (xs ys : List V) : Bool := xs.length == ys.length && (xs.zip ys).all fun p => eqV p.1 p.2
theorem range_zip (f : V → V → Bool) : ∀ (xs ys : List V), xs.length = ys.length → ((List.range xs.length).all fun j => match xs[j]?, ys[j]? with | some x, some y => f x y | _, _ => true) = (xs.zip ys).all fun p => f p.1 p.2
  | [], [], _ => rfl
  | x :: xs, y :: ys, h => by
    have ih := range_zip f xs ys (by simpa using h)
    rw [List.length_cons, List.range_succ_eq_map, List.all_cons, List.zip_cons_cons, List.all_cons, ← ih, List.all_map]
    rfl
  | [], _ :: _, h => by simp at h
  | _ :: _, [], h => by simp at h
inductive I_rEqL (K : PySem.W.Frag) (neg : Bool) (x : V) (y : V) (H : Hp) (Q : VK) : Prop
  | mk (a : _) (b : _) (xs : _) (ys : _) (q1 : x = .ref a) (q2 : y = .ref b) (q3 : SqL K H a xs) (q4 : SqL K H b ys) (q5 : (ys = [] ∨ (xs.all flatV = true ∧ ys.all flatV = true))) (q6 : Q (.bl (if neg then !eqVs xs ys else eqVs xs ys)) H)
def rEqL (K : PySem.W.Frag) (neg : Bool) : R2 := fun x y H Q => I_rEqL K neg x y H Q
theorem flat_at {xs : List V} (h : xs.all flatV = true) {j : Nat} {x : V} (e : xs[j]? = some x) : flatV x = true := by
  rw [List.all_eq_true] at h
  exact h x (List.mem_of_getElem? e)
theorem eq_items {A : Around} {s : Shared} {xs ys : List V} {us ws : List Value} (r1 : Vals xs us) (r2 : Vals ys ws) (f1 : xs.all flatV = true) (f2 : ys.all flatV = true) :
    ∀ j (h1 : j < us.toArray.size) (h2 : j < ws.toArray.size), SeqAt.EqAt A s us.toArray[j] ws.toArray[j] (match xs[j]?, ys[j]? with | some x, some y => eqV x y | _, _ => true) := by
  intro j h1 h2
  have l1 := r1.length
  have l2 := r2.length
  simp only [List.size_toArray] at h1 h2
  have e1 : xs[j]? = some xs[j] := List.getElem?_eq_getElem (by omega)
  have e2 : ys[j]? = some ys[j] := List.getElem?_eq_getElem (by omega)
  obtain ⟨u, eu, ru⟩ := r1.get e1
  obtain ⟨w', ew, rw'⟩ := r2.get e2
  rw [e1, e2]
  have q1 : us.toArray[j] = u := by
    have := List.getElem?_eq_getElem (l := us) (i := j) h1
    rw [eu] at this
    simpa using (Option.some.inj this).symm
  have q2 : ws.toArray[j] = w' := by
    have := List.getElem?_eq_getElem (l := ws) (i := j) h2
    rw [ew] at this
    simpa using (Option.some.inj this).symm
  rw [q1, q2]
  exact eqAt_V ru rw' (flat_at f1 e1) (flat_at f2 e2)
theorem eqVs_len {xs ys : List V} (h : xs.length ≠ ys.length) : eqVs xs ys = false := by
  unfold eqVs
  rw [show (xs.length == ys.length) = false from beq_eq_false_iff_ne.mpr h]
  rfl
theorem eqVs_same {xs ys : List V} (h : xs.length = ys.length) : eqVs xs ys = (List.range xs.length).all fun j => match xs[j]?, ys[j]? with | some x, some y => eqV x y | _, _ => true := by
  rw [range_zip eqV xs ys h]
  unfold eqVs
  rw [h, beq_self_eq_true, Bool.true_and]
theorem op_neL (hu : X.A.units < cLine) : OpR X (compareOp .NotEq) (rEqL X.K true) := by
  intro pins s σ H x y v u Q I rx ry h
  obtain ⟨a, b, xs, ys, rfl, rfl, ha, hb, hf, q⟩ := h
  cases rx
  cases ry
  obtain ⟨us, r1, p1, z1⟩ := I.list ha
  obtain ⟨ws, r2, p2, z2⟩ := I.list hb
  have l1 := r1.length
  have l2 := r2.length
  have q : Q (.bl (!eqVs xs ys)) H := q
  by_cases hl : xs.length = ys.length
  · have hf' : xs.all flatV = true ∧ ys.all flatV = true := by
      rcases hf with hf | hf
      · subst hf
        have : xs = [] := List.length_eq_zero_iff.mp hl
        subst this
        exact ⟨rfl, rfl⟩
      · exact hf
    refine SeqAt.RcNeAt.lists p1.isList p2.isList (by simp; omega) hu (eq_items r1 r2 hf'.1 hf'.2) X.prog X.w X.xe _ ⟨.bl (!eqVs xs ys), H, I, ?_, q⟩
    show Value.bool _ = Value.bool _
    rw [eqVs_same hl, List.size_toArray, l1]
  · rw [eqVs_len hl] at q
    exact SeqAt.RcNeAt.lists_lengths p1.isList p2.isList (by simp; omega) hu X.prog X.w X.xe _ ⟨.bl true, H, I, rfl, q⟩
inductive I_rEqT (K : PySem.W.Frag) (x : V) (y : V) (H : Hp) (Q : VK) : Prop
  | mk (a : _) (b : _) (xs : _) (ys : _) (q1 : x = .ref a) (q2 : y = .ref b) (q3 : SqT K H a xs) (q4 : SqT K H b ys) (q5 : xs.length = ys.length) (q6 : xs.all flatV = true) (q7 : ys.all flatV = true) (q8 : Q (.bl (eqVs xs ys)) H)
end
section
variable {X : Cx} {pos : Pos}
theorem ix_listK (K : PySem.W.Frag) (hK : X.K = K) : IxR X (rIxL K) := by subst hK; exact ix_list
theorem call_list_ofK (K : PySem.W.Frag) (hK : X.K = K) : CallR X (.type "list") (fun xs H Q => ∃ p ys, xs = [.ref p] ∧ (SqL K H p ys ∨ SqT K H p ys) ∧ ∀ l, H l = none → Q (.ref l) (upd H l (.lst ys))) := by subst hK; exact call_list_of
end
inductive I_tMid (t : TS) (D : Ends) (σ : St) (H : Hp) : Prop
  | mk (C : St → Hp → Prop) (q1 : t (D.to C) σ H) (q2 : ∀ σ' H', C σ' H' → D.nx σ' H')
def tMid (t : TS) : TS := fun D σ H => I_tMid t D σ H
theorem ps_mid {X : Cx} {st : Stmt} {t : TS} (h : PS X st t) : PS X st (tMid t) := by
  intro pins s σ H D I hq
  obtain ⟨C, hq, hc⟩ := hq
  refine thn (h pins s σ H _ I hq) fun f s' q => ?_
  cases f with
  | next => obtain ⟨σ', H', J, q⟩ := q; exact ⟨σ', H', J, hc σ' H' q⟩
  | brk => exact q
  | cont => exact q
  | ret u => exact q
theorem comp_list {K : PySem.W.Frag} {a : Addr} {xs : List V} {g : TG} {tt : TT} {te : TE} {σ0 : St} {H : Hp} {Fin : List V → Hp → Prop} (Pv : Nat → List V → St → Hp → Prop) (h0 : Pv 0 [] σ0 H) (hz : xs.length ≤ sizeLine)
    (hl : ∀ i acc σ H, i ≤ xs.length → Pv i acc σ H → SqL K H a xs ∧ acc.length ≤ i)
    (hs : ∀ i x acc σ H, xs[i]? = some x → Pv i acc σ H → g x σ H fun σ2 H2 => tt σ2 H2 fun b H3 => if b = true then te σ2 H3 fun y H4 => Pv (i + 1) (acc ++ [y]) σ2 H4 else Pv (i + 1) acc σ2 H3)
    (hd : ∀ acc σ H, Pv xs.length acc σ H → Fin acc H) : tTurns (Itl K a) g tt te σ0 H Fin := by
  refine ⟨fun i m acc σ H => m = xs.length - i ∧ i ≤ xs.length ∧ Pv i acc σ H, ⟨xs.length, by simp, Nat.zero_le _, h0⟩, ?_⟩
  rintro i m acc σ H ⟨rfl, hi, p⟩
  obtain ⟨q, hal⟩ := hl i acc σ H hi p
  by_cases hlt : i < xs.length
  · refine .inr ⟨⟨xs, xs[i], q, by simp [hlt]⟩, by omega, Pv (i + 1), fun acc' σ' H' p' => ⟨xs.length - (i + 1), by omega, rfl, hlt, p'⟩, fun x H' y => ?_⟩
    obtain ⟨e, y⟩ := y
    subst e
    exact hs i x acc σ _ (y xs q) p
  · have e : i = xs.length := by omega
    subst e
    exact .inl ⟨⟨xs, q, Nat.le_refl _⟩, by omega, hd acc σ H p⟩
theorem comp_range {lo : Int} {n : Nat} {g : TG} {tt : TT} {te : TE} {σ0 : St} {H : Hp} {Fin : List V → Hp → Prop} (Pv : Nat → List V → St → Hp → Prop) (h0 : Pv 0 [] σ0 H) (hz : n ≤ sizeLine)
    (hl : ∀ i acc σ H, i ≤ n → Pv i acc σ H → acc.length ≤ i)
    (hs : ∀ i acc σ H, i < n → Pv i acc σ H → g (.int (lo + i)) σ H fun σ2 H2 => tt σ2 H2 fun b H3 => if b = true then te σ2 H3 fun y H4 => Pv (i + 1) (acc ++ [y]) σ2 H4 else Pv (i + 1) acc σ2 H3)
    (hd : ∀ acc σ H, Pv n acc σ H → Fin acc H) : tTurns (Itr lo n) g tt te σ0 H Fin := by
  refine ⟨fun i m acc σ H => m = n - i ∧ i ≤ n ∧ Pv i acc σ H, ⟨n, by simp, Nat.zero_le _, h0⟩, ?_⟩
  rintro i m acc σ H ⟨rfl, hi, p⟩
  have hal := hl i acc σ H hi p
  by_cases hlt : i < n
  · refine .inr ⟨hlt, by omega, Pv (i + 1), fun acc' σ' H' p' => ⟨n - (i + 1), by omega, rfl, hlt, p'⟩, fun x H' y => ?_⟩
    obtain ⟨e, y⟩ := y
    subst e y
    exact hs i acc σ _ hlt p
  · have e : i = n := by omega
    subst e
    exact .inl ⟨Nat.le_refl _, by omega, hd acc σ H p⟩
theorem yes_eq (A B : St → Hp → Prop) : (fun σ2 H2 => tYes σ2 H2 fun b H3 => if b = true then A σ2 H3 else B σ2 H3) = A := funext fun σ2 => funext fun H2 => show (if true = true then A σ2 H2 else B σ2 H2) = A σ2 H2 from if_pos rfl
theorem comp_list1 {K : PySem.W.Frag} {a : Addr} {xs : List V} {g : TG} {te : TE} {σ0 : St} {H : Hp} {Fin : List V → Hp → Prop} (Pv : Nat → List V → St → Hp → Prop) (h0 : Pv 0 [] σ0 H) (hz : xs.length ≤ sizeLine)
    (hl : ∀ i acc σ H, i ≤ xs.length → Pv i acc σ H → SqL K H a xs ∧ acc.length ≤ i)
    (hs : ∀ i x acc σ H, xs[i]? = some x → Pv i acc σ H → g x σ H fun σ2 H2 => te σ2 H2 fun y H4 => Pv (i + 1) (acc ++ [y]) σ2 H4)
    (hd : ∀ acc σ H, Pv xs.length acc σ H → Fin acc H) : tTurns (Itl K a) g tYes te σ0 H Fin :=
  comp_list Pv h0 hz hl (fun i x acc σ H hx p => by rw [yes_eq]; exact hs i x acc σ H hx p) hd
theorem comp_range1 {lo : Int} {n : Nat} {g : TG} {te : TE} {σ0 : St} {H : Hp} {Fin : List V → Hp → Prop} (Pv : Nat → List V → St → Hp → Prop) (h0 : Pv 0 [] σ0 H) (hz : n ≤ sizeLine)
    (hl : ∀ i acc σ H, i ≤ n → Pv i acc σ H → acc.length ≤ i)
    (hs : ∀ i acc σ H, i < n → Pv i acc σ H → g (.int (lo + i)) σ H fun σ2 H2 => te σ2 H2 fun y H4 => Pv (i + 1) (acc ++ [y]) σ2 H4)
    (hd : ∀ acc σ H, Pv n acc σ H → Fin acc H) : tTurns (Itr lo n) g tYes te σ0 H Fin :=
  comp_range Pv h0 hz hl (fun i acc σ H hi p => by rw [yes_eq]; exact hs i acc σ H hi p) hd
end L2
set_option linter.all false
namespace Mth
section
variable {α : Type}
structure Mdl (α : Type) where
  lrn : Bool
  shares : List (α × Int)
  fin : Int
def sumS (ps : List (α × Int)) : Int := (ps.map (·.2)).sum
def total (M : Mdl α) : Int := sumS M.shares + M.fin
abbrev Span := Int × Int × Int
def narrow (a p : Span) : Span := (a.1 * p.2.2 + a.2.1 * p.1, a.2.1 * p.2.1, a.2.2 * p.2.2)
def endPlace (M : Mdl α) : Span := (total M - M.fin, M.fin, total M)
def grow (n o : Int) : Int := if n + 1 ≤ o then n + 1 else n
structure Good (M : Mdl α) : Prop where
  ne : M.shares ≠ []
  nd : (M.shares.map (·.1)).Nodup
  pos : ∀ p ∈ M.shares, 1 ≤ p.2
  le : ∀ p ∈ M.shares, p.2 ≤ total M - p.2
  fin : 1 ≤ M.fin
def cut (ps : List (α × Int)) (T : Int) : List (α × Int) := ps.map fun p => (p.1, min p.2 (T - p.2))
end
section
variable {α : Type} [DecidableEq α]
def placeIn : List (α × Int) → α → Int → Option (Int × Int)
  | [], _, _ => none
  | p :: r, s, f => if p.1 = s then some (f, p.2) else placeIn r s (f + p.2)
def place (M : Mdl α) (s : α) : Span := match placeIn M.shares s 0 with
  | some q => (q.1, q.2, total M)
  | none => (0, 0, 0)
def stepS (ps : List (α × Int)) (s : α) (T : Int) : List (α × Int) := ps.map fun p => (p.1, if p.1 = s then grow p.2 (T - p.2) else p.2)
def behind (M : Mdl α) (s : α) : Mdl α := if M.lrn then { M with shares := stepS M.shares s (total M) } else M
def walk : Mdl α → Span → List α → Span × Mdl α
  | M, a, [] => (a, M)
  | M, a, s :: r => walk (behind M s) (narrow a (place M s)) r
structure Fits (p : Span) (T : Int) : Prop where
  a0 : 0 ≤ p.1
  n1 : 1 ≤ p.2.1
  le : p.1 + p.2.1 ≤ T
  tot : p.2.2 = T
structure Span.Ok (a : Span) : Prop where
  l0 : 0 ≤ a.1
  w1 : 1 ≤ a.2.1
  le : a.1 + a.2.1 ≤ a.2.2
def rowsIn : List (α × Int) → Int → List (α × Int × Int)
  | [], _ => []
  | p :: r, f => (p.1, f, p.2) :: rowsIn r (f + p.2)
def rowsOf (dot : α) (M : Mdl α) : List (α × Int × Int) := rowsIn M.shares 0 ++ [(dot, sumS M.shares, M.fin)]
end
end Mth
set_option Elab.async false
set_option linter.all false
set_option maxRecDepth 100000
namespace My
open PySem L2 Mth
abbrev Md := Mdl Str
def kindS (b : Bool) : Str := if b then "learnt" else "known"
inductive PairAt (H : Hp) (v : V) (p : Str × Int) : Prop
  | mk (a : _) (q1 : v = .ref a) (q2 : H a = some (.tup [.str p.1, .int p.2]))
inductive PairsAt (H : Hp) (l : Addr) (ps : List (Str × Int)) : Prop
  | mk (vs : _) (q1 : H l = some (.lst vs)) (q2 : Paired (PairAt H) vs ps)
inductive RawAt (H : Hp) (v : V) (k : Str) (ps : List (Str × Int)) (f : Int) : Prop
  | mk (a : Addr) (l : Addr) (q1 : v = .ref a) (q2 : H a = some (.tup [.str k, .ref l, .int f])) (q3 : PairsAt H l ps)
abbrev ModelAt (H : Hp) (v : V) (M : Md) : Prop := RawAt H v (kindS M.lrn) M.shares M.fin
def spanV (a : Span) : List V := [.int a.1, .int a.2.1, .int a.2.2]
inductive SpanAt (K : PySem.W.Frag) (H : Hp) (v : V) (a : Span) : Prop
  | mk (p : _) (q1 : v = .ref p) (q2 : SqT K H p (spanV a))
theorem same_upd {H : Hp} {p : Addr} {o : HO} (h : H p = none) : Same H (upd H p o) := fun b u e => by rw [upd_ne (ne_of_none e h)]; exact e
theorem ifT {b : Bool} {A B : Prop} (hb : b = true) (h : A) : if b = true then A else B := by rw [if_pos hb]; exact h
theorem ifF {b : Bool} {A B : Prop} (hb : b = false) (h : B) : if b = true then A else B := by rw [if_neg (by rw [hb]; decide)]; exact h
theorem if2 {b : Bool} {A B : Prop} (h1 : b = true → A) (h2 : b = false → B) : if b = true then A else B := by
  cases b
  · exact ifF rfl (h2 rfl)
  · exact ifT rfl (h1 rfl)
structure Cal (P : Program) (w : World) (K : PySem.W.Frag) (mgm : Str → Option Value) (base : Heap) (k : Nat) (x : Str) (f : Addr) (fd : FuncData) (ps : List Str) (sp : Sp) : Prop where
  ok : FnOk P w K mgm base CX0 k f fd ps sp
  mg : mgm x = some (.ref f)
  kp : PySem.W.keepIn K (.ref f) = true
  b : Binds K fd ps []
structure TxtG (K : PySem.W.Frag) (mg : Str → Option Value) (aS aK : Addr) : Prop where
  g_START : mg "START" = some (.ref aS)
  g_KINDS : mg "KINDS" = some (.ref aK)
  sS : ∀ H, SqT K H aS [.int 0, .int 1, .int 1]
  sK : ∀ H, SqT K H aK [.str "known", .str "learnt"]
structure Txt (K : PySem.W.Frag) (mg : Str → Option Value) (aS aK : Addr) : Prop where
  len : mg "len" = none
  sum : mg "sum" = none
  min : mg "min" = none
  isinstance : mg "isinstance" = none
  range : mg "range" = none
  int_ : mg "int" = none
  list_ : mg "list" = none
  tuple_ : mg "tuple" = none
  str_ : mg "str" = none
  bool_ : mg "bool" = none
  reversed_ : mg "reversed" = none
  sorted_ : mg "sorted" = none
def sg (c : Nat) : Str := ⟨#[c]⟩
def IsSg (x : Str) : Prop := ∃ c, x = sg c ∧ 97 ≤ c ∧ c ≤ 122
def Keyed (M : Md) : Prop := ∀ p ∈ M.shares, IsSg p.1
inductive I_spSign  (vs : List V) (H : Hp) (Q : VK) (E : XK) : Prop
  | mk (x : _) (q1 : vs = [.str x]) (q2 : IsSg x) (q3 : Q (.bl true) H)
inductive I_spTotal  (vs : List V) (H : Hp) (Q : VK) (E : XK) : Prop
  | mk (v : _) (M : _) (q1 : vs = [v]) (q2 : ModelAt H v M) (q3 : M.shares.length ≤ 1000) (q4 : ∀ H', Same H H' → Q (.int (total M)) H')
inductive I_spSigns  (vs : List V) (H : Hp) (Q : VK) (E : XK) : Prop
  | mk (l : _) (ps : _) (q1 : vs = [.ref l]) (q2 : PairsAt H l ps) (q3 : ps.length ≤ 1000) (q4 : (∀ p ∈ ps, IsSg p.1)) (q5 : (ps.map (·.1)).Nodup) (q6 : ∀ H', Same H H' → Q .non H')
inductive I_spShares  (vs : List V) (H : Hp) (Q : VK) (E : XK) : Prop
  | mk (v : _) (M : _) (q1 : vs = [v]) (q2 : ModelAt H v M) (q3 : M.shares.length ≤ 1000) (q4 : Good M) (q5 : ∀ H', Same H H' → Q .non H')
inductive I_spCheck  (vs : List V) (H : Hp) (Q : VK) (E : XK) : Prop
  | mk (v : _) (M : _) (q1 : vs = [v]) (q2 : ModelAt H v M) (q3 : M.shares.length ≤ 1000) (q4 : Good M) (q5 : Keyed M) (q6 : ∀ H', Same H H' → Q .non H')
inductive I_spPlace (K : PySem.W.Frag) (vs : List V) (H : Hp) (Q : VK) (E : XK) : Prop
  | mk (v : _) (M : _) (s : _) (q1 : vs = [v, .str s]) (q2 : ModelAt H v M) (q3 : M.shares.length ≤ 1000) (q4 : s ∈ M.shares.map (·.1)) (q5 : ∀ u H', Same H H' → SpanAt K H' u (place M s) → Q u H')
inductive I_spEnd (K : PySem.W.Frag) (vs : List V) (H : Hp) (Q : VK) (E : XK) : Prop
  | mk (v : _) (M : _) (q1 : vs = [v]) (q2 : ModelAt H v M) (q3 : M.shares.length ≤ 1000) (q4 : ∀ u H', Same H H' → SpanAt K H' u (endPlace M) → Q u H')
inductive I_spGrown  (vs : List V) (H : Hp) (Q : VK) (E : XK) : Prop
  | mk (n : _) (o : _) (q1 : vs = [.int n, .int o]) (q2 : Q (.int (grow n o)) H)
inductive I_spBehind  (vs : List V) (H : Hp) (Q : VK) (E : XK) : Prop
  | mk (v : _) (M : _) (s : _) (q1 : vs = [v, .str s]) (q2 : ModelAt H v M) (q3 : M.shares.length ≤ 1000) (q4 : ∀ u H', Same H H' → ModelAt H' u (behind M s) → Q u H')
def Fit (n : Int) : Prop := Builtin.Int.intBits n ≤ 1000000
def FitS (a : Span) : Prop := Fit a.1 ∧ Fit a.2.1 ∧ Fit a.2.2
inductive I_spNarrow (K : PySem.W.Frag) (vs : List V) (H : Hp) (Q : VK) (E : XK) : Prop
  | mk (u : _) (v : _) (a : _) (p : _) (q1 : vs = [u, v]) (q2 : SpanAt K H u a) (q3 : SpanAt K H v p) (q4 : FitS a) (q5 : FitS p) (q6 : ∀ z H', Same H H' → SpanAt K H' z (narrow a p) → Q z H')
def sgs (x : Str) : List Str := x.cps.toList.map sg
structure Fine (M : Md) (x : Str) : Prop where
  good : Good M
  keyed : Keyed M
  few : M.shares.length ≤ 1000
  small : total M ≤ 2 ^ 79
  len : x.cps.size ≤ 1000
  inn : ∀ s ∈ sgs x, s ∈ M.shares.map (·.1)
inductive I_spWalked (K : PySem.W.Frag) (vs : List V) (H : Hp) (Q : VK) (E : XK) : Prop
  | mk (v : _) (M : _) (x : _) (q1 : vs = [v, .str x]) (q2 : ModelAt H v M) (q3 : Fine M x) (q4 : ∀ t u n H', Same H H' → H' t = some (.tup [u, n]) → SpanAt K H' u (walk M (0, 1, 1) (sgs x)).1 → ModelAt H' n (walk M (0, 1, 1) (sgs x)).2 → Q (.ref t) H')
inductive I_spBegun (K : PySem.W.Frag) (vs : List V) (H : Hp) (Q : VK) (E : XK) : Prop
  | mk (v : _) (M : _) (x : _) (q1 : vs = [v, .str x]) (q2 : ModelAt H v M) (q3 : Fine M x) (q4 : ∀ u H', Same H H' → SpanAt K H' u (walk M (0, 1, 1) (sgs x)).1 → Q u H')
def ended (M : Md) (x : Str) : Span := narrow (walk M (0, 1, 1) (sgs x)).1 (endPlace (walk M (0, 1, 1) (sgs x)).2)
inductive I_spEnded (K : PySem.W.Frag) (vs : List V) (H : Hp) (Q : VK) (E : XK) : Prop
  | mk (v : _) (M : _) (x : _) (q1 : vs = [v, .str x]) (q2 : ModelAt H v M) (q3 : Fine M x) (q4 : ∀ u H', Same H H' → SpanAt K H' u (ended M x) → Q u H')
theorem small_line {n : Nat} (h : n ≤ 1000000) : n ≤ sizeLine := by rw [PySem.sizeLine_eq]; omega
theorem take_map_snoc {α β γ : Type} {f : α → β} {g : β → γ} {l : List α} {i : Nat} {x : α} (h : l[i]? = some x) : ((l.take i).map f).map g ++ [g (f x)] = ((l.take (i + 1)).map f).map g := by
  rw [List.take_add_one, h, List.map_append, List.map_append]
  rfl
end My
set_option Elab.async false
set_option linter.all false
set_option maxRecDepth 100000
namespace My
open PySem L2 Mth
section
variable {K : PySem.W.Frag}
theorem kit_int_int : PySem.W.kitOne K (.type "int") (.type "int") = some true := by kernel_rfl
theorem kit_int_bool : PySem.W.kitOne K (.type "int") (.type "bool") = some false := by kernel_rfl
theorem kit_int_str : PySem.W.kitOne K (.type "int") (.type "str") = some false := by kernel_rfl
theorem kit_str_str : PySem.W.kitOne K (.type "str") (.type "str") = some true := by kernel_rfl
theorem kit_list_list : PySem.W.kitOne K (.type "list") (.type "list") = some true := by kernel_rfl
theorem kit_list_tuple : PySem.W.kitOne K (.type "list") (.type "tuple") = some false := by kernel_rfl
theorem kit_tuple_tuple : PySem.W.kitOne K (.type "tuple") (.type "tuple") = some true := by kernel_rfl
theorem kit_tuple_list : PySem.W.kitOne K (.type "tuple") (.type "list") = some false := by kernel_rfl
theorem kit_str_list : PySem.W.kitOne K (.type "str") (.type "list") = some false := by kernel_rfl
theorem kit_str_tuple : PySem.W.kitOne K (.type "str") (.type "tuple") = some false := by kernel_rfl
theorem kit_int_list : PySem.W.kitOne K (.type "int") (.type "list") = some false := by kernel_rfl
theorem kit_int_tuple : PySem.W.kitOne K (.type "int") (.type "tuple") = some false := by kernel_rfl
theorem kit_none_list : PySem.W.kitOne K (.type "NoneType") (.type "list") = some false := by kernel_rfl
theorem kit_none_tuple : PySem.W.kitOne K (.type "NoneType") (.type "tuple") = some false := by kernel_rfl
theorem kit_none_str : PySem.W.kitOne K (.type "NoneType") (.type "str") = some false := by kernel_rfl
def lt2 : List Value := [Value.type "list", Value.type "tuple"]
theorem kitA_list : PySem.W.kitAny K (.type "list") lt2 = some true := by
  show (match PySem.W.kitOne K (.type "list") (.type "list") with | some true => some true | some false => (match PySem.W.kitOne K (.type "list") (.type "tuple") with | some true => some true | some false => some false | none => none) | none => none) = _
  rw [kit_list_list]
theorem kitA_tuple : PySem.W.kitAny K (.type "tuple") lt2 = some true := by
  show (match PySem.W.kitOne K (.type "tuple") (.type "list") with | some true => some true | some false => (match PySem.W.kitOne K (.type "tuple") (.type "tuple") with | some true => some true | some false => some false | none => none) | none => none) = _
  rw [kit_tuple_list, kit_tuple_tuple]
theorem kitA_str : PySem.W.kitAny K (.type "str") lt2 = some false := by
  show (match PySem.W.kitOne K (.type "str") (.type "list") with | some true => some true | some false => (match PySem.W.kitOne K (.type "str") (.type "tuple") with | some true => some true | some false => some false | none => none) | none => none) = _
  rw [kit_str_list, kit_str_tuple]
theorem kitA_int : PySem.W.kitAny K (.type "int") lt2 = some false := by
  show (match PySem.W.kitOne K (.type "int") (.type "list") with | some true => some true | some false => (match PySem.W.kitOne K (.type "int") (.type "tuple") with | some true => some true | some false => some false | none => none) | none => none) = _
  rw [kit_int_list, kit_int_tuple]
theorem kitA_none : PySem.W.kitAny K (.type "NoneType") lt2 = some false := by
  show (match PySem.W.kitOne K (.type "NoneType") (.type "list") with | some true => some true | some false => (match PySem.W.kitOne K (.type "NoneType") (.type "tuple") with | some true => some true | some false => some false | none => none) | none => none) = _
  rw [kit_none_list, kit_none_tuple]
end
inductive Alikes (H : Hp) : List V → List V → Nat → Prop
  | nil : Alikes H [] [] 0
  | int {vs us : List V} {n : Nat} (i : Int) : Alikes H vs us n → Alikes H (.int i :: vs) (.int i :: us) (n + 1)
  | str {vs us : List V} {n : Nat} (x : Str) : Alikes H vs us n → Alikes H (.str x :: vs) (.str x :: us) (n + 1)
  | non {vs us : List V} {n : Nat} : Alikes H vs us n → Alikes H (.non :: vs) (.non :: us) (n + 1)
  | lst {a b : Addr} {xs ys vs us : List V} {m n : Nat} : H a = some (.lst xs) → H b = some (.lst ys) → Alikes H xs ys m → Alikes H vs us n → Alikes H (.ref a :: vs) (.ref b :: us) (n + (m + 1))
  | tup {a b : Addr} {xs ys vs us : List V} {m n : Nat} : H a = some (.tup xs) → H b = some (.tup ys) → Alikes H xs ys m → Alikes H vs us n → Alikes H (.ref a :: vs) (.ref b :: us) (n + (m + 1))
theorem Alikes.length {H : Hp} {vs us : List V} {n : Nat} (h : Alikes H vs us n) : vs.length = us.length := by
  induction h with
  | nil => rfl
  | int i _ ih => simp [ih]
  | str x _ ih => simp [ih]
  | non _ ih => simp [ih]
  | lst h1 h2 _ _ i1 i2 => simp [i2]
  | tup h1 h2 _ _ i1 i2 => simp [i2]
theorem Alikes.le {H : Hp} {vs us : List V} {n : Nat} (h : Alikes H vs us n) : vs.length ≤ n := by
  induction h with
  | nil => exact Nat.le_refl _
  | int i _ ih => simp only [List.length_cons]; omega
  | str x _ ih => simp only [List.length_cons]; omega
  | non _ ih => simp only [List.length_cons]; omega
  | lst h1 h2 _ _ i1 i2 => simp only [List.length_cons]; omega
  | tup h1 h2 _ _ i1 i2 => simp only [List.length_cons]; omega
theorem Alikes.append {H : Hp} {vs us : List V} {n : Nat} (h : Alikes H vs us n) {vs' us' : List V} {m : Nat} (h' : Alikes H vs' us' m) : Alikes H (vs ++ vs') (us ++ us') (m + n) := by
  induction h with
  | nil => exact h'
  | int i _ ih => exact .int i ih
  | str x _ ih => exact .str x ih
  | non _ ih => exact .non ih
  | lst h1 h2 a1 _ i1 i2 => rw [← Nat.add_assoc]; exact .lst h1 h2 a1 i2
  | tup h1 h2 a1 _ i1 i2 => rw [← Nat.add_assoc]; exact .tup h1 h2 a1 i2
theorem Alikes.last {H : Hp} {vs us : List V} {n : Nat} (h : Alikes H vs us n) : vs = [] ∨ ∃ vs' us' x y n' m, vs = vs' ++ [x] ∧ us = us' ++ [y] ∧ Alikes H vs' us' n' ∧ Alikes H [x] [y] m ∧ n = n' + m := by
  have glue : ∀ {x y : V} {vs us : List V} {n m : Nat}, Alikes H [x] [y] m → (vs = [] ∨ ∃ vs' us' x y n' m, vs = vs' ++ [x] ∧ us = us' ++ [y] ∧ Alikes H vs' us' n' ∧ Alikes H [x] [y] m ∧ n = n' + m) → Alikes H vs us n →
      ∃ vs' us' z w n' m', x :: vs = vs' ++ [z] ∧ y :: us = us' ++ [w] ∧ Alikes H vs' us' n' ∧ Alikes H [z] [w] m' ∧ n + m = n' + m' := by
    intro x y vs us n m hx ih ha
    rcases ih with rfl | ⟨vs', us', z, w, n', m', rfl, rfl, h1, h2, rfl⟩
    · cases ha
      exact ⟨[], [], x, y, 0, m, rfl, rfl, .nil, hx, rfl⟩
    · exact ⟨x :: vs', y :: us', z, w, n' + m, m', rfl, rfl, by have := hx.append h1; exact this, h2, by omega⟩
  induction h with
  | nil => exact .inl rfl
  | int i ha ih => exact .inr (glue (.int i .nil) ih ha)
  | str x ha ih => exact .inr (glue (.str x .nil) ih ha)
  | non ha ih => exact .inr (glue (.non .nil) ih ha)
  | lst h1 h2 a1 ha i1 ih =>
    have := glue (m := 0 + (_ + 1)) (.lst h1 h2 a1 .nil) ih ha
    rw [Nat.zero_add] at this
    exact .inr this
  | tup h1 h2 a1 ha i1 ih =>
    have := glue (m := 0 + (_ + 1)) (.tup h1 h2 a1 .nil) ih ha
    rw [Nat.zero_add] at this
    exact .inr this
inductive I_spInt  (vs : List V) (H : Hp) (Q : VK) (E : XK) : Prop
  | mk (i : _) (q1 : vs = [.int i]) (q2 : Q (.bl true) H)
inductive I_spAt (K : PySem.W.Frag) (vs : List V) (H : Hp) (Q : VK) (E : XK) : Prop
  | mk (l : Addr) (ns : List Int) (k : Int) (q1 : vs = [.ref l, .int k]) (q2 : SqL K H l (ns.map V.int)) (q3 : 0 ≤ k) (q4 : Q (.int (ns.getD k.toNat 0)) H)
def spAt (K : PySem.W.Frag) : Sp := fun vs H Q E => I_spAt K vs H Q E
def Cells (ns : List Int) : Prop := ∀ n ∈ ns, 0 ≤ n ∧ n < 1000003
inductive I_spMixed (K : PySem.W.Frag) (vs : List V) (H : Hp) (Q : VK) (E : XK) : Prop
  | mk (l : Addr) (ns : List Int) (q1 : vs = [.ref l]) (q2 : SqL K H l (ns.map V.int)) (q3 : ns.length ≤ 1000) (q4 : ∀ (p : Addr) (ms : List Int) (H' : Hp), Same H H' → H' p = some (.lst (ms.map V.int)) → ms.length = ns.length → Cells ms → Q (.ref p) H')
def spMixed (K : PySem.W.Frag) : Sp := fun vs H Q E => I_spMixed K vs H Q E
structure LawM (M : Md) : Prop where
  good : Good M
  keyed : Keyed M
  few : M.shares.length ≤ 25
  small : total M ≤ 2 ^ 70
  noc : ∀ p ∈ M.shares, p.1 ≠ sg 99
inductive I_spModelBy  (vs : List V) (H : Hp) (Q : VK) (E : XK) : Prop
  | mk (n : _) (q1 : vs = [.int n]) (q2 : 0 ≤ n) (q3 : n < 1000003) (q4 : ∀ v M H', Same H H' → ModelAt H' v M → LawM M → Q v H')
inductive I_spTextBy (K : PySem.W.Frag) (vs : List V) (H : Hp) (Q : VK) (E : XK) : Prop
  | mk (v : V) (M : Md) (l : Addr) (ns : List Int) (q1 : vs = [v, .ref l]) (q2 : ModelAt H v M) (q3 : LawM M) (q4 : SqL K H l (ns.map V.int)) (q5 : ns.length ≤ 1000) (q6 : ∀ x H', Same H H' → x.cps.size = ns.length → (∀ s ∈ sgs x, s ∈ M.shares.map (·.1)) → Q (.str x) H')
inductive I_spCopy  (vs : List V) (H : Hp) (Q : VK) (E : XK) : Prop
  | mk (v : _) (M : _) (q1 : vs = [v]) (q2 : ModelAt H v M) (q3 : M.shares.length ≤ 1000) (q4 : ∀ u H', Same H H' → ModelAt H' u M → Q u H')
inductive I_spIsSpan (K : PySem.W.Frag) (vs : List V) (H : Hp) (Q : VK) (E : XK) : Prop
  | mk (u : _) (v : _) (a : _) (q1 : vs = [u, v]) (q2 : SpanAt K H u a) (q3 : SpanAt K H v a) (q4 : Q (.bl true) H)
inductive I_spStays  (vs : List V) (H : Hp) (Q : VK) (E : XK) : Prop
  | mk (u : _) (v : _) (n : _) (q1 : vs = [u, v]) (q2 : Alikes H [u] [v] n) (q3 : n ≤ 100000) (q4 : ∀ H', Same H H' → Q (.bl true) H')
def spStays : Sp := fun vs H Q E => I_spStays  vs H Q E
inductive RowAt (H : Hp) (v : V) (r : Str × Int × Int) : Prop
  | mk (a : _) (q1 : v = .ref a) (q2 : H a = some (.tup [.str r.1, .int r.2.1, .int r.2.2]))
def dot : Str := Str.ofString "."
def after (M : Md) (l : List Str) : Md := (walk M (0, 1, 1) l).2
def rowsAll (M : Md) (l : List Str) : List (List (Str × Int × Int)) := (List.range l.length).map fun j => rowsOf dot (after M (l.take j))
structure FineL (M : Md) (x : Str) : Prop where
  m : LawM M
  len : x.cps.size ≤ 200
  inn : ∀ s ∈ sgs x, s ∈ M.shares.map (·.1)
inductive I_spRows  (vs : List V) (H : Hp) (Q : VK) (E : XK) : Prop
  | mk (v : _) (M : _) (x : _) (q1 : vs = [v, .str x]) (q2 : ModelAt H v M) (q3 : FineL M x) (q4 : ∀ p rs H', Same H H' → H' p = some (.lst rs) → Paired (RowAt H') rs (rowsAll M (sgs x ++ [dot])).flatten → Q (.ref p) H')
def rangeOf (M : Md) (x : Str) (b : Bool) : Span := if b then ended M x else (walk M (0, 1, 1) (sgs x)).1
inductive I_spRange (K : PySem.W.Frag) (vs : List V) (H : Hp) (Q : VK) (E : XK) : Prop
  | mk (v : _) (M : _) (x : _) (b : _) (q1 : vs = [v, .str x, .bl b]) (q2 : ModelAt H v M) (q3 : FineL M x) (q4 : ∀ u H', Same H H' → SpanAt K H' u (rangeOf M x b) → Q u H')
inductive I_spLaw (K : PySem.W.Frag) (vs : List V) (H : Hp) (Q : VK) (E : XK) : Prop
  | mk (a : Addr) (ns : List Int) (q1 : vs = [.ref a]) (q2 : SqL K H a (ns.map V.int)) (q3 : ns.length ≤ 63) (q4 : ∀ H', Q (.bl true) H')
def spLaw (K : PySem.W.Frag) : Sp := fun vs H Q E => I_spLaw K vs H Q E
def letters : Str := Str.ofString "abdefghijklmnopqrstuvwxyz"
def code (j : Nat) : Nat := letters.cps.toList.getD j 0
def lidx (n : Int) (k : Nat) : Nat := ((7 * (k : Int) + n / 97) % 25).toNat
def lsign (n : Int) (k : Nat) : Str := sg (code (lidx n k))
def lsigns (n : Int) (m : Nat) : List Str := (List.range m).map (lsign n)
end My
namespace My
open PySem L2 Mth
theorem cutV_map (ns : List Int) (lo hi : Option Int) : ∃ ms : List Int, cutV (ns.map V.int) lo hi = ms.map V.int ∧ ms.length ≤ ns.length ∧ ∀ n ∈ ms, n ∈ ns := by
  refine ⟨(ns.drop (HT.sIx (ns.map V.int).length 0 lo)).take (HT.sIx (ns.map V.int).length (ns.map V.int).length hi - HT.sIx (ns.map V.int).length 0 lo), ?_, ?_, ?_⟩
  · unfold cutV
    rw [← List.map_drop, ← List.map_take]
  · rw [List.length_take, List.length_drop]
    omega
  · intro n hn
    exact List.mem_of_mem_drop (List.mem_of_mem_take hn)
structure Shr (n : Int) (m : Nat) (sl : Addr) (H H' : Hp) (l : Addr) (ps : List (Str × Int)) (f : Int) : Prop where
  same : Same H H'
  at_ : PairsAt H' l ps
  keys : ps.map (·.1) = lsigns n m
  pos : ∀ p ∈ ps, 1 ≤ p.2 ∧ p.2 ≤ 10 ^ 19
  f1 : 1 ≤ f
  f2 : f ≤ 10 ^ 19 + 1
  sgn : H' sl = some (.lst ((lsigns n m).map V.str))
  ll : H l = none
  ne : sl ≠ l
end My
set_option Elab.async false
set_option linter.all false
set_option maxRecDepth 100000
namespace L2
open PySem PySem.Spec PyProof.Rows
def ItrS (lo st : Int) (n : Nat) : It := ⟨fun i _ => i < n, fun i H x H' => H' = H ∧ x = .int (lo + i * st), fun i _ => n ≤ i⟩
theorem turn_rangeS {P : Program} {w : World} {K : PySem.W.Frag} {tg : Expr} (it : Addr) (lo st : Int) (n : Nat) : Turn P w K tg (ItrS lo st n) [it] it (fun i h => IsRangeIter h it (lo + (i : Nat) * st) ((n : Int) - (i : Nat)) st) where
  mem := by simp
  obj := fun i h st b hb => by
    have e : b = it := by simpa using hb
    subst e
    exact ⟨_, st, fun v z => by
      have z' : Data.fields _ = Data.cell v := z
      cases z'⟩
  keep := fun i h h' st k => k it (by simp) _ st
  item := by
    intro X hP hw hK hc i pins s σ H E I hf st' hg
    subst hP hw hK
    obtain ⟨f0, f1, f2, f3, f4, f5⟩ := hf it (by simp)
    refine next_range_item i s _ _ hg st' fun v h' tk hv st' kk => ?_
    obtain ⟨t, rfl⟩ := hv
    have I1 : Inv X pins σ H { s with heap := h', toks := tk } := I.turned (fun b o hb e => kk b o (by simpa using hb) e) f0 f1 f3 f4 f5
    exact ⟨_, rfl, go_of (s := { s with heap := h', toks := tk }) (n := "range_iterator") st' rfl rfl (by decide) ⟨.int (lo + i * st), H, I1, ⟨t, rfl⟩, ⟨rfl, rfl⟩, st', fun b hb => (hf b hb).1⟩⟩
  done := by
    intro X hP hw hK hc i pins s σ H E I hf st' hg
    subst hP hw hK
    obtain ⟨f0, f1, f2, f3, f4, f5⟩ := hf it (by simp)
    exact next_range_end I.hdl st' (by have : n ≤ i := hg; omega) fun h' eb => ⟨rfl, I.turned (t' := s.toks) (fun b o hb e => eb b o hb e) f0 f1 f3 f4 f5⟩
  self := fun _ _ _ _ _ st h => wpAny_pyIter_rangeiter st h
section
variable {X : Cx} {tg : Expr}
inductive I_iRng3 (vs : List V) (H1 : Hp) (R : It → Hp → Prop) : Prop
  | mk (i j c : Int) (n : Nat) (q1 : vs = [.int i, .int j, .int c]) (q2 : (c ≠ 0 ∧ c.natAbs < 1073741824)) (q3 : Builtin.Range.small i j c = true) (q4 : Builtin.Range.rangeSize i j c = (n : Int)) (q5 : R (ItrS i c n) H1)
def iRng3 (ta : TA) : TI := fun σ H R => ta σ H fun vs H1 => I_iRng3 vs H1 R
theorem pi_range3 {a b c : Expr} {ta : TA} {p pos : Pos} (hg : Gl X "range") (hm : X.mg "range" = none) (ha : PA X [a, b, c] ta)
    (hs : starEach [a, b, c] X.env = (false, eval a X.env) :: starEach [b, c] X.env := by rfl) (hs2 : (backTo pos (starEach [b, c] X.env)).any (·.1) = false := by rfl) :
    PI X tg (.Call (.Name "range" p) [a, b, c] [] pos) (iRng3 ta) := by
  intro pins s σ H R I h
  refine Call_ (ld_blt I hg hm boot_range (PyProof.Rows.callWith_type1 (thn (ha pos pins s σ H _ I h) fun us s1 ⟨vs, H1, I1, r1, q1⟩ => ?_) hs hs2))
  obtain ⟨i, j, k, n, e, ⟨q1, q2⟩, q3, q4, q⟩ := q1
  subst e
  cases r1 with
  | cons r rr =>
    cases rr with
    | cons r' rr =>
      cases rr with
      | cons r'' rr =>
        cases rr
        obtain ⟨t, rfl⟩ := r
        obtain ⟨t', rfl⟩ := r'
        obtain ⟨t'', rfl⟩ := r''
        refine call_range_3 q1 ?_ (Or.inl (PyProof.noPylong_small q2))
        refine wpAny_pyIter_range (IsRange.new ..) q3 ?_
        have I2 : Inv X pins σ H1 { s1 with heap := s1.heap.push { cls := .type "range", data := .fields #[.int i t, .int j t', .int k t''] }, toks := s1.toks } := I1.kept fun b o e => Heap.get?_push_of_some _ e
        refine ⟨_, [_], _, _, H1, rfl, I2.kept (t' := s1.toks) fun b o e => Heap.get?_push_of_some _ e, turn_rangeS _ i k n, ?_, fun b hb => ?_, q⟩
        · have e1 : i + ((0 : Nat) : Int) * k = i := by simp
          have e2 : (n : Int) - ((0 : Nat) : Int) = Builtin.Range.rangeSize i j k := by rw [q4]; simp
          show IsRangeIter _ _ (i + ((0 : Nat) : Int) * k) ((n : Int) - ((0 : Nat) : Int)) k
          rw [e1, e2]
          exact Heap.get?_push_size _ rfl
        · have e := List.mem_singleton.mp hb
          subst e
          exact I2.fpOk (Nat.le_refl _) (I2.hok.fresh (Nat.le_refl _))
theorem comp_rangeS {lo st : Int} {n : Nat} {g : TG} {te : TE} {σ0 : St} {H : Hp} {Fin : List V → Hp → Prop} (Pv : Nat → List V → St → Hp → Prop) (h0 : Pv 0 [] σ0 H) (hz : n ≤ sizeLine)
    (hl : ∀ i acc σ H, i ≤ n → Pv i acc σ H → acc.length ≤ i)
    (hs : ∀ i acc σ H, i < n → Pv i acc σ H → g (.int (lo + i * st)) σ H fun σ2 H2 => te σ2 H2 fun y H4 => Pv (i + 1) (acc ++ [y]) σ2 H4)
    (hd : ∀ acc σ H, Pv n acc σ H → Fin acc H) : tTurns (ItrS lo st n) g tYes te σ0 H Fin := by
  refine ⟨fun i m acc σ H => m = n - i ∧ i ≤ n ∧ Pv i acc σ H, ⟨n, by simp, Nat.zero_le _, h0⟩, ?_⟩
  rintro i m acc σ H ⟨rfl, hi, p⟩
  have hal := hl i acc σ H hi p
  by_cases hlt : i < n
  · refine .inr ⟨hlt, by omega, Pv (i + 1), fun acc' σ' H' p' => ⟨n - (i + 1), by omega, rfl, hlt, p'⟩, fun x H' y => ?_⟩
    obtain ⟨e, y⟩ := y
    subst e y
    rw [yes_eq]
    exact hs i acc σ _ hlt p
  · have e : i = n := by omega
    subst e
    exact .inl ⟨Nat.le_refl _, by omega, hd acc σ H p⟩
end
end L2
set_option linter.all false
namespace Mth
theorem two_pos (L : Nat) : (0 : Int) < 2 ^ L := Int.pow_pos (by decide)
def num (S : Span) (L : Nat) : Int := (S.1 * 2 ^ L + S.2.2 - 1) / S.2.2
def inside (S : Span) (L : Nat) : Prop := (num S L + 1) * S.2.2 ≤ (S.1 + S.2.1) * 2 ^ L
instance (S : Span) (L : Nat) : Decidable (inside S L) := inferInstanceAs (Decidable (_ ≤ _))
structure Best (S : Span) (L : Nat) : Prop where
  ins : inside S L
  least : ∀ k, k < L → ¬ inside S k
structure Part (S : Span) : Prop where
  ok : Span.Ok S
  lt : S.2.1 < S.2.2
def bitsOf (n : Int) (L : Nat) : List Int := (List.range L).map fun i => n / 2 ^ (L - 1 - i) % 2
def valOf (bs : List Int) : Int := bs.foldl (fun a b => 2 * a + b) 0
theorem bitsOf_length (n : Int) (L : Nat) : (bitsOf n L).length = L := by simp [bitsOf]
end Mth
set_option Elab.async false
set_option linter.all false
set_option maxRecDepth 100000
namespace My
open PySem L2 Mth
structure Sm (S : Span) : Prop where
  ok : Span.Ok S
  w : S.2.2 ≤ 2 ^ 8200
theorem band_one {x : Int} (h : 0 ≤ x) : Builtin.bitAnd x 1 = x % 2 := by
  rw [PyProof.Rows.bitAnd_pp h (by decide)]
  show ((x.toNat &&& 1 : Nat) : Int) = x % 2
  rw [Nat.and_one_is_mod]
  omega
theorem down_small {L : Nat} (h : L ≤ 1000000) : Builtin.Range.small ((L : Int) - 1) (-1) (-1) = true ∧ Builtin.Range.rangeSize ((L : Int) - 1) (-1) (-1) = (L : Int) := by
  have e : Builtin.Range.rangeSize ((L : Int) - 1) (-1) (-1) = (L : Int) := by
    unfold Builtin.Range.rangeSize
    rw [if_neg (by decide)]
    by_cases h0 : (L : Int) - 1 > -1
    · rw [if_pos h0, show (-(-1) : Int) = 1 from rfl, Int.ediv_one]
      omega
    · rw [if_neg h0]
      omega
  refine ⟨?_, e⟩
  unfold Builtin.Range.small
  rw [e]
  simp only [Builtin.Range.rangeFitsLong]
  have e1 : ¬ ((-1 : Int) > 0) := by decide
  simp only [e1, if_false, Bool.and_eq_true, Bool.or_eq_true, decide_eq_true_eq]
  refine ⟨⟨⟨⟨?_, ?_⟩, ?_⟩, ?_⟩, .inr ?_⟩ <;> (first | decide | (constructor <;> omega) | omega)
inductive I_spLeast (K : PySem.W.Frag) (vs : List V) (H : Hp) (Q : VK) (E : XK) : Prop
  | mk (v : V) (S : Span) (L : Nat) (q1 : vs = [v, .int (L : Int)]) (q2 : SpanAt K H v S) (q3 : Sm S) (q4 : L ≤ 20000) (q5 : Q (.int (num S L)) H)
inductive I_spWithin (K : PySem.W.Frag) (vs : List V) (H : Hp) (Q : VK) (E : XK) : Prop
  | mk (v : V) (S : Span) (L : Nat) (q1 : vs = [v, .int (L : Int), .int (num S L)]) (q2 : SpanAt K H v S) (q3 : Sm S) (q4 : L ≤ 20000) (q5 : Q (.bl (decide (inside S L))) H)
inductive I_spFigures  (vs : List V) (H : Hp) (Q : VK) (E : XK) : Prop
  | mk (n : Int) (L : Nat) (q1 : vs = [.int n, .int (L : Int)]) (q2 : 0 ≤ n) (q3 : L ≤ 20000) (q4 : ∀ p H', Same H H' → H' p = some (.lst ((bitsOf n L).map V.int)) → Q (.ref p) H')
def spFigures : Sp := fun vs H Q E => I_spFigures  vs H Q E
inductive I_spShortest (K : PySem.W.Frag) (vs : List V) (H : Hp) (Q : VK) (E : XK) : Prop
  | mk (v : V) (S : Span) (q1 : vs = [v]) (q2 : SpanAt K H v S) (q3 : Sm S) (q4 : ∀ p H' L, Same H H' → Best S L → L ≤ 8201 → H' p = some (.lst ((bitsOf (num S L) L).map V.int)) → Q (.ref p) H')
structure FineP (M : Md) (x : Str) : Prop where
  f : Fine M x
  len : x.cps.size ≤ 100
def bitsFor (M : Md) (x : Str) (L : Nat) : List Int := bitsOf (num (ended M x) L) L
inductive I_spPressed (K : PySem.W.Frag) (vs : List V) (H : Hp) (Q : VK) (E : XK) : Prop
  | mk (v : _) (M : _) (x : _) (q1 : vs = [v, .str x]) (q2 : ModelAt H v M) (q3 : FineP M x) (q4 : ∀ p H' L, Same H H' → Best (ended M x) L → L ≤ 8201 → H' p = some (.lst ((bitsFor M x L).map V.int)) → Q (.ref p) H')
def Bits (bs : List Int) : Prop := ∀ b ∈ bs, b = 0 ∨ b = 1
inductive I_spNumberOf (K : PySem.W.Frag) (vs : List V) (H : Hp) (Q : VK) (E : XK) : Prop
  | mk (l : Addr) (bs : List Int) (q1 : vs = [.ref l]) (q2 : SqL K H l (bs.map V.int)) (q3 : Bits bs) (q4 : bs.length ≤ 20000) (q5 : Q (.int (valOf bs)) H)
inductive I_spPower  (vs : List V) (H : Hp) (Q : VK) (E : XK) : Prop
  | mk (L : Nat) (q1 : vs = [.int (L : Int)]) (q2 : L ≤ 20000) (q3 : Q (.int (2 ^ L)) H)
def insB (S : Span) (bs : List Int) : Bool := decide (0 ≤ valOf bs * S.2.2 - S.1 * 2 ^ bs.length) && decide (valOf bs * S.2.2 - S.1 * 2 ^ bs.length + S.2.2 ≤ S.2.1 * 2 ^ bs.length)
theorem andF {c : Bool} {A N R : Prop} (h1 : c = true → N → A) (hN : N) : if c = true then A else if false = true then R else N := by
  cases c
  · rw [if_neg (by decide), if_neg (by decide)]; exact hN
  · rw [if_pos rfl]; exact h1 rfl hN
inductive I_spInside (K : PySem.W.Frag) (vs : List V) (H : Hp) (Q : VK) (E : XK) : Prop
  | mk (l : Addr) (v : V) (S : Span) (bs : List Int) (q1 : vs = [.ref l, v]) (q2 : SqL K H l (bs.map V.int)) (q3 : Bits bs) (q4 : bs.length ≤ 20000) (q5 : SpanAt K H v S) (q6 : Sm S) (q7 : Q (.bl (insB S bs)) H)
inductive I_spAreBits  (vs : List V) (H : Hp) (Q : VK) (E : XK) : Prop
  | mk (l : Addr) (bs : List Int) (q1 : vs = [.ref l]) (q2 : H l = some (.lst (bs.map V.int))) (q3 : Bits bs) (q4 : ∀ H', Same H H' → Q (.bl true) H')
end My
set_option Elab.async false
set_option linter.all false
set_option maxRecDepth 100000
namespace L2
open PySem PySem.Spec PyProof.Rows
section
variable {X : Cx}
inductive I_rSlS  (x : V) (lo : Option Int) (hi : Option Int) (H : Hp) (Q : VK) : Prop
  | mk (z : _) (q1 : x = .str z) (q2 : z.length ≤ sizeLine) (q3 : Q (.str (Txt.slice z lo hi)) H)
section
variable {prog : Program} {w : World} {A : Around} {E : Value → Shared → Prop} {s : Shared} {I l : Addr} {items : Array Value}
end
end
end L2
set_option linter.all false
namespace Mth
variable {α : Type} [DecidableEq α]
def Sub (b a : Span) : Prop := a.1 * b.2.2 ≤ b.1 * a.2.2 ∧ (b.1 + b.2.1) * a.2.2 ≤ (a.1 + a.2.1) * b.2.2
def part (bs : List Int) : Span := (valOf bs, 1, 2 ^ bs.length)
end Mth
set_option Elab.async false
set_option linter.all false
set_option maxRecDepth 100000
namespace My
open PySem L2 Mth
inductive I_spPressedBy (K : PySem.W.Frag) (vs : List V) (H : Hp) (Q : VK) (E : XK) : Prop
  | mk (v : V) (S : Span) (q1 : vs = [v]) (q2 : SpanAt K H v S) (q3 : Sm S) (q4 : ∀ p H' L, Same H H' → Best S L → L ≤ 8201 → H' p = some (.lst ((bitsOf (num S L) L).map V.int)) → Q (.ref p) H')
end My
set_option Elab.async false
set_option linter.all false
set_option maxRecDepth 100000
namespace L2
open PySem PySem.Spec PyProof.Rows
theorem ObjOk.there {P : Program} {w : World} {H : Hp} {h : Heap} {a : Addr} {o : HO} (x : ObjOk P w H h a o) : ∃ ob, h.get? a = some ob := by
  cases o with
  | lst xs => obtain ⟨_, _, _, _, e⟩ := x; exact ⟨_, e⟩
  | tup xs => obtain ⟨_, _, _, ob, e, _⟩ := x; exact ⟨_, e⟩
  | dK kvs => obtain ⟨_, _, _, _, o, _, _, e, _⟩ := x; exact ⟨_, e⟩
  | dT kvs => obtain ⟨_, _, _, _, o, _, _, e, _⟩ := x; exact ⟨_, e⟩
  | set S n => obtain ⟨o, _, _, _, e, _⟩ := x; exact ⟨_, e⟩
  | ins C dx fs => obtain ⟨_, _, _, e, _⟩ := x; exact ⟨_, e⟩
  | own y => obtain ⟨_, e⟩ := x; exact ⟨_, e⟩
  | xd fs => obtain ⟨_, ⟨_, _, _, e, _⟩, _⟩ := x; exact ⟨_, e⟩
  | rng lo hi => obtain ⟨_, _, _, e⟩ := x; exact ⟨_, e⟩
  | frz ob u => obtain ⟨e, _⟩ := x; exact ⟨_, e⟩
  | tbl ps => exact ⟨_, show h.get? a = some _ from x⟩
  | met f y => exact ⟨_, show h.get? a = some _ from x⟩
  | ext φ => obtain ⟨_, ⟨_, e⟩, _⟩ := x; exact ⟨_, e⟩
theorem HOk.gone {P : Program} {w : World} {H : Hp} {h : Heap} {a : Addr} (x : HOk P w H h) (e : h.get? a = none) : H a = none := by
  cases q : H a with
  | none => rfl
  | some o =>
    obtain ⟨ob, z⟩ := (x a o q).there
    rw [e] at z
    cases z
def CXR (P : Program) (w : World) : CXT := fun A outer H s E e s' =>
  ∃ (ea : Addr) (cls a0 : Value) (H' : Hp) (B : Heap), e = .ref ea ∧ E cls none H' ∧ s'.os = s.os ∧ AllBare s'.gens ∧ Un (frs outer) [] H H' s.heap s'.heap ∧ HOk P w H' B ∧ FlyC B outer ea cls a0 (hv A) s'.heap ∧
    ∀ b o, s.heap.get? b = some o → b ∉ frs outer → ∃ o', B.get? b = some o'
section
variable {P : Program} {w : World} {K : PySem.W.Frag} {mg : Str → Option Value} {base : Heap} {N : List Str} {qual : Str} {scope : Scope} {f : Addr} {cd : Value} {A : Around} {outer : List Env} {s0 : Shared} {H0 : Hp} {E : XK}
abbrev cxR (P : Program) (w : World) (K : PySem.W.Frag) (mg : Str → Option Value) (base : Heap) (N : List Str) (qual : Str) (scope : Scope) (f : Addr) (cd : Value) (A : Around) (outer : List Env) (s0 : Shared) (H0 : Hp) (E : XK) : Cx :=
  cxOf (CXR P w) P w K mg base N qual scope f cd A outer s0 H0 E
theorem left_un {pins : List (Addr × Obj)} {σ : St} {H' : Hp} {s' : Shared} {h' B : Heap} (J : Inv (cxR P w K mg base N qual scope f cd A outer s0 H0 E) pins σ H' s')
    (cov : ∀ b o, s0.heap.get? b = some o → b ∉ frs outer → ∃ o', B.get? b = some o') (k1 : B.StaysIn s'.heap) (k2 : B.StaysIn h') (up : s'.heap.UpToSlots h') : Un (frs outer) [] H0 H' s0.heap h' := by
  have hb := J.base
  have same : ∀ b o, s0.heap.get? b = some o → b ∉ frs outer → ∃ o', s'.heap.get? b = some o' ∧ h'.get? b = some o' := fun b o e nf => by
    obtain ⟨o', q⟩ := cov b o e nf
    exact ⟨o', k1 _ _ q, k2 _ _ q⟩
  have fr : ∀ b o, b ∈ frs outer → s0.heap.get? b = some o → H0 b = none → ∃ sl, h'.get? b = some { o with slots := sl } := fun b o hf e n => by
    obtain ⟨sl, q⟩ := hb.slot b o e n hf (by intro z; cases z)
    obtain ⟨_, o2, e2, hd⟩ := J.ok.funs.mem hf
    have e2 : s0.heap.get? b = some o2 := e2
    rw [e] at e2
    cases e2
    obtain ⟨sl', q'⟩ := up b _ q hd
    exact ⟨sl', q'⟩
  refine ⟨fun b o e n nf hx => ?_, fun b o e n hf hx => fr b o hf e n, hb.free, fun b o e hx => ?_, hb.tups, hb.frzs, hb.tbls⟩
  · obtain ⟨o', q1, q2⟩ := same b o e nf
    have q3 := hb.keep b o e n nf hx
    rw [q1] at q3
    cases q3
    exact q2
  · by_cases hf : b ∈ frs outer
    · obtain ⟨sl, q⟩ := fr b o hf e (J.ok.frf b hf)
      exact ⟨_, q⟩
    · obtain ⟨o', _, q2⟩ := same b o e hf
      exact ⟨o', q2⟩
theorem stk_mem {b : Addr} {env : Env} (h : b ∈ frs (env :: outer)) : env.frame = some b ∨ b ∈ frs outer := by
  unfold frs at h ⊢
  rw [List.filterMap_cons] at h
  cases hf : env.frame with
  | none => rw [hf] at h; exact .inr h
  | some L =>
    rw [hf] at h
    rcases List.mem_cons.mp h with z | z
    · exact .inl (by rw [z])
    · exact .inr z
theorem cov_on {pins : List (Addr × Obj)} {σ : St} {H : Hp} {s : Shared} {B : Heap} (I : Inv (cxR P w K mg base N qual scope f cd A outer s0 H0 E) pins σ H s)
    (cov : ∀ b o, s.heap.get? b = some o → b ∉ frs (cxR P w K mg base N qual scope f cd A outer s0 H0 E).stack → ∃ o', B.get? b = some o') : ∀ b o, s0.heap.get? b = some o → b ∉ frs outer → ∃ o', B.get? b = some o' := by
  intro b o e nf
  obtain ⟨o1, e1⟩ := I.base.there b o e (by intro z; cases z)
  refine cov b o1 e1 fun z => ?_
  rcases stk_mem z with z | z
  · have z : some s0.heap.objs.size = some b := z
    cases z
    exact absurd (Heap.lt_size e) (Nat.lt_irrefl _)
  · exact nf z
theorem passR : Passes (CXR P w) (cxR P w K mg base N qual scope f cd A outer s0 H0 E) E := by
  intro pins σ H s e s' I h
  obtain ⟨ea, cls, a0, H', B, rfl, hE, hos, hbare, un, hokB, hfl, cov⟩ := h
  have J : Inv (cxR P w K mg base N qual scope f cd A outer s0 H0 E) pins σ H' s' := I.call' hos un (hokB.kept hfl.1) hbare (fun b z => nomatch z)
  have cov0 := cov_on I cov
  exact leave_next I.ok.frames rfl hfl fun h' hfl' up => ⟨ea, cls, a0, H', B, rfl, hE, J.os, J.bare, left_un J cov0 hfl.1 hfl'.1 up, hokB, hfl', cov0⟩
theorem raiseR {pins : List (Addr × Obj)} {σ : St} {H : Hp} {s : Shared} {h1 : Heap} {e : Addr} {cls : Value} {args : List Value} (I : Inv (cxR P w K mg base N qual scope f cd A outer s0 H0 E) pins σ H s) (hx : MadeC s.heap h1 e cls args (hv A)) (hE : E cls none H) :
    (cxR P w K mg base N qual scope f cd A outer s0 H0 E).xe (.ref e) { s with heap := h1 } := by
  have st := I.stack
  have stF := I.stkFree
  have nB : ∀ b o, s.heap.get? b = some o → b ∉ frs (cxR P w K mg base N qual scope f cd A outer s0 H0 E).stack → (PySem.W.hideAll s.heap (frs (cxR P w K mg base N qual scope f cd A outer s0 H0 E).stack)).get? b = some o := fun b o e n => PySem.W.hideAll_get _ e n
  have hokB : HOk P w H (PySem.W.hideAll s.heap (frs (cxR P w K mg base N qual scope f cd A outer s0 H0 E).stack)) := fun a o ea => (I.hok a o ea).stay (fun b u hb q => nB b u q fun z => by
    have := stF b z
    rcases hb with rfl | hb
    · rw [ea] at this; cases this
    · rw [hb] at this; cases this) (fun _ q => q) fun _ _ q => q
  have cov0 := cov_on (B := PySem.W.hideAll s.heap (frs (cxR P w K mg base N qual scope f cd A outer s0 H0 E).stack)) I (fun b o e n => ⟨o, nB b o e n⟩)
  have hl := PySem.W.funFrames_hide (as := frs (cxR P w K mg base N qual scope f cd A outer s0 H0 E).stack) st (fun env he a ha => List.mem_filterMap.mpr ⟨env, he, ha⟩)
  refine leave_made (s := { s with heap := h1 }) (h := s.heap) I.ok.frames rfl (fun b o q => PySem.W.of_hideAll _ q) hl hx fun h' t hfl up => ?_
  exact ⟨e, cls, .ref t, H, _, rfl, hE, I.os, I.bare, left_un I cov0 (fun b o q => PySem.W.of_hideAll _ q) hfl.1 (Heap.UpToSlots.trans (Heap.UpToSlots.of_keeps hx.keeps) up), hokB, hfl, cov0⟩
end
def Raises (X : Cx) (E : XK) : Prop := ∀ (pins : List (Addr × Obj)) (σ : St) (H : Hp) (s : Shared) (h1 : Heap) (e : Addr) (cls : Value) (args : List Value), Inv X pins σ H s → MadeC s.heap h1 e cls args (hv X.A) → E cls none H → X.xe (.ref e) { s with heap := h1 }
theorem raisesR {P : Program} {w : World} {K : PySem.W.Frag} {mg : Str → Option Value} {base : Heap} {N : List Str} {qual : Str} {scope : Scope} {f : Addr} {cd : Value} {A : Around} {outer : List Env} {s0 : Shared} {H0 : Hp} {E : XK} :
    Raises (cxR P w K mg base N qual scope f cd A outer s0 H0 E) E := fun _ _ _ _ _ _ _ _ I hx hE => raiseR I hx hE
theorem exc_of {K : PySem.W.Frag} {h : Heap} {C : Addr} {bmB : List Value} {newId : String} (X : K.In h) (q : PySem.W.excIn K C bmB newId = true) :
    ∃ (bm : List Value) (N : Addr) (nm qn : Str) (bs : List Value) (hdct : Bool) (sn : List Str) (sub : List Value) (ab : Bool) (col : Option Bool) (dd : Option Addr) (k0 k1 k2 k3 k5 : Option Value) (mN : Str → Option Value),
      h.get? C = some (excClassObj nm qn C N bs bm hdct sn sub ab col dd k0 k1 k2 k3 k5 newId) ∧ h.Ns N mN ∧ mN "__init__" = none ∧ OwnTail h bmB bm := by
  unfold PySem.W.excIn at q
  split at q
  case h_2 => cases q
  case h_1 dd cd sl ho =>
    split at q
    case h_2 => cases q
    case h_1 C' bm k0 k1 k2 k3 n k5 hm hs =>
      simp only [Bool.and_eq_true, beq_iff_eq, Bool.not_eq_true'] at q
      obtain ⟨⟨⟨⟨⟨e1, e2⟩, hdel⟩, ht⟩, hok⟩, hni⟩ := q
      subst e1 e2
      cases cd with
      | mk nm bs mro ns qn hd sn sub ab col del =>
        dsimp only at hm hdel hok hni
        subst hm hdel
        have hsl : sl = #[k0, k1, k2, k3, some (.builtin n), k5] := by
          cases sl with
          | mk l => exact congrArg Array.mk hs
        subst hsl
        exact ⟨bm, ns, nm, qn, bs, hd, sn, sub, ab, col, dd, k0, k1, k2, k3, k5, _, X _ _ ho, .of_isNs (PySem.W.isNs_of_in X hok), PySem.W.nsMap_none_of_in X hok hni, PySem.W.tail_of_in X ht⟩
section
variable {X : Cx}
def tRaise (C : Addr) (E : XK) (t : TA) : TS := fun _ σ H => t σ H fun vs H1 => vs.length ≤ sizeLine ∧ E (.ref C) none H1
theorem ps_raise {x : Str} {C : Addr} {np cpos pos : Pos} {e₀ : Expr} {rest : List Expr} {t : TA} {E : XK} {bmB : List Value} {B newId initId : String} (hE : Raises X E) (hg : Gl X x) (hm : X.mg x = some (.ref C)) (q : PySem.W.excIn X.K C bmB newId = true)
    (FB : ExcBaseFacts B newId initId bmB) (hc : X.calm = X.calm) (ha : PA X (e₀ :: rest) t) (hd : (x == ("__debug__" : Str)) = false := by decide)
    (he : starEach (e₀ :: rest) X.env = (false, eval e₀ X.env) :: starEach rest X.env := by rfl) (hpl : (backTo cpos (starEach rest X.env)).any (·.1) = false := by rfl) :
    PS X (.Raise (some (.Call (.Name x np) (e₀ :: rest) [] cpos)) none pos) (tRaise C E t) := by
  intro pins s σ H D I h
  obtain ⟨bm, N, nm, qn, bs, hdct, sn, sub, ab, col, dd, k0, k1, k2, k3, k5, mN, hC, hN, hni, TL⟩ := exc_of I.ok.mod.kin q
  have h2 := ha cpos pins s σ H _ I h
  refine raise_own (C := C) (nm := nm) (q := qn) (N := N) (bs := bs) (bm := bm) (hdct := hdct) (sn := sn) (sub := sub) (ab := ab) (col := col) (dd := dd) (k0 := k0) (k1 := k1) (k2 := k2) (k3 := k3) (k5 := k5)
    FB (mN := mN) (TL.hasType FB.hasBase) (by rw [he]; show (false || (backTo cpos (starEach rest X.env)).any (·.1)) = false; rw [hpl]; rfl) hni (ld_glob I hg hm ⟨rfl, ?_⟩ hd)
  rw [he] at h2 ⊢
  refine Calls.evalArgs_plain (wpAny_mono h2 (fun us s2 hs => ?_) fun _ _ y => y)
  obtain ⟨vs, H2, I2, r2, q2⟩ := hs
  exact ⟨rfl, by rw [← r2.length]; exact q2.1, I2.bk _ _ hC, hN.keeps I2.bk, TL.keeps I2.bk, I2.hdl, fun h' e hx => hE pins σ H2 s2 h' e _ _ I2 hx q2.2⟩
end
end L2
set_option Elab.async false
set_option linter.all false
set_option maxRecDepth 100000
namespace L2
open PySem PySem.Spec PyProof.Rows
section
variable {X : Cx}
end
structure CalR (P : Program) (w : World) (K : PySem.W.Frag) (mgm : Str → Option Value) (base : Heap) (k : Nat) (x : Str) (f : Addr) (fd : FuncData) (ps : List Str) (sp : Sp) : Prop where
  ok : FnOk P w K mgm base (CXR P w) k f fd ps sp
  mg : mgm x = some (.ref f)
  kp : PySem.W.keepIn K (.ref f) = true
  b : Binds K fd ps []
theorem Fun.okR {P : Program} {w : World} {K : PySem.W.Frag} {mg : Str → Option Value} {base : Heap} {x qual : Str} {st : Stmt} {f : Addr} {fd : FuncData} {N ps : List Str} {k : Nat} {sp : Sp} (F : Fun K x qual st f fd) (S : FnScope N ps (defScope st)) (len : ∀ vs H Q E, sp vs H Q E → vs.length = ps.length)
    (hbody : ∀ (cdv : Value) (A : Around) (outer : List Env) (s : Shared) (H : Hp) (vs : List V) (Q : VK) (E : XK), Room k (A.deeper (envOfC qual (defScope st) s.heap.objs.size f cdv)) → sp vs H Q E →
      ∃ t, PSs (cxR P w K mg base N qual (defScope st) f cdv A outer s H E) (defBody st) t ∧ t (Ends.fin Q) (start N vs) H) : FnOk P w K mg base (CXR P w) (k + 1) f fd ps sp := by
  obtain ⟨oc, od, kV, doc, pm, an, cdv, ct, osl, rfl, lk, hcd⟩ := F.ex
  exact fn_of lk hcd S len fun A outer s H vs Q E hr hsp => hbody cdv A outer s H vs Q E hr hsp
end L2
set_option Elab.async false
set_option linter.all false
set_option maxRecDepth 100000
namespace L2
open PySem PySem.Spec PyProof.Rows
def XPs (X : Cx) (pins : List (Addr × Obj)) (Ex : Value → St → Hp → Prop) (e : Value) (s' : Shared) : Prop := ∃ σ H s, Inv X pins σ H s ∧ CXR X.prog X.w X.A X.stack H s (fun c _ H' => Ex c σ H') e s'
abbrev TXE := St → Hp → VK → (Value → Hp → Prop) → Prop
abbrev TXS := Ends → (Value → St → Hp → Prop) → St → Hp → Prop
def PEx (X : Cx) (e : Expr) (t : TXE) : Prop := ∀ (pins : List (Addr × Obj)) (s : Shared) (σ : St) (H : Hp) (Q : VK) (Ex : Value → St → Hp → Prop), Inv X pins σ H s → t σ H Q (fun c H' => Ex c σ H') → wpAny (model X.prog X.w) X.A (eval e X.env) (EP X pins σ Q) (XPs X pins Ex) s
def PSx (X : Cx) (st : Stmt) (t : TXS) : Prop := ∀ (pins : List (Addr × Obj)) (s : Shared) (σ : St) (H : Hp) (D : Ends) (Ex : Value → St → Hp → Prop), Inv X pins σ H s → t D Ex σ H → wpAny (model X.prog X.w) X.A (exec st X.env) (SP X pins D) (XPs X pins Ex) s
def PSxs (X : Cx) (st : List Stmt) (t : TXS) : Prop := ∀ (pins : List (Addr × Obj)) (s : Shared) (σ : St) (H : Hp) (D : Ends) (Ex : Value → St → Hp → Prop), Inv X pins σ H s → t D Ex σ H → wpAny (model X.prog X.w) X.A (execs st X.env) (SP X pins D) (XPs X pins Ex) s
section
variable {X : Cx} {pos : Pos}
def tCallX (sp : Sp) (t : TA) : TXE := fun σ H Q Ex => t σ H fun vs H1 => sp vs H1 Q fun c _ H' => Ex c H'
theorem pex_call {k : Nat} {f : Addr} {fd : FuncData} {ps : List Str} {sp : Sp} {x : Str} {p : Pos} {e : Expr} {es : List Expr} {t : TA} (F : FnOk X.prog X.w X.K X.mg X.base (CXR X.prog X.w) k f fd ps sp) (hr : Room k X.A) (hg : Gl X x) (hm : X.mg x = some (.ref f)) (hk : PySem.W.keepIn X.K (.ref f) = true)
    (hb : Binds X.K fd ps []) (ha : PA X.nox (e :: es) t) (hdb : (x == ("__debug__" : Str)) = false := by decide) (he : starEach (e :: es) X.env = (false, eval e X.env) :: starEach es X.env := by rfl) (hpl : (backTo pos (starEach es X.env)).any (·.1) = false := by rfl) :
    PEx X (.Call (.Name x p) (e :: es) [] pos) (tCallX sp t) := by
  intro pins s σ H Q Ex I h
  refine wpAny_Call_Name_kw (ld_glob I hg hm ?_ hdb)
  refine PySem.W.callWith_K (h₀ := X.base) I.ok.mod.kin hk (wpAny_mono (ha pos pins s σ H _ (I.wish _) h) (fun us s1 hs => ?_) fun _ _ z => False.elim z) he hpl
  obtain ⟨vs, H1, I1, r, q⟩ := hs
  have I1 : Inv X pins σ H1 s1 := I1.unwish
  have hl : us.length = ps.length := by rw [← r.length]; exact F.len _ _ _ _ q
  have hbb := hb s1 us I1.kIn (by rw [List.append_nil]; exact hl)
  rw [List.append_nil] at hbb
  refine ⟨I1.kIn, wpAny_call (codeAny_mono (F.run X.A X.stack s1 H1 ⟨us, []⟩ us vs Q _ hr I1.env0 hbb r q) fun r s' hq => ?_)⟩
  cases r with
  | error e => exact ⟨σ, H1, s1, I1, hq⟩
  | ok fl =>
    cases fl with
    | ret u => exact I1.after hq
    | next => exact False.elim hq
    | brk => exact False.elim hq
    | cont => exact False.elim hq
theorem psx_expr {e : Expr} {te : TXE} (he : PEx X e te) (hs : swapsWith e none pos.line X.env = pure false := by rfl) : PSx X (.Expr e pos) (fun D Ex σ H => te σ H (fun _ H1 => D.nx σ H1) fun c H' => Ex c σ H') := by
  intro pins s σ H D Ex I h
  exact wpAny_Expr_any (thn (he pins s σ H _ Ex I h) fun v s1 ⟨x, H1, I1, r1, q1⟩ => ⟨σ, H1, I1, q1⟩) I.quiet hs
theorem psx_set {i : Nat} {x : Str} {e : Expr} {te : TXE} {pos' : Pos} (hN : X.N.Nodup) (hi : X.N[i]? = some x) (hx : Loc X.env.scope x) (he : PEx X e te) (hs : swapsWith e (some (.Name x pos')) pos.line X.env = pure false := by rfl) (hf : X.fn x = true ∨ X.env.scope.names.lookup x = some .local := by first | exact .inl rfl | exact .inr rfl | assumption) :
    PSx X (.Assign [.Name x pos'] e pos) (fun D Ex σ H => te σ H (fun v H1 => D.nx (σ.set i (some v)) H1) fun c H' => Ex c σ H') := by
  intro pins s σ H D Ex I h
  refine wpAny_Assign_Name (thn (he pins s σ H _ Ex I h) fun v s1 ⟨y, H1, I1, r1, q1⟩ => ?_) hs
  exact store_ok I1 hN hi hx r1 (fun s2 I2 => ⟨_, H1, I2, q1⟩) hf
theorem psxs_one {st : Stmt} {t : TXS} (h1 : PSx X st t) : PSxs X [st] t := by
  intro pins s σ H D Ex I h
  refine wpAny_execs_cons (thn (h1 pins s σ H D Ex I h) fun f s1 q => ?_)
  cases f with
  | next => exact wpAny_execs_nil q
  | ret v => exact q
  | brk => exact q
  | cont => exact q
end
section
variable {X : Cx} {pins : List (Addr × Obj)} {σ : St} {H H' : Hp} {s s' : Shared}
abbrev Cx.held (X : Cx) (e : Addr) (oe : Obj) : Cx := { X with A := X.A.mark (some (.ref e)), calm := false, xe := fun _ _ => False, pn := (e, oe) :: X.pn }
theorem Hq.held {e : Addr} {oe : Obj} {vs : Array Value} {K : Addr} (I : Inv X pins σ H s) (hn : ∀ a o, Fixed X a o → a ≠ e) (hc : oe.cls = .ref K) (hd : oe.data = .fields vs) (hx : vs[2]? = some (hv X.A)) : Hq (X.held e oe) := by
  have up : ∀ {a : Addr} {o : Obj}, Fixed X a o → Fixed (X.held e oe) a o := fun f => f.elim (fun z => .inl (List.mem_cons_of_mem _ z)) .inr
  unfold hv at hx
  rcases I.ok.hq with z | ⟨e0, C, z, nd, l⟩
  · rw [z] at hx
    refine .inr ⟨e, [], rfl, by simp, fun i a q => ?_⟩
    cases i with
    | zero => cases q; exact ⟨oe, K, vs, .inl List.mem_cons_self, hc, hd, hx⟩
    | succ n => cases q
  · rw [z] at hx
    refine .inr ⟨e, e0 :: C, rfl, List.nodup_cons.mpr ⟨fun m => ?_, nd⟩, fun i a q => ?_⟩
    · obtain ⟨i, q⟩ := List.getElem?_of_mem m
      obtain ⟨o, _, _, f, _⟩ := l i e q
      exact hn e o f rfl
    · cases i with
      | zero => cases q; exact ⟨oe, K, vs, .inl List.mem_cons_self, hc, hd, hx⟩
      | succ n =>
        obtain ⟨o, K', ws, f, r⟩ := l n a q
        exact ⟨o, K', ws, up f, r⟩
theorem Inv.held {e : Addr} {oe : Obj} (I : Inv X pins σ H s) (hq : Hq (X.held e oe)) (h1 : s.heap.get? e = some oe) (h2 : H e = none) (h3 : e ≠ X.env.locals) (h4 : e ∉ X.fs) (h5 : ∀ v, oe.data ≠ .cell v) : Inv (X.held e oe) pins σ H s :=
  ⟨⟨I.ok.mod, I.ok.kind, I.ok.glob, I.ok.blt, I.ok.above, I.ok.inj, I.ok.has, I.ok.cab, (fun z => nomatch z), hq, I.ok.frames, I.ok.stk, I.ok.exf, I.ok.bs, I.ok.bsz, I.ok.noex, I.ok.exfs, I.ok.funs, I.ok.frf⟩, I.os, I.bare, I.base, I.loc, I.cell, I.free, I.freeC,
    (fun p hp => by
      have hp : p ∈ (e, oe) :: (X.pn ++ pins) := hp
      rcases List.mem_cons.mp hp with z | z
      · subst z
        exact ⟨h1, h2, h3, h4, h5⟩
      · exact I.pin p z), I.hok, I.len⟩
theorem Inv.unheld {e : Addr} {oe : Obj} (ok : X.Ok) (I : Inv (X.held e oe) pins σ H s) : Inv X pins σ H s :=
  ⟨ok, I.os, I.bare, I.base, I.loc, I.cell, I.free, I.freeC, (fun p hp => I.pin p (List.mem_cons_of_mem _ hp)), I.hok, I.len⟩
theorem SP.unheld {e : Addr} {oe : Obj} {D : Ends} {f : Flow} (ok : X.Ok) (h : SP (X.held e oe) pins D f s') : SP X pins D f s' := by
  cases f with
  | next => obtain ⟨σ', H', I, q⟩ := h; exact ⟨σ', H', I.unheld ok, q⟩
  | brk => obtain ⟨σ', H', I, q⟩ := h; exact ⟨σ', H', I.unheld ok, q⟩
  | cont => obtain ⟨σ', H', I, q⟩ := h; exact ⟨σ', H', I.unheld ok, q⟩
  | ret u => obtain ⟨v, σ', H', I, r, q⟩ := h; exact ⟨v, σ', H', I.unheld ok, r, q⟩
theorem Un.flies {base h h1 h2 B : Heap} {l : List Env} (u : Un (frs l) [] H H' h h1) (fr : h.FunFrames base l) (hf : ∀ b ∈ frs l, H b = none) (cov : ∀ b o, h.get? b = some o → b ∉ frs l → ∃ o', B.get? b = some o') (k1 : B.StaysIn h1) (k2 : B.StaysIn h2)
    (up : h1.UpToSlots h2) : Un (frs l) [] H H' h h2 := by
  have f2 : ∀ b o, b ∈ frs l → h.get? b = some o → ∃ sl, h2.get? b = some { o with slots := sl } := fun b o hb e => by
    obtain ⟨sl, q⟩ := u.slot b o e (hf b hb) hb (by simp)
    obtain ⟨_, o2, e2, hd⟩ := fr.mem hb
    rw [e] at e2
    cases e2
    obtain ⟨sl', q'⟩ := up b _ q hd
    exact ⟨sl', q'⟩
  refine ⟨fun b o e n nf hx => ?_, fun b o e n hb hx => f2 b o hb e, u.free, fun b o e hx => ?_, u.tups, u.frzs, u.tbls⟩
  · obtain ⟨o', q⟩ := cov b o e nf
    have q3 := u.keep b o e n nf hx
    rw [k1 _ _ q] at q3
    cases q3
    exact k2 _ _ q
  · by_cases hb : b ∈ frs l
    · obtain ⟨sl, q⟩ := f2 b o hb e
      exact ⟨_, q⟩
    · obtain ⟨o', q⟩ := cov b o e hb
      exact ⟨o', k2 _ _ q⟩
def Fly (X : Cx) (pins : List (Addr × Obj)) (σ : St) (H' : Hp) (ea : Addr) (cls : Value) (s' : Shared) : Prop :=
  ∃ H s a0 B, Inv X pins σ H s ∧ s'.os = s.os ∧ AllBare s'.gens ∧ Un (frs X.stack) [] H H' s.heap s'.heap ∧ HOk X.prog X.w H' B ∧ FlyC B X.stack ea cls a0 (hv X.A) s'.heap ∧ ∀ b o, s.heap.get? b = some o → b ∉ frs X.stack → ∃ o', B.get? b = some o'
theorem Fly.inv {ea : Addr} {cls : Value} (F : Fly X pins σ H' ea cls s') : Inv X pins σ H' s' := by
  obtain ⟨H, s, a0, B, I, hos, hb, un, hok, hfl, _⟩ := F
  exact I.call' hos un (hok.kept hfl.1) hb (fun b z => nomatch z)
theorem Fly.holds {ea Ce : Addr} (F : Fly X pins σ H' ea (.ref Ce) s') : ∃ oe, s'.heap.get? ea = some oe ∧ oe.cls = .ref Ce ∧ Inv (X.held ea oe) pins σ H' s' := by
  have I3 := F.inv
  obtain ⟨H, s, a0, B, I, hos, hb, un, hok, hfl, cov⟩ := id F
  obtain ⟨oe, vs, g1, g2, g3, g4⟩ := hfl.obj
  have nE : ∀ b o, s.heap.get? b = some o → b ∉ frs X.stack → b ≠ ea := fun b o e nf z => by
    obtain ⟨o', q⟩ := cov b o e nf
    rw [z, hfl.2.1] at q
    cases q
  have hne : ea ≠ X.env.locals := fun z => by
    obtain ⟨m, ⟨o, es, ep, e1, e2, _⟩, _⟩ := I3.loc
    rw [← z, g1] at e1
    cases e1
    rw [g3] at e2
    cases e2
  have hnf : ea ∉ X.fs := fun z => by
    obtain ⟨_, o, e1, e2⟩ := I3.funs.mem z
    rw [g1] at e1
    cases e1
    exact e2 _ g3
  refine ⟨oe, g1, g2, I3.held (Hq.held I (fun a o f => ?_) g2 g3 g4) g1 (hok.gone hfl.2.1) hne hnf (fun v z => by rw [g3] at z; cases z)⟩
  obtain ⟨q1, _, _, _, q5⟩ := I.fixed f
  exact nE a o q1 q5
def Exc (K : PySem.W.Frag) (C : Addr) (tl : List Value) : Prop := ∃ (nm q : Str) (N : Addr) (bs : List Value) (hdct : Bool) (sn : List Str) (sub : List Value) (ab : Bool) (col : Option Bool) (dd : Option Addr) (k0 k1 k2 k3 k5 : Option Value) (newId : String),
  K.lookup C = some (excClassObj nm q C N bs tl hdct sn sub ab col dd k0 k1 k2 k3 k5 newId)
theorem excMatches_own {M : Model} {A : Around} {E : Value → Shared → Prop} {s : Shared} {K : PySem.W.Frag} {e Ce Ch : Addr} {oe : Obj} {te th : List Value} {Q : Bool → Shared → Prop} (X : K.In s.heap) (xe : Exc K Ce te) (xh : Exc K Ch th) (he : s.heap.get? e = some oe) (hcls : oe.cls = .ref Ce)
    (hbase : th.contains (.type "BaseException") = true) (hq : Q ((Value.ref Ce :: te).contains (.ref Ch)) s) : wpAny M A (excMatches (.ref e) (.ref Ch)) Q E s := by
  obtain ⟨nm, q, N, bs, hdct, sn, sub, ab, col, dd, k0, k1, k2, k3, k5, newId, le⟩ := xe
  obtain ⟨nm', q', N', bs', hdct', sn', sub', ab', col', dd', k0', k1', k2', k3', k5', newId', lh⟩ := xh
  have hE := X _ _ le
  have hC := X _ _ lh
  obtain ⟨h, g, d, t, os⟩ := s
  have hcB : (Value.ref Ch :: th).contains (.type "BaseException") = true := by rw [List.contains_cons, hbase, Bool.or_true]
  have f := tc_notTuple
  unfold excMatches
  repeat (first | (with_reducible refine wpAny_loadPart_at he ?_; rw [hcls]) | with_reducible refine wpAny_loadPart_at hC ?_ | (with_reducible refine wpAny_isSubtype_exc hC ?_; rw [hcB]) | with_reducible refine wpAny_isSubtype_exc hE ?_ | wp_step)
  cases hb : (Value.ref Ce :: te).contains (Value.ref Ch) <;> (rw [hb] at hq; wp_walk; exact hq)
def PH (X : Cx) (hs : List ExceptHandler) (t : Value → TS) : Prop := ∀ (pins : List (Addr × Obj)) (σ : St) (H' : Hp) (ea : Addr) (cls : Value) (s3 : Shared) (D : Ends), Fly X pins σ H' ea cls s3 → t cls D σ H' →
  wpAny (model X.prog X.w) X.A (handleBy (.ref ea) X.env hs) (SP X pins D) X.xe s3
def tHNil : Value → TS := fun _ _ _ _ => False
theorem ph_nil : PH X [] tHNil := fun _ _ _ _ _ _ _ _ h => False.elim h
def tHCons (K : PySem.W.Frag) (Ch : Addr) (t : TS) (r : Value → TS) : Value → TS := fun cls D σ H => ∃ Ce tl, cls = .ref Ce ∧ Exc K Ce tl ∧ if (Value.ref Ce :: tl).contains (.ref Ch) = true then t D σ H else r cls D σ H
theorem ph_cons {x : Str} {Ch : Addr} {np pos : Pos} {b₀ : Stmt} {suite : List Stmt} {rest : List ExceptHandler} {t : TS} {r : Value → TS} {th : List Value} (hg : Gl X x) (hm : X.mg x = some (.ref Ch)) (xh : Exc X.K Ch th) (hbase : th.contains (.type "BaseException") = true)
    (hsu : ∀ e oe, PSs (X.held e oe) (b₀ :: suite) t) (hr : PH X rest r) (hd : (x == ("__debug__" : Str)) = false := by decide) :
    PH X (.ExceptHandler (some (.Name x np)) none (b₀ :: suite) pos :: rest) (tHCons X.K Ch t r) := by
  intro pins σ H' ea cls s3 D Fl h
  obtain ⟨Ce, tl, rfl, xe, h⟩ := h
  have I3 := Fl.inv
  obtain ⟨oe3, hoe, hoc, I3h⟩ := Fl.holds
  refine wpAny_handleBy_cons (codeAny_handlers_test (ld_glob (X := X.held ea oe3) I3h hg hm ?_ hd)) (by intro q; cases q)
  obtain ⟨H, s, a0, B, I, hos, hb, un, hok, hfl, cov⟩ := id Fl
  refine excMatches_own I3.kIn xe xh hoe hoc hbase ?_
  cases hc : (Value.ref Ce :: tl).contains (.ref Ch) with
  | false =>
    rw [hc] at h
    exact hr pins σ H' ea _ s3 D Fl (by simpa using h)
  | true =>
    rw [hc, if_pos rfl] at h
    refine codeAny_handlers_suite ?_
    refine flight0 hfl fun h6 hfl6 up6 => ?_
    have un6 := un.flies I.stack I.stkFree cov hfl.1 hfl6.1 up6
    have Fl6 : Fly X pins σ H' ea (.ref Ce) { s3 with heap := h6 } := ⟨H, s, a0, B, I, hos, hb, un6, hok, hfl6, cov⟩
    obtain ⟨oe6, _, _, I6h⟩ := Fl6.holds
    exact wpAny_mono (hsu ea oe6 pins _ σ H' D I6h h) (fun f s2 hs => SP.unheld I.ok hs) fun _ _ z => False.elim z
def tTry (tb : TXS) (th : Value → TS) : TS := fun D σ H => tb D (fun c σ' H' => th c D σ' H') σ H
theorem ps_try {body : List Stmt} {h₀ : ExceptHandler} {hs : List ExceptHandler} {pos : Pos} {tb : TXS} {th : Value → TS} {L : Addr} (hstk : X.stack = X.env :: X.outer) (hf : X.env.frame = some L) (hb : PSxs X body tb) (hh : PH X (h₀ :: hs) th) :
    PS X (.Try body (h₀ :: hs) [] [] pos) (tTry tb th) := by
  intro pins s σ H D I h
  refine wpAny_Try_except (wpAny_mono (hb pins s σ H D _ I h) (fun f s1 q => ?_) (fun e s1 q => ?_))
  · cases f with
    | next => exact wpAny_execs_nil q
    | ret v => exact q
    | brk => exact q
    | cont => exact q
  · obtain ⟨σ', H1, s2, I2, ea, cls, a0, H', B, rfl, hE, hos, hba, un, hok, hfl, cov⟩ := q
    have hfr := I2.ok.frames
    rw [hstk] at hfr
    have hfl0 := hfl
    rw [hstk] at hfl0
    refine note_next hfr hf hfl0 fun h4 hheld up4 => ?_
    refine flight0 (s := { s1 with heap := h4 }) hheld fun h5 hfl5 up5 => ?_
    have hfl5' : FlyC B X.stack ea cls a0 (hv X.A) h5 := by rw [hstk]; exact hfl5
    exact hh pins σ' H' ea cls _ D ⟨H1, s2, a0, B, I2, hos, hba, un.flies I2.stack I2.stkFree cov hfl.1 hfl5'.1 (up4.trans up5), hok, hfl5', cov⟩ hE
end
end L2
set_option Elab.async false
set_option linter.all false
set_option maxRecDepth 100000
namespace My
open PySem L2 Mth
abbrev VE : List Value := [.type "ValueError", .type "Exception", .type "BaseException", .type "object"]
structure Cls where
  PE : Addr
  BM : Addr
  NS : Addr
  NB : Addr
  NX : Addr
  NL : Addr
structure ExcT (K : PySem.W.Frag) (mg : Str → Option Value) (x : Str) (C : Addr) (tl : List Value) : Prop where
  g : mg x = some (.ref C)
  x : PySem.W.excIn K C VE "ValueError.__new__" = true
  e : Exc K C tl
def Sane (x : Str) : Prop := x.cps.size ≤ 1000 ∧ ∀ c ∈ x.cps.toList, c < 16 ^ 8
def isSg (x : Str) : Bool := match x.cps.toList with
  | [c] => decide (97 ≤ c) && decide (c ≤ 122)
  | _ => false
def SignsOk (ps : List (Str × Int)) : Prop := (∀ p ∈ ps, IsSg p.1) ∧ (ps.map (·.1)).Nodup
def SharesOk (ps : List (Str × Int)) (f : Int) : Prop := 1 ≤ f ∧ (∀ p ∈ ps, 1 ≤ p.2) ∧ ∀ p ∈ ps, p.2 ≤ sumS ps + f - p.2
def KindOk (k : Str) : Prop := ∃ b : Bool, k = kindS b
structure IsModel (k : Str) (ps : List (Str × Int)) (f : Int) : Prop where
  kind : KindOk k
  ne : ps ≠ []
  signs : SignsOk ps
  shares : SharesOk ps f
def Names (ps : List (Str × Int)) : Prop := ps.length ≤ 1000 ∧ ∀ p ∈ ps, Sane p.1
inductive I_spSignG  (vs : List V) (H : Hp) (Q : VK) (E : XK) : Prop
  | mk (x : _) (q1 : vs = [.str x]) (q2 : x.cps.size ≤ 1000) (q3 : Q (.bl (isSg x)) H)
inductive I_spSignsR (cBM : Addr) (vs : List V) (H : Hp) (Q : VK) (E : XK) : Prop
  | mk (l : _) (ps : _) (q1 : vs = [.ref l]) (q2 : PairsAt H l ps) (q3 : Names ps) (q4 : (SignsOk ps → ∀ H', Same H H' → Q .non H')) (q5 : (¬ SignsOk ps → ∀ H', Same H H' → E (.ref cBM) none H'))
inductive I_spSharesR (cBM : Addr) (vs : List V) (H : Hp) (Q : VK) (E : XK) : Prop
  | mk (v : _) (M : _) (q1 : vs = [v]) (q2 : ModelAt H v M) (q3 : Names M.shares) (q4 : (SharesOk M.shares M.fin → ∀ H', Same H H' → Q .non H')) (q5 : (¬ SharesOk M.shares M.fin → ∀ H', Same H H' → E (.ref cBM) none H'))
inductive I_spCheckR (cBM : Addr) (vs : List V) (H : Hp) (Q : VK) (E : XK) : Prop
  | mk (v : _) (k : _) (ps : _) (f : _) (q1 : vs = [v]) (q2 : RawAt H v k ps f) (q3 : Names ps) (q4 : Sane k) (q5 : (IsModel k ps f → ∀ H', Same H H' → Q .non H')) (q6 : (¬ IsModel k ps f → ∀ H', Same H H' → E (.ref cBM) none H'))
inductive I_spPlaceR (K : PySem.W.Frag) (cNS : Addr) (vs : List V) (H : Hp) (Q : VK) (E : XK) : Prop
  | mk (v : _) (M : _) (x : _) (q1 : vs = [v, .str x]) (q2 : ModelAt H v M) (q3 : M.shares.length ≤ 1000) (q4 : Sane x) (q5 : (x ∈ M.shares.map (·.1) → ∀ u H', Same H H' → SpanAt K H' u (place M x) → Q u H')) (q6 : (x ∉ M.shares.map (·.1) → ∀ H', Same H H' → E (.ref cNS) none H'))
structure FineW (M : Md) (x : Str) : Prop where
  good : Good M
  keyed : Keyed M
  few : M.shares.length ≤ 1000
  small : total M ≤ 2 ^ 79
  len : x.cps.size ≤ 1000
structure Given (H : Hp) (v : V) (k : Str) (ps : List (Str × Int)) (f : Int) (x : Str) : Prop where
  raw : RawAt H v k ps f
  names : Names ps
  kind : Sane k
  text : Sane x
  small : IsModel k ps f → sumS ps + f ≤ 2 ^ 79
def AllIn (ps : List (Str × Int)) (x : Str) : Prop := ∀ s ∈ sgs x, s ∈ ps.map (·.1)
inductive I_spWalkedR (K : PySem.W.Frag) (cBM cNS : Addr) (vs : List V) (H : Hp) (Q : VK) (E : XK) : Prop
  | mk (v : _) (k : _) (ps : _) (f : _) (x : _) (q1 : vs = [v, .str x]) (q2 : Given H v k ps f x) (q3 : (∀ b, k = kindS b → IsModel k ps f → AllIn ps x → ∀ t u n H', Same H H' → H' t = some (.tup [u, n]) → SpanAt K H' u (walk (⟨b, ps, f⟩ : Md) (0, 1, 1) (sgs x)).1 → ModelAt H' n (walk (⟨b, ps, f⟩ : Md) (0, 1, 1) (sgs x)).2 → Q (.ref t) H')) (q4 : (IsModel k ps f → ¬ AllIn ps x → ∀ H', Same H H' → E (.ref cNS) none H')) (q5 : (¬ IsModel k ps f → ∀ H', Same H H' → E (.ref cBM) none H'))
inductive I_spBegunR (K : PySem.W.Frag) (cBM cNS : Addr) (vs : List V) (H : Hp) (Q : VK) (E : XK) : Prop
  | mk (v : _) (k : _) (ps : _) (f : _) (x : _) (q1 : vs = [v, .str x]) (q2 : Given H v k ps f x) (q3 : (∀ b, k = kindS b → IsModel k ps f → AllIn ps x → ∀ u H', Same H H' → SpanAt K H' u (walk (⟨b, ps, f⟩ : Md) (0, 1, 1) (sgs x)).1 → Q u H')) (q4 : (IsModel k ps f → ¬ AllIn ps x → ∀ H', Same H H' → E (.ref cNS) none H')) (q5 : (¬ IsModel k ps f → ∀ H', Same H H' → E (.ref cBM) none H'))
inductive I_spEndedR (K : PySem.W.Frag) (cBM cNS : Addr) (vs : List V) (H : Hp) (Q : VK) (E : XK) : Prop
  | mk (v : _) (k : _) (ps : _) (f : _) (x : _) (q1 : vs = [v, .str x]) (q2 : Given H v k ps f x) (q3 : (∀ b, k = kindS b → IsModel k ps f → AllIn ps x → ∀ u H', Same H H' → SpanAt K H' u (ended (⟨b, ps, f⟩ : Md) x) → Q u H')) (q4 : (IsModel k ps f → ¬ AllIn ps x → ∀ H', Same H H' → E (.ref cNS) none H')) (q5 : (¬ IsModel k ps f → ∀ H', Same H H' → E (.ref cBM) none H'))
end My
set_option Elab.async false
set_option linter.all false
set_option maxRecDepth 100000
namespace My
open PySem L2 Mth
structure GivenP (H : Hp) (v : V) (k : Str) (ps : List (Str × Int)) (f : Int) (x : Str) : Prop extends Given H v k ps f x where
  hundred : x.cps.size ≤ 100
inductive I_spPressedR (K : PySem.W.Frag) (cBM cNS : Addr) (vs : List V) (H : Hp) (Q : VK) (E : XK) : Prop
  | mk (v : _) (k : _) (ps : _) (f : _) (x : _) (q1 : vs = [v, .str x]) (q2 : GivenP H v k ps f x) (q3 : (∀ b, k = kindS b → IsModel k ps f → AllIn ps x → ∀ p H' L, Same H H' → Best (ended (⟨b, ps, f⟩ : Md) x) L → L ≤ 8201 → H' p = some (.lst ((bitsFor (⟨b, ps, f⟩ : Md) x L).map V.int)) → Q (.ref p) H')) (q4 : (IsModel k ps f → ¬ AllIn ps x → ∀ H', Same H H' → E (.ref cNS) none H')) (q5 : (¬ IsModel k ps f → ∀ H', Same H H' → E (.ref cBM) none H'))
inductive I_spSaid (cl : Cls) (vs : List V) (H : Hp) (Q : VK) (E : XK) : Prop
  | mk (n : Int) (v : V) (k : Str) (ps : List (Str × Int)) (f : Int) (x : Str) (q1 : vs = [.int n, v, .str x]) (q2 : GivenP H v k ps f x) (q3 : n = 0) (q4 : ∀ z H', Same H H' → (¬ IsModel k ps f → z = Str.ofString "model") → (IsModel k ps f → ¬ AllIn ps x → z = Str.ofString "share") → (IsModel k ps f → AllIn ps x → z = Str.ofString "done") → Q (.str z) H')
end My
set_option Elab.async false
set_option linter.all false
set_option maxRecDepth 100000
namespace L2
open PySem PySem.Spec PyProof.Rows PySem.Builtin PySem.Builtin.ObjectAttr PySem.Builtin.Getset_descriptor
section
variable {prog : Program} {w : World} {A : Around} {E : Value → Shared → Prop} {h : Heap} {g : Array GenState} {d : Drawn} {t : Nat} {os : OsState} {K : PySem.W.Frag} {a D : Addr} {o : Obj}
theorem exc_type {M : Model} (ho : h.get? a = some o) (hc : o.cls = .ref D) : PySem.W.Looks M h (typeOf (.ref a)) (.ref D) := hc ▸ (PySem.W.Looks.ld ho).andThen .now
theorem exc_get {R : Result → Shared → Prop} {tp : Value} (X : K.In h) (ho : h.get? a = some o) (hc : o.cls = .ref D) (hm : PySem.W.mroIn K D (.type "object") = some true) (hq : R (.ok (.ret (.ref D))) ⟨h, g, d, t, os⟩) :
    codeAny (model prog w) A (.call (.builtin "getset_descriptor.__get__") ⟨[.builtin "object.__class__", .ref a, tp], []⟩) R ⟨h, g, d, t, os⟩ := by
  have L0 := exc_type (M := model prog w) ho hc
  have L1 := PySem.W.looks_mroIn (M := model prog w) X hm
  refine codeAny_call_builtin PySem.W.KF.slot_gs.plain PySem.W.KF.entry_gs (PySem.W.KF.slot_gs.check _ _ _ _ _ _ _ _ PySem.W.KF.type_class (PySem.W.KF.args_gs _ _ _) ?_)
  unfold Builtin.«getset_descriptor.__get__» descrGet
  rw [PySem.W.dga_obj]
  refine wpAny_bind (wpAny_pure ?_)
  unfold descrGetter descrCheckInstance descrNameAndClass isInstance
  simp only [PySem.W.KF.owner_class]
  repeat lk
  refine ⟨Code.quiet_builtin _ (by decide +kernel), codeAny_builtin PySem.W.KF.entry_class ?_⟩
  unfold Builtin.«object.__class__» shownTypeOf
  repeat lk
  exact hq
theorem exc_check {nameV : Value} {Q : Unit → Shared → Prop} (X : K.In h) (ho : h.get? a = some o) (hc : o.cls = .ref D) (hB : PySem.W.mroIn K D (.type "BaseException") = some true) (hq : Q () ⟨h, g, d, t, os⟩) :
    wpAny (model prog w) A (checkBuiltinCall "BaseException.__getattribute__" ⟨[.ref a, nameV], []⟩) Q E ⟨h, g, d, t, os⟩ := by
  have hk : builtinKind "BaseException.__getattribute__" = some .slot := by decide +kernel
  have hsplit : splitId "BaseException.__getattribute__" = some ("BaseException", "__getattribute__") := by decide +kernel
  have ha := PySem.F.args_bexc_ga (.ref a) nameV
  have L0 := exc_type (M := model prog w) ho hc
  have L1 := PySem.W.looks_mroIn (M := model prog w) X hB
  simp only [checkBuiltinCall, hk, hsplit]
  refine wpAny_bind ?_
  unfold isInstance
  refine wpAny_bind (L0.at (L1.at ?_))
  repeat (first | assumption | wp_step)
theorem exc_entry {tk : Tok} {Q : Fin → Shared → Prop} (X : K.In h) (ho : h.get? a = some o) (hc : o.cls = .ref D) (hf : PySem.W.Looks (model prog w) h (Builtin.ObjectAttr.find (.ref a) (.ref D) "__class__") (.bind (.builtin "getset_descriptor.__get__") (.builtin "object.__class__"))) (hm : PySem.W.mroIn K D (.type "object") = some true)
    (hq : Q (.done (.ret (.ref D))) ⟨h, g, d, t, os⟩) : wpAny (model prog w) A (Builtin.«object.__getattribute__» ⟨[.ref a, .str "__class__" tk], []⟩) Q E ⟨h, g, d, t, os⟩ := by
  have L0 := exc_type (M := model prog w) ho hc
  have L1 := hf
  unfold Builtin.«object.__getattribute__»
  refine wpAny_bind (wpAny_pure ?_)
  refine wpAny_bind (wpAny_pure ?_)
  refine wpAny_bind (L0.at (wpAny_bind (L1.at ?_)))
  show wpAny _ _ (holding [.builtin "object.__class__"] (call (.builtin "getset_descriptor.__get__") [.builtin "object.__class__", .ref a, .ref D]) >>= ret) _ _ _
  refine wpAny_bind (wpAny_holding (wpAny_call (exc_get X ho hc hm ?_)))
  exact wpAny_pure hq
theorem exc_by {tk : Tok} {fill : Bool} {Q : Value → Shared → Prop} (X : K.In h) (ho : h.get? a = some o) (hc : o.cls = .ref D) (hga : PySem.W.findIn K (.ref D) "__getattribute__" = some (some (.builtin "BaseException.__getattribute__"))) (hgt : PySem.W.findIn K (.ref D) "__getattr__" = some none)
    (hB : PySem.W.mroIn K D (.type "BaseException") = some true) (hf : PySem.W.Looks (model prog w) h (Builtin.ObjectAttr.find (.ref a) (.ref D) "__class__") (.bind (.builtin "getset_descriptor.__get__") (.builtin "object.__class__"))) (hm : PySem.W.mroIn K D (.type "object") = some true)
    (hq : Q (.ref D) ⟨h, g, d, t, os⟩) : wpAny (model prog w) A (getAttrBy (.ref a) (.str "__class__" tk) fill false) Q E ⟨h, g, d, t, os⟩ := by
  have L0 := exc_type (M := model prog w) ho hc
  have L1 := PySem.W.looks_findIn (M := model prog w) X hga
  have L2 := PySem.W.looks_findIn (M := model prog w) X hgt
  have FB := PySem.F.excAttr_ValueError
  unfold getAttrBy
  refine wpAny_holding (wpAny_bind (L0.at (wpAny_bind (L1.at ?_))))
  show wpAny _ _ (getAttrByItsOwn (.ref a) (.str "__class__" tk) (.ref D) (.builtin "BaseException.__getattribute__") fill false) _ _ _
  unfold getAttrByItsOwn
  refine wpAny_bind (L2.at ?_)
  refine wpAny_bind (wpAny_attempt (wpAny_holding ?_))
  show wpAny _ _ (boundAndCalled (.builtin "BaseException.__getattribute__") (.ref a) (.str "__class__" tk)) _ _ _
  unfold boundAndCalled
  refine wpAny_bind (wpAny_of_eq (FB.ga.bind (.ref a)) ?_)
  show wpAny _ _ (call (.builtin "BaseException.__getattribute__") [.ref a, .str "__class__" tk]) _ _ _
  refine wpAny_call (codeAny_call_builtin FB.ga.plain PySem.F.entry_bexc_ga (exc_check X ho hc hB (exc_entry X ho hc hf hm ?_)))
  exact wpAny_pure hq
theorem exc_class {Q : Option Value → Shared → Prop} (X : K.In h) (ho : h.get? a = some o) (hc : o.cls = .ref D) (hga : PySem.W.findIn K (.ref D) "__getattribute__" = some (some (.builtin "BaseException.__getattribute__"))) (hgt : PySem.W.findIn K (.ref D) "__getattr__" = some none)
    (hB : PySem.W.mroIn K D (.type "BaseException") = some true) (hf : PySem.W.Looks (model prog w) h (Builtin.ObjectAttr.find (.ref a) (.ref D) "__class__") (.bind (.builtin "getset_descriptor.__get__") (.builtin "object.__class__"))) (hm : PySem.W.mroIn K D (.type "object") = some true)
    (hq : Q (some (.ref D)) ⟨h, g, d, t + 1, os⟩) : wpAny (model prog w) A (getAttr? (.ref a) "__class__") Q E ⟨h, g, d, t, os⟩ := by
  unfold getAttr? getAttrBy?
  refine wpAny_bind (wpAny_mkText (wpAny_bind (wpAny_attempt (exc_by X ho hc hga hgt hB hf hm ?_))))
  exact wpAny_pure hq
structure ExcOk (K : PySem.W.Frag) (D : Addr) : Prop where
  ga : PySem.W.findIn K (.ref D) "__getattribute__" = some (some (.builtin "BaseException.__getattribute__"))
  gt : PySem.W.findIn K (.ref D) "__getattr__" = some none
  mB : PySem.W.mroIn K D (.type "BaseException") = some true
  mO : PySem.W.mroIn K D (.type "object") = some true
  ha : PySem.W.findIn K (.ref D) "__class__" = some (some (.builtin "object.__class__"))
  hn : PySem.W.specialIn K (.builtin "object.__class__") "__get__" = some (some (.builtin "getset_descriptor.__get__"))
  tk : PySem.W.takesIn K (.builtin "object.__class__") = some true
theorem ExcOk.cls (e : ExcOk K D) : ∃ cd, PySem.W.clsIn K D = some cd := by
  obtain ⟨cd, a, _⟩ := Option.bind_eq_some_iff.mp e.mB
  exact ⟨cd, a⟩
theorem ExcOk.find {M : Model} (e : ExcOk K D) (X : K.In h) : PySem.W.Looks M h (Builtin.ObjectAttr.find (.ref a) (.ref D) "__class__") (.bind (.builtin "getset_descriptor.__get__") (.builtin "object.__class__")) := by
  have L1 := PySem.W.looks_findIn (M := M) X e.ha
  have L2 := PySem.W.looks_specialIn (M := M) X e.hn
  have L3 := PySem.W.looks_takesIn (M := M) X e.tk
  exact L1.andThen (PySem.W.Looks.andThen (show PySem.W.Looks M h (Builtin.ObjectAttr.getOf (some (.builtin "object.__class__"))) (some (.builtin "getset_descriptor.__get__")) from L2)
    ((show PySem.W.Looks M h (Builtin.ObjectAttr.dataDescriptor? (some (.builtin "object.__class__")) (some (.builtin "getset_descriptor.__get__"))) (some (.builtin "getset_descriptor.__get__", .builtin "object.__class__")) from L3.andThen .now).andThen (PySem.W.Looks.tag .now)))
theorem kitx_exc {x : Addr} {ox : Obj} (e : ExcOk K D) : PySem.W.KitX K (.ref x) (.ref D) (fun h => h.get? x = some ox ∧ ox.cls = .ref D) where
  ty := fun _ _ _ I => exc_type I.1 I.2
  it := fun _ _ X _ => by
    obtain ⟨cd, hc⟩ := e.cls
    unfold PySem.W.clsIn at hc
    split at hc
    · rename_i ho
      intro A' Q' E' s' k q
      unfold isType loadHead
      exact wpAny_bind (wpAny_loadPart (k _ _ (X _ _ ho)) (wpAny_pure q))
    · cases hc
  ne := fun h tp dd its n sl X htp => by
    obtain ⟨cd, hc⟩ := e.cls
    refine Bool.eq_false_iff.mpr fun q => ?_
    have z : D = tp := Value.ref.inj (beq_iff_eq.mp q)
    subst z
    unfold PySem.W.clsIn at hc
    split at hc
    · rename_i ho
      have z := (X _ _ ho).symm.trans htp
      cases z
    · cases hc
  ca := fun {_ _ _ _ _ s} X I k => by
    obtain ⟨h, g, d, t, os⟩ := s
    exact exc_class X I.1 I.2 e.ga e.gt e.mB (e.find X) e.mO k
end
section
variable {X : Cx} {pins : List (Addr × Obj)} {σ : St} {H H' : Hp} {s s' : Shared}
theorem call_isiE {ea D : Addr} {oe : Obj} (hp : (ea, oe) ∈ X.pn) (hc : oe.cls = .ref D) (e : ExcOk X.K D) :
    CallR X (.builtin "isinstance") (fun xs H Q => ∃ (c : V) (cv : Value) (b : Bool), xs = [.ref ea, c] ∧ ((∃ C, c = .ref C ∧ cv = .ref C) ∨ ∃ T, c = .ty T ∧ cv = .type T) ∧ PySem.W.kitOne X.K (.ref D) cv = some b ∧ Q (.bl b) H) := by
  intro pins s σ H xs us Q I r h
  obtain ⟨c, cv, b, rfl, rc, hb, q⟩ := h
  obtain ⟨u, w', rfl, ru, rw'⟩ := vals2 r
  cases (show u = Value.ref ea from ru)
  have hin : s.heap.get? ea = some oe ∧ oe.cls = .ref D := ⟨(I.pin (ea, oe) (List.mem_append_left _ hp)).1, hc⟩
  have hw : w' = cv := by
    rcases rc with ⟨C, rfl, rfl⟩ | ⟨T, rfl, rfl⟩
    · exact rw'
    · exact rw'
  subst hw
  exact PySem.W.kia_one (kitx_exc e) I.kIn hin hb (fun z => nomatch z) fun tk => ⟨.bl b, H, I.tok _, rfl, q⟩
abbrev Cx.heldAs (X : Cx) (e : Addr) (oe : Obj) : Cx := X.held e oe
theorem Inv.blank {h' : Heap} {m' : Str → Option Value} {tk : Nat} (I : Inv X pins σ H s) (hn : h'.Ns X.env.locals m') (hs : Heap.SameBut X.env.locals s.heap h') : Inv X pins (List.replicate σ.length none) H { s with heap := h', toks := tk } := by
  have cne := I.cne
  have ne0 : ∀ b o, X.s₀.heap.get? b = some o → b ≠ X.env.locals := fun b o e => Nat.ne_of_lt (Nat.lt_of_lt_of_le (Heap.lt_size e) I.ok.above)
  refine ⟨I.ok, I.os, I.bare, ⟨fun b o e n hb hx => ?_, fun b o e n hb hx => ?_, I.base.free, fun b o e hx => ?_, I.base.tups, I.base.frzs, I.base.tbls⟩, ⟨m', hn, fun j y v e1 e2 e3 => ?_⟩, fun y c e => ?_, I.free, I.freeC, fun p hp => ?_, fun b ob e => ?_, by rw [List.length_replicate]; exact I.len⟩
  · exact (hs.2 b (ne0 b o e)).trans (I.base.keep b o e n hb hx)
  · obtain ⟨sl, e1⟩ := I.base.slot b o e n hb hx
    exact ⟨sl, (hs.2 b (ne0 b o e)).trans e1⟩
  · obtain ⟨o', e1⟩ := I.base.there b o e hx
    exact ⟨o', (hs.2 b (ne0 b o e)).trans e1⟩
  · rw [List.getElem?_replicate] at e2
    split at e2 <;> cases e2
  · obtain ⟨w', z⟩ := I.cell y c e
    exact ⟨w', z.sameBut hs (cne y c e)⟩
  · obtain ⟨e, n, ne, nf, dd⟩ := I.pin p hp
    exact ⟨(hs.2 p.1 ne).trans e, n, ne, nf, dd⟩
  · refine (I.hok b ob e).stay (fun c w' hc q => (hs.2 c ?_).trans q) (fun _ q => q) fun _ _ q => q
    rintro rfl
    have hfree := I.free
    rcases hc with rfl | hc
    · rw [hfree] at e; cases e
    · rw [hfree] at hc; cases hc
def tHAs (K : PySem.W.Frag) (Ch : Addr) (i : Nat) (t : Addr → Addr → TS) (r : Value → TS) : Value → TS := fun cls D σ H => ∃ Ce tl, cls = .ref Ce ∧ Exc K Ce tl ∧
  if (Value.ref Ce :: tl).contains (.ref Ch) = true then ExcOk K Ce ∧ ∀ ea, H ea = none → t ea Ce { nx := fun _ _ => False, rt := D.rt } (σ.set i (some (.ref ea))) H else r cls D σ H
theorem ph_as {x n : Str} {i : Nat} {Ch : Addr} {np pos : Pos} {b₀ : Stmt} {suite : List Stmt} {rest : List ExceptHandler} {t : Addr → Addr → TS} {r : Value → TS} {th : List Value} (hN : X.N.Nodup) (hi : X.N[i]? = some n) (hlo : X.env.scope.names.lookup n = some .local) (hg : Gl X x) (hm : X.mg x = some (.ref Ch))
    (xh : Exc X.K Ch th) (hbase : th.contains (.type "BaseException") = true) (hsu : ∀ ea D oe, oe.cls = .ref D → ExcOk X.K D → PSs (X.heldAs ea oe) (b₀ :: suite) (t ea D)) (hr : PH X rest r) (hd : (x == ("__debug__" : Str)) = false := by decide) :
    PH X (.ExceptHandler (some (.Name x np)) (some n) (b₀ :: suite) pos :: rest) (tHAs X.K Ch i t r) := by
  intro pins σ H' ea cls s3 D Fl h
  obtain ⟨Ce, tl, rfl, xe, h⟩ := h
  have I3 := Fl.inv
  obtain ⟨oe3, hoe, hoc, I3h⟩ := Fl.holds
  refine wpAny_handleBy_cons (codeAny_handlers_test (ld_glob (X := X.held ea oe3) I3h hg hm ?_ hd)) (by intro q; cases q)
  obtain ⟨H, s, a0, B, I, hos, hb, un, hok, hfl, cov⟩ := id Fl
  refine excMatches_own I3.kIn xe xh hoe hoc hbase ?_
  cases hc : (Value.ref Ce :: tl).contains (.ref Ch) with
  | false =>
    rw [hc] at h
    exact hr pins σ H' ea _ s3 D Fl (by simpa using h)
  | true =>
    rw [hc, if_pos rfl] at h
    refine codeAny_handlers_suite_as ?_
    refine flight0 hfl fun h6 hfl6 up6 => ?_
    have un6 := un.flies I.stack I.stkFree cov hfl.1 hfl6.1 up6
    have Fl6 : Fly X pins σ H' ea (.ref Ce) { s3 with heap := h6 } := ⟨H, s, a0, B, I, hos, hb, un6, hok, hfl6, cov⟩
    obtain ⟨oe6, _, hc6, I7⟩ := Fl6.holds
    have hgone : H' ea = none := hok.gone hfl6.2.1
    refine store_ok (X := X.heldAs ea oe6) I7 hN hi (.inl hlo) (v := .ref ea) rfl (fun s8 I8 => ?_) (.inr hlo)
    refine wpAny_mono (hsu ea Ce oe6 hc6 h.1 pins s8 _ H' _ I8 (h.2 ea hgone)) (fun f s9 hs => ?_) fun _ _ z => False.elim z
    cases f with
    | next => obtain ⟨_, _, _, q⟩ := hs; exact False.elim q
    | brk => obtain ⟨_, _, _, q⟩ := hs; exact False.elim q
    | cont => obtain ⟨_, _, _, q⟩ := hs; exact False.elim q
    | ret u =>
      obtain ⟨v, σ9, H9, I9, rv, q⟩ := hs
      have I10 := I9.unheld I.ok
      obtain ⟨m, hns, _⟩ := I10.loc
      refine wpAny_nameGoes hlo hns (by rw [I.ok.kind]; rfl) fun h' m' hn' hsb => ?_
      exact ⟨v, _, H9, I10.blank hn' hsb, rv, q⟩
end
end L2
set_option Elab.async false
set_option linter.all false
set_option maxRecDepth 100000
namespace L2
open PySem PySem.Spec PyProof.Rows
section
variable {X : Cx}
inductive I_rInsert  (x : V) (vs : List V) (H : Hp) (Q : VK) : Prop
  | mk (l : Addr) (xs : List V) (i : Nat) (y : V) (q1 : x = .ref l) (q2 : vs = [.int (i : Int), y]) (q3 : H l = some (.lst xs)) (q4 : i ≤ xs.length) (q5 : xs.length < sizeLine) (q6 : Q .non (upd H l (.lst (xs.take i ++ y :: xs.drop i))))
def toV : Value → V
  | .bool b => .bl b
  | .int i _ => .int i
  | .str z _ => .str z
  | _ => .non
theorem toV_of {x : V} {v : Value} (r : RelV x v) (f : flatV x = true) : toV v = x := by
  cases x with
  | non => cases r; rfl
  | bl b => cases r; rfl
  | int i => obtain ⟨t, rfl⟩ := r; rfl
  | str z => obtain ⟨t, rfl⟩ := r; rfl
  | _ => exact absurd (show false = true from f) Bool.false_ne_true
theorem count_vals {y : V} : ∀ {xs : List V} {us : List Value}, Vals xs us → xs.all flatV = true → us.countP (fun v => eqV (toV v) y) = xs.countP fun z => eqV z y
  | _, _, .nil, _ => rfl
  | _, _, .cons r t, f => by
    rw [List.all_cons, Bool.and_eq_true] at f
    rw [List.countP_cons, List.countP_cons, count_vals t f.2, toV_of r f.1]
inductive I_rCount (K : PySem.W.Frag) (x : V) (vs : List V) (H : Hp) (Q : VK) : Prop
  | mk (l : Addr) (xs : List V) (y : V) (q1 : x = .ref l) (q2 : vs = [y]) (q3 : H l = some (.lst xs)) (q4 : xs.all flatV = true) (q5 : flatV y = true) (q6 : Q (.int (xs.countP fun z => eqV z y)) H)
def rCount (K : PySem.W.Frag) : V → List V → Hp → VK → Prop := fun x vs H Q => I_rCount K x vs H Q
theorem mt_count : MtR X "list.count" (rCount X.K) := by
  intro pins s σ H x vs v us Q I rx rv h
  obtain ⟨l, xs, y, rfl, rfl, hH, fx, fy, q⟩ := h
  cases rx
  obtain ⟨u, rfl, ru⟩ := vals1 rv
  obtain ⟨z, its, n, r, hl, e⟩ := I.lstM hH
  refine call_meets F.slot_list_count ⟨_, e, rfl⟩ F.entry_list_count (F.args_list_count_2 _ _) (SeqAt.list_countAt l its.toArray n none #[] u fun v => eqV (toV v) y) ⟨e, fun v hv => ?_, ?_⟩
  · obtain ⟨j, hj, ej⟩ := List.mem_iff_getElem.mp (show v ∈ its by simpa using hv)
    have hx : xs[j]? = some (xs[j]'(by omega)) := List.getElem?_eq_getElem (by omega)
    obtain ⟨v', e1, r1⟩ := r.get hx
    rw [List.getElem?_eq_getElem hj, ej] at e1
    cases e1
    have f1 := flat_at fx hx
    rw [toV_of r1 f1]
    exact eqAt_V r1 ru f1 fy
  · have hc : its.toArray.toList.countP (fun v => eqV (toV v) y) = xs.countP fun z => eqV z y := count_vals r fx
    rw [hc]
    exact ⟨.int _, H, I.tok _, ⟨_, rfl⟩, q⟩
inductive I_rNeT (K : PySem.W.Frag) (x : V) (y : V) (H : Hp) (Q : VK) : Prop
  | mk (a : _) (b : _) (xs : _) (ys : _) (q1 : x = .ref a) (q2 : y = .ref b) (q3 : SqT K H a xs) (q4 : SqT K H b ys) (q5 : xs.length = ys.length) (q6 : xs.all flatV = true) (q7 : ys.all flatV = true) (q8 : Q (.bl (!eqVs xs ys)) H)
end
end L2
set_option Elab.async false
set_option linter.all false
set_option maxRecDepth 100000
namespace My
open PySem L2 Mth
inductive I_spToldSo  (vs : List V) (H : Hp) (Q : VK) (E : XK) : Prop
  | mk (a b : Addr) (xs ys : List V) (ps : List (Str × Int)) (q1 : vs = [.ref a, .ref b]) (q2 : H a = some (.lst xs)) (q3 : H b = some (.lst ys)) (q4 : Paired (PairAt H) xs ps) (q5 : Paired (PairAt H) ys ps) (q6 : ps.length ≤ 1000) (q7 : Q (.bl true) H)
def cutBy : List Int → List Int → List (List Int)
  | bs, [] => [bs]
  | bs, c :: r => bs.take (c % 9).toNat :: cutBy (bs.drop (c % 9).toNat) r
inductive BitsAt (H : Hp) (v : V) (bs : List Int) : Prop
  | mk (a : _) (q1 : v = .ref a) (q2 : H a = some (.lst (bs.map V.int)))
inductive I_spCut (K : PySem.W.Frag) (vs : List V) (H : Hp) (Q : VK) (E : XK) : Prop
  | mk (a b : Addr) (bs cs : List Int) (q1 : vs = [.ref a, .ref b]) (q2 : SqL K H a (bs.map V.int)) (q3 : SqL K H b (cs.map V.int)) (q4 : bs.length ≤ 100000) (q5 : cs.length ≤ 1000) (q6 : ∀ p ws H', Same H H' → H' p = some (.lst ws) → Paired (BitsAt H') ws (cutBy bs cs) → Q (.ref p) H')
theorem cut_some (bs : List Int) (g k : Nat) : cutV (bs.map V.int) (some (g : Int)) (some ((g + k : Nat) : Int)) = ((bs.drop g).take k).map V.int := by
  unfold cutV
  rw [HT.sIx_nat, HT.sIx_nat, List.length_map, ← List.map_drop, ← List.map_take]
  congr 1
  rcases Nat.le_total g bs.length with h | h
  · rw [Nat.min_eq_left h]
    rcases Nat.le_total (g + k) bs.length with h2 | h2
    · rw [Nat.min_eq_left h2]
      congr 1
      omega
    · rw [Nat.min_eq_right h2, List.take_of_length_le (by rw [List.length_drop]; exact Nat.le_refl _), List.take_of_length_le (by rw [List.length_drop]; omega)]
  · rw [Nat.min_eq_right h, List.drop_eq_nil_of_le (Nat.le_refl _), List.drop_eq_nil_of_le h]
    simp
theorem cut_rest (bs : List Int) (g : Nat) : cutV (bs.map V.int) (some (g : Int)) none = (bs.drop g).map V.int := by
  unfold cutV
  rw [HT.sIx_nat, HT.sIx_none, List.length_map, ← List.map_drop, ← List.map_take]
  congr 1
  rcases Nat.le_total g bs.length with h | h
  · rw [Nat.min_eq_left h, List.take_of_length_le (by rw [List.length_drop]; exact Nat.le_refl _)]
  · rw [Nat.min_eq_right h, List.drop_eq_nil_of_le (Nat.le_refl _), List.drop_eq_nil_of_le h]
    simp
end My
set_option Elab.async false
set_option linter.all false
set_option maxRecDepth 100000
namespace My
open PySem L2 Mth
def chunk (bs : List Int) (i : Nat) : List Int := (bs.drop (8 * i)).take 8
def padded (r : List Int) : List Int := r ++ List.replicate (8 - r.length) 0
def boxN (bs : List Int) (i : Nat) : Int := valOf (padded (chunk bs i))
def cnt (bs : List Int) : Nat := (bs.length + 7) / 8
def lastN (bs : List Int) (i : Nat) : Int := if i = 0 then 0 else ((chunk bs (i - 1)).length : Int)
def eightsUp (bs : List Int) (i : Nat) : List Int := lastN bs i :: (List.range i).map (boxN bs)
def eights (bs : List Int) : List Int := eightsUp bs (cnt bs)
inductive I_spBoxed (cNB : Addr) (vs : List V) (H : Hp) (Q : VK) (E : XK) : Prop
  | mk (l : Addr) (ns : List Int) (q1 : vs = [.ref l]) (q2 : H l = some (.lst (ns.map V.int))) (q3 : ns.length ≤ 300) (q4 : (Bits ns → ∀ p H', Same H H' → H' p = some (.lst ((eights ns).map V.int)) → Q (.ref p) H')) (q5 : (¬ Bits ns → ∀ H', Same H H' → E (.ref cNB) none H'))
inductive I_spUnboxed  (vs : List V) (H : Hp) (Q : VK) (E : XK) : Prop
  | mk (l : Addr) (bs : List Int) (q1 : vs = [.ref l]) (q2 : H l = some (.lst ((eights bs).map V.int))) (q3 : Bits bs) (q4 : bs.length ≤ 300) (q5 : ∀ p H', Same H H' → H' p = some (.lst (bs.map V.int)) → Q (.ref p) H')
theorem alike_ints {H : Hp} : ∀ (ns : List Int), Alikes H (ns.map V.int) (ns.map V.int) ns.length
  | [] => .nil
  | n :: r => .int n (alike_ints r)
theorem alike_lists {H : Hp} {a b : Addr} {ns : List Int} (h : H a = some (.lst (ns.map V.int))) (k : H b = some (.lst (ns.map V.int))) : Alikes H [.ref a] [.ref b] (0 + (ns.length + 1)) := .lst h k (alike_ints ns) .nil
end My
set_option Elab.async false
set_option linter.all false
set_option maxRecDepth 100000
namespace L2
open PySem PySem.Spec PyProof.Rows
section
variable {X : Cx} {pos : Pos}
theorem pe_globI {x : Str} {i : Int} (hg : Gl X x) (h : ∃ t, X.mg x = some (.int i t)) (hd : (x == ("__debug__" : Str)) = false := by decide) : PE X (.Name x pos) (tC (.int i)) := by
  obtain ⟨t, h⟩ := h
  exact pe_glob hg h ⟨t, rfl⟩ hd
end
end L2
set_option Elab.async false
set_option linter.all false
set_option maxRecDepth 100000
namespace My
open PySem L2 Mth
structure TupG (K : PySem.W.Frag) (mg : Str → Option Value) (x : Str) (a : Addr) (ns : List Int) : Prop where
  g : mg x = some (.ref a)
  s : ∀ H, SqT K H a (ns.map V.int)
inductive I_spCheckBits (cNB : Addr) (vs : List V) (H : Hp) (Q : VK) (E : XK) : Prop
  | mk (l : Addr) (ns : List Int) (q1 : vs = [.ref l]) (q2 : H l = some (.lst (ns.map V.int))) (q3 : (Bits ns → ∀ H', Same H H' → Q .non H')) (q4 : (¬ Bits ns → ∀ H', Same H H' → E (.ref cNB) none H'))
inductive I_spNumOf  (vs : List V) (H : Hp) (Q : VK) (E : XK) : Prop
  | mk (l : Addr) (bs : List Int) (q1 : vs = [.ref l]) (q2 : H l = some (.lst (bs.map V.int))) (q3 : Q (.int (valOf bs)) H)
inductive I_spFilled  (vs : List V) (H : Hp) (Q : VK) (E : XK) : Prop
  | mk (l : Addr) (r : List Int) (q1 : vs = [.ref l]) (q2 : H l = some (.lst (r.map V.int))) (q3 : r.length ≤ 8) (q4 : ∀ p H', Same H H' → H' p = some (.lst ((padded r).map V.int)) → Q (.ref p) H')
inductive I_spCheckNums  (vs : List V) (H : Hp) (Q : VK) (E : XK) : Prop
  | mk (l : Addr) (bs : List Int) (q1 : vs = [.ref l]) (q2 : H l = some (.lst ((eights bs).map V.int))) (q3 : Bits bs) (q4 : bs.length ≤ 300) (q5 : ∀ H', Same H H' → Q .non H')
theorem cut_to (bs : List Int) (g : Nat) : cutV (bs.map V.int) none (some (g : Int)) = (bs.take g).map V.int := by
  have := cut_some bs 0 g
  rw [Nat.zero_add, List.drop_zero] at this
  rw [← this]
  unfold cutV
  rw [HT.sIx_none, HT.sIx_nat, HT.sIx_nat, Nat.zero_min]
theorem ints_flat (ns : List Int) : (ns.map V.int).all flatV = true := by
  rw [List.all_map]
  exact List.all_eq_true.mpr fun _ _ => rfl
end My
set_option Elab.async false
set_option linter.all false
set_option maxRecDepth 100000
namespace L2
open PySem
theorem Room.mark {k : Nat} {A : Around} (r : Room k A) (h : Option Value) : Room k (A.mark h) := ⟨r.dp, r.un⟩
theorem pa_consL {X : Cx} {l : List Expr} {p : Pos} {es : List Expr} {te : TE} {t : TA} (ha : PE X (.List l p) te) (hr : PA X es t) : PA X (.List l p :: es) (tCons te t) := pa_cons ha hr rfl
theorem pe_lists4 {X : Cx} {a b c d : List Expr} {p0 p1 p2 p3 p : Pos} {ta tb tc td : TA} (h0 : PA X a ta) (h1 : PA X b tb) (h2 : PA X c tc) (h3 : PA X d td) : PE X (.List [.List a p0, .List b p1, .List c p2, .List d p3] p) (tLst (tCons (tLst ta) (tCons (tLst tb) (tCons (tLst tc) (tCons (tLst td) tNil))))) :=
  pe_lst (pa_consL (pe_lst h0) (pa_consL (pe_lst h1) (pa_consL (pe_lst h2) (pa_consL (pe_lst h3) pa_nil))))
structure PEb (X : Cx) (e : Expr) (t : TE) : Prop where
  h : PE X e t
structure PSb (X : Cx) (st : Stmt) (t : TS) : Prop where
  h : PS X st t
theorem PSb.way2 {X : Cx} {i : Nat} {x : Str} {cond ix : Expr} {tc : TT} {tb : TE} {a b c d : List Expr} {p0 p1 p2 p3 p q r pos pos' : Pos} {ta tb' tc' td : TA} (hc : PT X cond tc) (h0 : PA X a ta) (h1 : PA X b tb') (h2 : PA X c tc') (h3 : PA X d td) (hb : PE X ix tb) (hs : PlainIx ix)
    (hN : X.N.Nodup) (hi : X.N[i]? = some x) (hx : X.env.scope.names.lookup x = some .local) : PSb X (.If cond [.Assign [.Name x pos'] (.Subscript (.List [.List a p0, .List b p1, .List c p2, .List d p3] p) ix q) pos] [] r)
      (tMid (tIfS tc (tAsg (tOp (rIxL X.K) (tLst (tCons (tLst ta) (tCons (tLst tb') (tCons (tLst tc') (tCons (tLst td) tNil))))) tb) (gName i)) tNext)) :=
  ⟨ps_mid (ps_if hc (pss_one (ps_set hN hi (Or.inl hx) (pe_ix ix_list (pe_lists4 h0 h1 h2 h3) hb hs) rfl (.inr hx))) pss_nil)⟩
theorem pss_consb {X : Cx} {st : Stmt} {rest : List Stmt} {t u : TS} (h : PSb X st t) (r : PSs X rest u) : PSs X (st :: rest) (tSeq t u) := pss_cons h.h r
end L2
namespace My
open PySem L2 Mth
def outs (t : List Int) : List Int := (t.map fun x => bitsOf x 8).flatten
theorem outs_length (t : List Int) : (outs t).length = 8 * t.length := by
  induction t with
  | nil => rfl
  | cons x t ih =>
    show (bitsOf x 8 ++ outs t).length = _
    rw [List.length_append, ih, bitsOf_length, List.length_cons]
    omega
theorem outs_snoc (t : List Int) (x : Int) : outs (t ++ [x]) = outs t ++ bitsOf x 8 := by
  unfold outs
  rw [List.map_append, List.flatten_append]
  simp
def Chk (r : List Int) : Prop := ∃ c t, r = c :: t ∧ 0 ≤ c ∧ c ≤ 8 ∧ (c = 0 ↔ t = []) ∧ ∀ x ∈ t, 0 ≤ x ∧ x ≤ 255
def stayN (r : List Int) : Nat := 8 * (r.length - 1) + (r.headD 0).toNat - 8
def Good (r : List Int) : Prop := Chk r ∧ (1 < r.length → (1 : Int) ∉ (outs r.tail).drop (stayN r))
def outRow (r : List Int) : List Int := (outs r.tail).take (stayN r)
inductive I_spCheckNumsR (cNX : Addr) (vs : List V) (H : Hp) (Q : VK) (E : XK) : Prop
  | mk (l : Addr) (r : List Int) (q1 : vs = [.ref l]) (q2 : H l = some (.lst (r.map V.int))) (q3 : r.length ≤ 100) (q4 : Chk r → ∀ H', Same H H' → Q .non H') (q5 : ¬ Chk r → ∀ H', Same H H' → E (.ref cNX) none H')
def spCheckNumsR (cNX : Addr) : Sp := fun vs H Q E => I_spCheckNumsR cNX vs H Q E
inductive I_spUnboxedR (cNX : Addr) (vs : List V) (H : Hp) (Q : VK) (E : XK) : Prop
  | mk (l : Addr) (r : List Int) (q1 : vs = [.ref l]) (q2 : H l = some (.lst (r.map V.int))) (q3 : r.length ≤ 100) (q4 : Good r → ∀ p H', Same H H' → H' p = some (.lst ((outRow r).map V.int)) → Q (.ref p) H') (q5 : ¬ Good r → ∀ H', Same H H' → E (.ref cNX) none H')
def spUnboxedR (cNX : Addr) : Sp := fun vs H Q E => I_spUnboxedR cNX vs H Q E
inductive I_spRefusedSo (vs : List V) (H : Hp) (Q : VK) (E : XK) : Prop
  | mk (l : Addr) (r : List Int) (q1 : vs = [.ref l]) (q2 : H l = some (.lst (r.map V.int))) (q3 : r.length ≤ 100) (q4 : ¬ Good r) (q5 : ∀ H', Same H H' → Q (.bl true) H')
def spRefusedSo : Sp := fun vs H Q E => I_spRefusedSo vs H Q E
structure IsiX (K : PySem.W.Frag) (cl : Cls) (D : Addr) (b1 b2 b3 b4 b5 : Bool) : Prop where
  ok : ExcOk K D
  b1 : PySem.W.kitOne K (.ref D) (.ref cl.BM) = some b1
  b2 : PySem.W.kitOne K (.ref D) (.ref cl.NS) = some b2
  b3 : PySem.W.kitOne K (.ref D) (.ref cl.NB) = some b3
  b4 : PySem.W.kitOne K (.ref D) (.ref cl.NX) = some b4
  b5 : PySem.W.kitOne K (.ref D) (.ref cl.NL) = some b5
  b6 : PySem.W.kitOne K (.ref D) (.type "ValueError") = some true
theorem boot_ValueError : bootBuiltins "ValueError" = some (.type "ValueError") := by decide +kernel
theorem lineT (C D : Addr) : ((Value.ref C :: (.ref D :: VE)).contains (.ref C)) = true := by simp
theorem lineT2 (C D : Addr) : ((Value.ref C :: (.ref D :: VE)).contains (.ref D)) = true := by simp
theorem chk_nil : ¬ Chk [] := fun ⟨_, _, e, _⟩ => nomatch e
theorem chk_cons {c : Int} {t : List Int} : Chk (c :: t) ↔ 0 ≤ c ∧ c ≤ 8 ∧ (c = 0 ↔ t = []) ∧ ∀ x ∈ t, 0 ≤ x ∧ x ≤ 255 := by
  constructor
  · rintro ⟨c', t', e, h⟩
    cases e
    exact h
  · exact fun h => ⟨c, t, rfl, h⟩
theorem stay_le {c : Int} {t : List Int} (h : c ≤ 8) : stayN (c :: t) ≤ 8 * t.length := by
  unfold stayN
  show 8 * (t.length + 1 - 1) + c.toNat - 8 ≤ _
  omega
theorem in_one (l : List Int) : inV (.int 1) (l.map V.int) = true ↔ (1 : Int) ∈ l := by
  unfold inV
  rw [List.any_eq_true]
  constructor
  · rintro ⟨v, hv, e⟩
    obtain ⟨x, hx, rfl⟩ := List.mem_map.mp hv
    have e : ((x : Int) == 1) = true := e
    rw [beq_iff_eq] at e
    rw [← e]
    exact hx
  · intro h
    exact ⟨.int 1, List.mem_map.mpr ⟨1, h, rfl⟩, rfl⟩
theorem cut_tail (c : Int) (t : List Int) : cutV ((c :: t).map V.int) (some 1) none = t.map V.int := by
  unfold cutV
  rw [show (some (1 : Int)) = some ((1 : Nat) : Int) from rfl, HT.sIx_nat, HT.sIx_none, List.length_map, ← List.map_drop, ← List.map_take, List.length_cons, Nat.min_eq_left (by omega), List.drop_succ_cons, List.drop_zero, List.take_of_length_le (by omega)]
theorem mt_countK {X : Cx} (K : PySem.W.Frag) (hK : X.K = K) : MtR X "list.count" (rCount K) := by subst hK; exact mt_count
theorem bm_castK {X : Cx} {K : PySem.W.Frag} (hK : X.K = K) {e : Expr} {T : String} {r : V → List V → Hp → VK → Prop} {to : TE} {t : TA} (h : PE X e (tBM X.K T r to t)) : PE X e (tBM K T r to t) := by subst hK; exact h
inductive IsiE (K : PySem.W.Frag) (ea D : Addr) (xs : List V) (H : Hp) (Q : VK) : Prop
  | mk (c : V) (cv : Value) (b : Bool) (q1 : xs = [.ref ea, c]) (q2 : (∃ C, c = .ref C ∧ cv = .ref C) ∨ ∃ T, c = .ty T ∧ cv = .type T) (q3 : PySem.W.kitOne K (.ref D) cv = some b) (q4 : Q (.bl b) H)
theorem call_isiEK {X : Cx} (K : PySem.W.Frag) (hK : X.K = K) {ea D : Addr} {oe : Obj} (hp : (ea, oe) ∈ X.pn) (hc : oe.cls = .ref D) (e : ExcOk K D) : CallR X (.builtin "isinstance") (IsiE K ea D) := by
  subst hK
  intro pins s σ H xs us Q I r h
  obtain ⟨c, cv, b, a1, a2, a3, a4⟩ := h
  exact call_isiE hp hc e pins s σ H xs us Q I r ⟨c, cv, b, a1, a2, a3, a4⟩
theorem at_ints {A : List Int} {j : Int} (h0 : 0 ≤ j) (h1 : j < A.length) : ∃ z, z ∈ A ∧ atI (A.map V.int) j = some (.int z) := by
  have hj : j.toNat < A.length := by omega
  obtain ⟨i, rfl⟩ : ∃ i : Nat, j = (i : Int) := ⟨j.toNat, by omega⟩
  have hi : i < A.length := by omega
  refine ⟨A[i], List.getElem_mem hi, atI_nat ?_⟩
  rw [List.getElem?_map, List.getElem?_eq_getElem hi]
  rfl
theorem via {C T : St → Hp → Prop} {σ : St} {H : Hp} (h : C σ H) (k : ∀ σ H, C σ H → T σ H) : T σ H := k σ H h
inductive MidN (p1 : Addr) (ms : List Int) (way : Int) (σ : St) (H : Hp) : Prop
  | mk (p : Addr) (m : List Int) (last : Int) (b4 : Option V) (h1 : H p1 = some (.lst (ms.map V.int))) (h2 : H p = some (.lst (m.map V.int))) (hm : m.length ≤ 63) (hne : p ≠ p1)
      (hs : σ = [some (.ref p1), some (.ref p), some (.int last), some (.int way), b4, none, none, none, none, none, none, none, none, none, none])
inductive MidR (σ : St) (H : Hp) : Prop
  | mk (pr : Addr) (r : List Int) (b0 b1 b2 b3 b4 : Option V) (h : H pr = some (.lst (r.map V.int))) (hr : r.length ≤ 100)
      (hs : σ = [b0, b1, b2, b3, b4, some (.ref pr), none, none, none, none, none, none, none, none, none])
theorem cut_tl (r : List Int) : cutV (r.map V.int) (some 1) none = r.tail.map V.int := by
  cases r with
  | nil => rfl
  | cons c t => exact cut_tail c t
theorem pw_ok : ∀ j, j < 8 → CDivB 0 ((128 : Int) / 2 ^ j) := by
  intro j hj
  have : j = 0 ∨ j = 1 ∨ j = 2 ∨ j = 3 ∨ j = 4 ∨ j = 5 ∨ j = 6 ∨ j = 7 := by omega
  rcases this with rfl | rfl | rfl | rfl | rfl | rfl | rfl | rfl <;> exact ⟨by decide, by decide +kernel⟩
theorem pw_bit (x : Int) {j : Nat} (hj : j < 8) : (bitsOf x 8)[j]? = some (x / (128 / 2 ^ j) % 2) := by
  have : j = 0 ∨ j = 1 ∨ j = 2 ∨ j = 3 ∨ j = 4 ∨ j = 5 ∨ j = 6 ∨ j = 7 := by omega
  rcases this with rfl | rfl | rfl | rfl | rfl | rfl | rfl | rfl <;> rfl
theorem pw_next {j : Nat} (hj : j < 8) : (128 : Int) / 2 ^ j / 2 = 128 / 2 ^ (j + 1) := by
  have : j = 0 ∨ j = 1 ∨ j = 2 ∨ j = 3 ∨ j = 4 ∨ j = 5 ∨ j = 6 ∨ j = 7 := by omega
  rcases this with rfl | rfl | rfl | rfl | rfl | rfl | rfl | rfl <;> decide
theorem ix_in {n : Nat} {i : Int} (h0 : 0 ≤ i) (h1 : i < n) : ixN n i = some i.toNat := by
  unfold ixN
  simp [h0, h1]
theorem ix_last {n : Nat} (h : 0 < n) : ixN n (-1) = some (n - 1) := by
  unfold ixN
  simp
  omega
theorem MidN.put {p1 p : Addr} {ms m : List Int} {H : Hp} {j : Nat} {z : Int} (h1 : H p1 = some (.lst (ms.map V.int))) (hm : m.length ≤ 63) (hne : p ≠ p1) (last way : Int) (b4 : Option V) :
    MidN p1 ms way [some (.ref p1), some (.ref p), some (.int last), some (.int way), b4, none, none, none, none, none, none, none, none, none, none] (upd H p (.lst ((m.map V.int).set j (.int z)))) :=
  ⟨p, m.set j z, last, b4, by rw [upd_ne (Ne.symm hne)]; exact h1, by rw [upd_same, List.map_set], by rw [List.length_set]; exact hm, hne, rfl⟩
def g10 : List Int → Bool
  | [] => false
  | c :: _ => decide (0 ≤ c) && decide (c ≤ 8)
def g11 : List Int → Bool
  | [] => false
  | c :: t => g10 (c :: t) && decide (V.bl (decide (V.int c = V.int 0)) = V.bl (decide (V.int (((c :: t).map V.int).length : Int) = V.int 1)))
def inB (x : Int) : Bool := decide (0 ≤ x) && decide (x ≤ 255)
def g12 (r : List Int) (i : Nat) : Bool := g11 r && (r.tail.take i).all inB
inductive MidG (pr pb : Addr) (r : List Int) (g : Bool) (σ : St) (H : Hp) : Prop
  | mk (b0 b1 b2 b3 b4 b7 b8 b9 : Option V) (h1 : H pr = some (.lst (r.map V.int))) (h2 : H pb = some (.lst ((outs r.tail).map V.int)))
      (hs : σ = [b0, b1, b2, b3, b4, some (.ref pr), some (.ref pb), b7, b8, b9, some (.bl g), none, none, none, none])
inductive MidD (pr : Addr) (r : List Int) (σ : St) (H : Hp) : Prop
  | mk (b0 b1 b2 b3 b4 b6 b7 b8 b9 : Option V) (g : Bool) (pd : Addr) (d : List Int) (h1 : H pr = some (.lst (r.map V.int))) (h2 : H pd = some (.lst (d.map V.int))) (hg : g = true ↔ Good r) (hd : g = true → d = outRow r)
      (hs : σ = [b0, b1, b2, b3, b4, some (.ref pr), b6, b7, b8, b9, some (.bl g), some (.ref pd), none, none, none])
theorem g12_chk (r : List Int) : g12 r r.tail.length = true ↔ Chk r := by
  unfold g12
  rw [List.take_length]
  cases r with
  | nil => exact ⟨fun z => (by cases z), fun z => absurd z chk_nil⟩
  | cons c t =>
    rw [chk_cons]
    unfold g11 g10
    simp only [Bool.and_eq_true, decide_eq_true_eq, List.all_eq_true, List.tail_cons, inB, V.bl.injEq, V.int.injEq, List.length_map, List.length_cons, decide_eq_decide]
    have e : ((t.length + 1 : Nat) : Int) = 1 ↔ t = [] := by
      rw [← List.length_eq_zero_iff]
      omega
    rw [e]
    constructor
    · rintro ⟨⟨⟨a, b⟩, c⟩, d⟩
      exact ⟨a, b, c, d⟩
    · rintro ⟨a, b, c, d⟩
      exact ⟨⟨⟨a, b⟩, c⟩, d⟩
theorem g12_step {r : List Int} {i : Nat} {x : Int} (h : r.tail[i]? = some x) : g12 r (i + 1) = (g12 r i && inB x) := by
  unfold g12
  rw [List.take_add_one, h, List.all_append, Bool.and_assoc]
  simp
end My
set_option Elab.async false
set_option linter.all false
set_option maxRecDepth 100000
namespace L2
open PySem PySem.Spec PyProof.Rows
inductive E2 {α0 α1 : Type} (p : α0 → α1 → Prop) : Prop
  | mk (a0 : α0) (a1 : α1) (h : p a0 a1)
inductive E3 {α0 α1 α2 : Type} (p : α0 → α1 → α2 → Prop) : Prop
  | mk (a0 : α0) (a1 : α1) (a2 : α2) (h : p a0 a1 a2)
inductive E4 {α0 α1 α2 α3 : Type} (p : α0 → α1 → α2 → α3 → Prop) : Prop
  | mk (a0 : α0) (a1 : α1) (a2 : α2) (a3 : α3) (h : p a0 a1 a2 a3)
inductive E5 {α0 α1 α2 α3 α4 : Type} (p : α0 → α1 → α2 → α3 → α4 → Prop) : Prop
  | mk (a0 : α0) (a1 : α1) (a2 : α2) (a3 : α3) (a4 : α4) (h : p a0 a1 a2 a3 a4)
inductive E6 {α0 α1 α2 α3 α4 α5 : Type} (p : α0 → α1 → α2 → α3 → α4 → α5 → Prop) : Prop
  | mk (a0 : α0) (a1 : α1) (a2 : α2) (a3 : α3) (a4 : α4) (a5 : α5) (h : p a0 a1 a2 a3 a4 a5)
inductive E7 {α0 α1 α2 α3 α4 α5 α6 : Type} (p : α0 → α1 → α2 → α3 → α4 → α5 → α6 → Prop) : Prop
  | mk (a0 : α0) (a1 : α1) (a2 : α2) (a3 : α3) (a4 : α4) (a5 : α5) (a6 : α6) (h : p a0 a1 a2 a3 a4 a5 a6)
inductive E8 {α0 α1 α2 α3 α4 α5 α6 α7 : Type} (p : α0 → α1 → α2 → α3 → α4 → α5 → α6 → α7 → Prop) : Prop
  | mk (a0 : α0) (a1 : α1) (a2 : α2) (a3 : α3) (a4 : α4) (a5 : α5) (a6 : α6) (a7 : α7) (h : p a0 a1 a2 a3 a4 a5 a6 a7)
inductive E9 {α0 α1 α2 α3 α4 α5 α6 α7 α8 : Type} (p : α0 → α1 → α2 → α3 → α4 → α5 → α6 → α7 → α8 → Prop) : Prop
  | mk (a0 : α0) (a1 : α1) (a2 : α2) (a3 : α3) (a4 : α4) (a5 : α5) (a6 : α6) (a7 : α7) (a8 : α8) (h : p a0 a1 a2 a3 a4 a5 a6 a7 a8)
inductive E10 {α0 α1 α2 α3 α4 α5 α6 α7 α8 α9 : Type} (p : α0 → α1 → α2 → α3 → α4 → α5 → α6 → α7 → α8 → α9 → Prop) : Prop
  | mk (a0 : α0) (a1 : α1) (a2 : α2) (a3 : α3) (a4 : α4) (a5 : α5) (a6 : α6) (a7 : α7) (a8 : α8) (a9 : α9) (h : p a0 a1 a2 a3 a4 a5 a6 a7 a8 a9)
inductive E11 {α0 α1 α2 α3 α4 α5 α6 α7 α8 α9 α10 : Type} (p : α0 → α1 → α2 → α3 → α4 → α5 → α6 → α7 → α8 → α9 → α10 → Prop) : Prop
  | mk (a0 : α0) (a1 : α1) (a2 : α2) (a3 : α3) (a4 : α4) (a5 : α5) (a6 : α6) (a7 : α7) (a8 : α8) (a9 : α9) (a10 : α10) (h : p a0 a1 a2 a3 a4 a5 a6 a7 a8 a9 a10)
inductive E12 {α0 α1 α2 α3 α4 α5 α6 α7 α8 α9 α10 α11 : Type} (p : α0 → α1 → α2 → α3 → α4 → α5 → α6 → α7 → α8 → α9 → α10 → α11 → Prop) : Prop
  | mk (a0 : α0) (a1 : α1) (a2 : α2) (a3 : α3) (a4 : α4) (a5 : α5) (a6 : α6) (a7 : α7) (a8 : α8) (a9 : α9) (a10 : α10) (a11 : α11) (h : p a0 a1 a2 a3 a4 a5 a6 a7 a8 a9 a10 a11)
inductive E13 {α0 α1 α2 α3 α4 α5 α6 α7 α8 α9 α10 α11 α12 : Type} (p : α0 → α1 → α2 → α3 → α4 → α5 → α6 → α7 → α8 → α9 → α10 → α11 → α12 → Prop) : Prop
  | mk (a0 : α0) (a1 : α1) (a2 : α2) (a3 : α3) (a4 : α4) (a5 : α5) (a6 : α6) (a7 : α7) (a8 : α8) (a9 : α9) (a10 : α10) (a11 : α11) (a12 : α12) (h : p a0 a1 a2 a3 a4 a5 a6 a7 a8 a9 a10 a11 a12)
inductive E14 {α0 α1 α2 α3 α4 α5 α6 α7 α8 α9 α10 α11 α12 α13 : Type} (p : α0 → α1 → α2 → α3 → α4 → α5 → α6 → α7 → α8 → α9 → α10 → α11 → α12 → α13 → Prop) : Prop
  | mk (a0 : α0) (a1 : α1) (a2 : α2) (a3 : α3) (a4 : α4) (a5 : α5) (a6 : α6) (a7 : α7) (a8 : α8) (a9 : α9) (a10 : α10) (a11 : α11) (a12 : α12) (a13 : α13) (h : p a0 a1 a2 a3 a4 a5 a6 a7 a8 a9 a10 a11 a12 a13)
inductive E15 {α0 α1 α2 α3 α4 α5 α6 α7 α8 α9 α10 α11 α12 α13 α14 : Type} (p : α0 → α1 → α2 → α3 → α4 → α5 → α6 → α7 → α8 → α9 → α10 → α11 → α12 → α13 → α14 → Prop) : Prop
  | mk (a0 : α0) (a1 : α1) (a2 : α2) (a3 : α3) (a4 : α4) (a5 : α5) (a6 : α6) (a7 : α7) (a8 : α8) (a9 : α9) (a10 : α10) (a11 : α11) (a12 : α12) (a13 : α13) (a14 : α14) (h : p a0 a1 a2 a3 a4 a5 a6 a7 a8 a9 a10 a11 a12 a13 a14)
inductive E16 {α0 α1 α2 α3 α4 α5 α6 α7 α8 α9 α10 α11 α12 α13 α14 α15 : Type} (p : α0 → α1 → α2 → α3 → α4 → α5 → α6 → α7 → α8 → α9 → α10 → α11 → α12 → α13 → α14 → α15 → Prop) : Prop
  | mk (a0 : α0) (a1 : α1) (a2 : α2) (a3 : α3) (a4 : α4) (a5 : α5) (a6 : α6) (a7 : α7) (a8 : α8) (a9 : α9) (a10 : α10) (a11 : α11) (a12 : α12) (a13 : α13) (a14 : α14) (a15 : α15) (h : p a0 a1 a2 a3 a4 a5 a6 a7 a8 a9 a10 a11 a12 a13 a14 a15)
inductive E17 {α0 α1 α2 α3 α4 α5 α6 α7 α8 α9 α10 α11 α12 α13 α14 α15 α16 : Type} (p : α0 → α1 → α2 → α3 → α4 → α5 → α6 → α7 → α8 → α9 → α10 → α11 → α12 → α13 → α14 → α15 → α16 → Prop) : Prop
  | mk (a0 : α0) (a1 : α1) (a2 : α2) (a3 : α3) (a4 : α4) (a5 : α5) (a6 : α6) (a7 : α7) (a8 : α8) (a9 : α9) (a10 : α10) (a11 : α11) (a12 : α12) (a13 : α13) (a14 : α14) (a15 : α15) (a16 : α16) (h : p a0 a1 a2 a3 a4 a5 a6 a7 a8 a9 a10 a11 a12 a13 a14 a15 a16)
inductive E18 {α0 α1 α2 α3 α4 α5 α6 α7 α8 α9 α10 α11 α12 α13 α14 α15 α16 α17 : Type} (p : α0 → α1 → α2 → α3 → α4 → α5 → α6 → α7 → α8 → α9 → α10 → α11 → α12 → α13 → α14 → α15 → α16 → α17 → Prop) : Prop
  | mk (a0 : α0) (a1 : α1) (a2 : α2) (a3 : α3) (a4 : α4) (a5 : α5) (a6 : α6) (a7 : α7) (a8 : α8) (a9 : α9) (a10 : α10) (a11 : α11) (a12 : α12) (a13 : α13) (a14 : α14) (a15 : α15) (a16 : α16) (a17 : α17) (h : p a0 a1 a2 a3 a4 a5 a6 a7 a8 a9 a10 a11 a12 a13 a14 a15 a16 a17)
inductive A3 (a0 a1 a2 : Prop) : Prop
  | mk (h0 : a0) (h1 : a1) (h2 : a2)
inductive A4 (a0 a1 a2 a3 : Prop) : Prop
  | mk (h0 : a0) (h1 : a1) (h2 : a2) (h3 : a3)
inductive A5 (a0 a1 a2 a3 a4 : Prop) : Prop
  | mk (h0 : a0) (h1 : a1) (h2 : a2) (h3 : a3) (h4 : a4)
inductive A6 (a0 a1 a2 a3 a4 a5 : Prop) : Prop
  | mk (h0 : a0) (h1 : a1) (h2 : a2) (h3 : a3) (h4 : a4) (h5 : a5)
inductive A7 (a0 a1 a2 a3 a4 a5 a6 : Prop) : Prop
  | mk (h0 : a0) (h1 : a1) (h2 : a2) (h3 : a3) (h4 : a4) (h5 : a5) (h6 : a6)
inductive A8 (a0 a1 a2 a3 a4 a5 a6 a7 : Prop) : Prop
  | mk (h0 : a0) (h1 : a1) (h2 : a2) (h3 : a3) (h4 : a4) (h5 : a5) (h6 : a6) (h7 : a7)
inductive A9 (a0 a1 a2 a3 a4 a5 a6 a7 a8 : Prop) : Prop
  | mk (h0 : a0) (h1 : a1) (h2 : a2) (h3 : a3) (h4 : a4) (h5 : a5) (h6 : a6) (h7 : a7) (h8 : a8)
inductive A10 (a0 a1 a2 a3 a4 a5 a6 a7 a8 a9 : Prop) : Prop
  | mk (h0 : a0) (h1 : a1) (h2 : a2) (h3 : a3) (h4 : a4) (h5 : a5) (h6 : a6) (h7 : a7) (h8 : a8) (h9 : a9)
inductive A11 (a0 a1 a2 a3 a4 a5 a6 a7 a8 a9 a10 : Prop) : Prop
  | mk (h0 : a0) (h1 : a1) (h2 : a2) (h3 : a3) (h4 : a4) (h5 : a5) (h6 : a6) (h7 : a7) (h8 : a8) (h9 : a9) (h10 : a10)
inductive A12 (a0 a1 a2 a3 a4 a5 a6 a7 a8 a9 a10 a11 : Prop) : Prop
  | mk (h0 : a0) (h1 : a1) (h2 : a2) (h3 : a3) (h4 : a4) (h5 : a5) (h6 : a6) (h7 : a7) (h8 : a8) (h9 : a9) (h10 : a10) (h11 : a11)
inductive A13 (a0 a1 a2 a3 a4 a5 a6 a7 a8 a9 a10 a11 a12 : Prop) : Prop
  | mk (h0 : a0) (h1 : a1) (h2 : a2) (h3 : a3) (h4 : a4) (h5 : a5) (h6 : a6) (h7 : a7) (h8 : a8) (h9 : a9) (h10 : a10) (h11 : a11) (h12 : a12)
inductive A14 (a0 a1 a2 a3 a4 a5 a6 a7 a8 a9 a10 a11 a12 a13 : Prop) : Prop
  | mk (h0 : a0) (h1 : a1) (h2 : a2) (h3 : a3) (h4 : a4) (h5 : a5) (h6 : a6) (h7 : a7) (h8 : a8) (h9 : a9) (h10 : a10) (h11 : a11) (h12 : a12) (h13 : a13)
def kids : Stmt → Nat → List Stmt
  | .For _ _ b o _, j => if j = 0 then b else o
  | .While _ b o _, j => if j = 0 then b else o
  | .If _ b o _, j => if j = 0 then b else o
  | _, _ => []
theorem un1 {us : List Value} {n : Nat} (e : us.length = n + 1) : ∃ a t, us = a :: t ∧ t.length = n := by
  cases us with
  | nil => cases e
  | cons a t => exact ⟨a, t, rfl, Nat.succ.inj e⟩
theorem bnd1 {fd : FuncData} {p : Str} (h : ∀ a, bindArgs fd ⟨[a], []⟩ = pure ([p].zip [a])) (us : List Value) (e0 : us.length = 1) : bindArgs fd ⟨us, []⟩ = pure ([p].zip us) := by
  obtain ⟨a, t1, rfl, e1⟩ := un1 e0
  cases List.length_eq_zero_iff.mp e1
  exact h a
theorem bnd2 {fd : FuncData} {p q : Str} (h : ∀ a b, bindArgs fd ⟨[a, b], []⟩ = pure ([p, q].zip [a, b])) (us : List Value) (e0 : us.length = 2) : bindArgs fd ⟨us, []⟩ = pure ([p, q].zip us) := by
  obtain ⟨a, t1, rfl, e1⟩ := un1 e0
  obtain ⟨b, t2, rfl, e2⟩ := un1 e1
  cases List.length_eq_zero_iff.mp e2
  exact h a b
abbrev LS (X : Cx) (l : List Stmt) : Type := { t : TS // PSs X l t }
end L2
set_option Elab.async false
set_option linter.all false
namespace My
open PySem PySem.W
def topRunT (tb : String → Option Builtin) (p : Program) (w : World) (n₀ : Nat) (ann : Option Value) : Nat → SharedT → Thread → Option SharedT
  | 0, _, _ => none
  | n + 1, s, t => match through t with
    | true => some s
    | false => match stepOk n₀ ann t with
      | false => none
      | true => match stepT (denote tb) p w s t with
        | some r => topRunT tb p w n₀ ann n r.1 r.2
        | none => none
theorem topRun_ofT {tb : String → Option Builtin} {p : Program} {w : World} {n₀ : Nat} {ann : Option Value} : ∀ (n : Nat) (x y : SharedT) (t : Thread), topRunT tb p w n₀ ann n x t = some y → topRun tb p w n₀ ann n x.abs t = some y.abs
  | 0, _, _, _, h => nomatch h
  | n + 1, x, y, t, h => by
    rw [topRunT] at h
    rw [topRun]
    cases c1 : through t with
    | true => rw [c1] at h; injection h with e; rw [e]
    | false =>
      rw [c1] at h
      cases c2 : stepOk n₀ ann t with
      | false => rw [c2] at h; exact nomatch h
      | true =>
        rw [c2] at h
        cases c3 : stepT (denote tb) p w x t with
        | none => rw [c3] at h; exact nomatch h
        | some r => rw [c3] at h; rw [stepT_spec (s' := r.1) (t' := r.2) c3]; exact topRun_ofT n r.1 y r.2 h
def topAsk {α : Type} (p q : Program) (loose : List Str) (Xt : Shared → Bool) (Yf : Shared → α) (B : Params → Heap) (T : Params → BT) (n₀ : Nat) (ann : Option Value) (M : Nat) (life : Params → Life) (d₀ : Drawn) (k₀ : Nat) (w : World) (os : OsState) :=
  (topRunT treeTable p w n₀ ann M ⟨T w.params, n₀, life w.params, Array.mk [], d₀, k₀, os⟩ (topStub p)).map fun x =>
    (staticsOk (importedModules p.main.body) (B w.params) x.abs.heap && namesBound p x.abs.heap && gensDone x.abs && laidKept (B w.params) x.abs.heap, openSeen q loose (importedModules p.main.body) Xt true x.abs, Yf x.abs)
theorem left_of {p q : Program} {loose : List Str} {Xt : Shared → Bool} {α : Type} {Yf : Shared → α} {Ya : World → α} {N M n₀ : Nat} {ann : Option Value} {B : Params → Heap} {T : Params → BT} {life : Params → Life} {d₀ : Drawn} {k₀ : Nat}
    (fo : ∀ w : World, (fencedOpening treeTable p w N).map (fun s => (s.heap, s.gens, s.drawn, s.toks)) = some (B w.params, Array.mk [], d₀, k₀))
    (tr : ∀ P, B P = absHeap (T P) n₀ (life P))
    (sz : ∀ w : World, ((B w.params).isNs mainGlobals && (Array.mk ([] : List GenState)).size == 0, (B w.params).objs.size, (B w.params).nsMap mainGlobals "__annotations__") = (true, n₀, ann)) (le : Nat.ble M N = true)
    (lk : ∀ (w : World) (os : OsState), topAsk p q loose Xt Yf B T n₀ ann M life d₀ k₀ w os = some (true, openGood q loose, Ya w)) : LeftO p q loose Xt Yf Ya N := by
  intro w
  obtain ⟨s0, f1, f2⟩ := Option.map_eq_some_iff.mp (fo w)
  obtain ⟨hp, gn, dr, tk, os⟩ := s0
  injection f2 with i1 f2
  injection f2 with i2 f2
  injection f2 with i3 i4
  dsimp only at i1 i2 i3 i4
  subst i1 i2 i3 i4
  have g1 := congrArg Prod.fst (sz w)
  have g2 := congrArg (fun z => z.2.1) (sz w)
  have g3 := congrArg (fun z => z.2.2) (sz w)
  dsimp only at g1 g2 g3
  obtain ⟨y, r1, l⟩ := Option.map_eq_some_iff.mp (lk w os)
  have l1 := congrArg Prod.fst l
  have l2 := congrArg (fun z => z.2.1) l
  have l3 := congrArg (fun z => z.2.2) l
  dsimp only at l1 l2 l3
  have r2 := topRun_mono (N - M) _ _ _ _ (topRun_ofT _ _ _ _ r1)
  have hN : M + (N - M) = N := Nat.add_sub_cancel' (Nat.le_of_ble_eq_true le)
  rw [hN, show SharedT.abs ⟨T w.params, n₀, life w.params, Array.mk [], dr, tk, os⟩ = (⟨B w.params, Array.mk [], dr, tk, os⟩ : Shared) from by rw [SharedT.abs, ← tr]] at r2
  have t : topFrom treeTable p w N ⟨B w.params, Array.mk [], dr, tk, os⟩ = some y.abs := by
    unfold topFrom
    dsimp only
    rw [g1, g2, g3, r2]
    dsimp only [Option.bind]
    rw [l1]
  rw [openEnds, f1]
  show (topFrom treeTable p w N _).map _ = _
  rw [t]
  exact congrArg some (Prod.ext l2 l3)
end My
set_option Elab.async false
set_option linter.all false
set_option maxRecDepth 100000
set_option maxHeartbeats 4000000
namespace My
open PySem L2 Mth
def top (i : Nat) : Stmt := PySem.Challenge.pw_sharepress_k11_eights_refused.main.body.getD i (.Pass ⟨0, 0, 0, 0⟩)
abbrev s_figures : Stmt := top 8
theorem sc_figures : FnScope ["number", "length"] ["number", "length"] (defScope s_figures) := ⟨rfl, rfl, rfl, by decide +kernel, rfl, by decide +kernel, by decide +kernel⟩
abbrev s__law_at : Stmt := top 15
theorem sc__law_at : FnScope ["_law_script", "_law_k"] ["_law_script", "_law_k"] (defScope s__law_at) := ⟨rfl, rfl, rfl, by decide +kernel, rfl, by decide +kernel, by decide +kernel⟩
abbrev s__law_mixed : Stmt := top 17
theorem sc__law_mixed : FnScope ["_law_script"] ["_law_script"] (defScope s__law_mixed) := ⟨rfl, rfl, rfl, by decide +kernel, rfl, by decide +kernel, by decide +kernel⟩
abbrev s__law_stays_so : Stmt := top 16
theorem sc__law_stays_so : FnScope ["_law_handed", "_law_own", "_law_left", "_law_right", "_law_one", "_law_two"] ["_law_handed", "_law_own"] (defScope s__law_stays_so) := ⟨rfl, rfl, rfl, by decide +kernel, rfl, by decide +kernel, by decide +kernel⟩
abbrev s_check_numbers : Stmt := top 12
theorem sc_check_numbers : FnScope ["numbers", "count", "number"] ["numbers"] (defScope s_check_numbers) := ⟨rfl, rfl, rfl, by decide +kernel, rfl, by decide +kernel, by decide +kernel⟩
abbrev s_unboxed : Stmt := top 13
theorem sc_unboxed : FnScope ["numbers", "bits", "number", "length"] ["numbers"] (defScope s_unboxed) := ⟨rfl, rfl, rfl, by decide +kernel, rfl, by decide +kernel, by decide +kernel⟩
abbrev s__law_refused_so : Stmt := top 18
theorem sc__law_refused_so : FnScope ["_law_row", "e", "_law_under"] ["_law_row"] (defScope s__law_refused_so) := ⟨rfl, rfl, rfl, by decide +kernel, rfl, by decide +kernel, by decide +kernel⟩
abbrev s_law : Stmt := top 19
theorem sc_law : FnScope ["_law_script", "_law_numbers", "_law_last", "_law_way", "_law_spot", "_law_row", "_law_bits", "_law_number", "_law_power", "_law_place", "_law_good", "_law_due", "_law_handed", "_law_found", "_law_refused"] ["_law_script"] (defScope s_law) := ⟨rfl, rfl, rfl, by decide +kernel, rfl, by decide +kernel, by decide +kernel⟩
section
variable {P : Program} {w : World} {K : PySem.W.Frag} {mg : Str → Option Value} {base : Heap} {aS aK : Addr}
theorem ok_figures {f : Addr} {fd : FuncData} (F : Fun K "figures" "figures" s_figures f fd) (T : Txt K mg aS aK) : FnOk P w K mg base CX0 1 f fd ["number", "length"] spFigures := by
  refine F.ok sc_figures (fun vs H Q E h => ?_) (fun cdv A outer s H vs Q E hr h => ?_)
  · obtain ⟨n, L, rfl, _⟩ := h
    rfl
  · obtain ⟨n, L, rfl, hn, hL, k⟩ := h
    have nd := sc_figures.nd
    refine ⟨_, (pss_one (ps_ret (pe_comp ["place", "number"] [none, some 0] rfl .of (pi_range3 rfl T.range (pa_cons (pe_op op_sub (pv 1) pe_int) (pa_cons (pe_un un_neg pe_int) (pa_cons (pe_un un_neg pe_int) pa_nil)))) (fun _ _ _ _ _ => (pg_name (i := 0) (show (["place", "number"] : List Str).Nodup by decide +kernel) rfl (Or.inl rfl))) (fun _ _ _ _ _ => pts_nil) (fun _ _ _ _ _ => (pe_op op_and (pe_op op_shr (pv 1) (pv 0)) pe_int))))), ?_⟩
    refine ⟨_, rfl, _, _, rfl, rfl, _, rfl, _, rfl, (L : Int) - 1, -1, -1, L, rfl, ⟨by decide, by decide⟩, (down_small (by omega)).1, (down_small (by omega)).2, ?_⟩
    let Pv1 : Nat → List V → St → Hp → Prop := fun i acc σ H' => A3 (H' = H) (acc = ((bitsOf n L).take i).map V.int) (∃ x, σ = [x, some (.int n)])
    refine comp_rangeS Pv1 ⟨rfl, rfl, _, rfl⟩ (small_line (by omega)) ?_ ?_ ?_
    · rintro i acc σ H' hi ⟨rfl, rfl, _⟩
      rw [List.length_map, List.length_take]
      exact Nat.min_le_left _ _
    · rintro i acc σ H' hi ⟨rfl, rfl, x, rfl⟩
      have hg : (bitsOf n L)[i]? = some (n / 2 ^ (L - 1 - i) % 2) := by
        unfold bitsOf
        rw [List.getElem?_map, List.getElem?_range hi]
        rfl
      have he : ((L : Int) - 1 + (i : Int) * -1).toNat = L - 1 - i := by omega
      refine ⟨_, rfl, _, rfl, _, _, rfl, rfl, (by show 0 ≤ (L : Int) - 1 + (i : Int) * -1; omega), _, _, rfl, rfl, rfl, ?_, _, rfl⟩
      show List.map V.int _ ++ [V.int (Builtin.bitAnd (n / 2 ^ ((L : Int) - 1 + (i : Int) * -1).toNat) 1)] = _
      rw [he, band_one (Int.ediv_nonneg hn (Int.le_of_lt (two_pos _))), List.take_add_one, hg, List.map_append]
      rfl
    · rintro acc σ H' ⟨rfl, rfl, _⟩ p hp
      refine k _ _ (same_upd hp) ?_
      rw [upd_same, List.take_of_length_le (by rw [bitsOf_length]; exact Nat.le_refl _)]
end
section
variable {P : Program} {w : World} {K : PySem.W.Frag} {mg : Str → Option Value} {base : Heap} {aS aK : Addr}
theorem ok__law_at {f : Addr} {fd : FuncData} (F : Fun K "_law_at" "_law_at" s__law_at f fd) (T : Txt K mg aS aK) : FnOk P w K mg base CX0 1 f fd ["_law_script", "_law_k"] (spAt K) := by
  refine F.ok sc__law_at (fun vs H Q E h => ?_) (fun cdv A outer s H vs Q E hr h => ?_)
  · obtain ⟨l, ns, n, rfl, _⟩ := h
    rfl
  · obtain ⟨l, ns, n, rfl, hl, h0, k⟩ := h
    let X0 : Cx := (cxOf CX0 P w K mg base ["_law_script", "_law_k"] "_law_at" (defScope s__law_at) f cdv A outer s H E).nox
    let R1 : LS X0 ((defBody s__law_at).drop 1) := ⟨_, pss_one (ps_ret pe_int)⟩
    let TTR1 : TS := R1.1
    have HHR1 : PSs X0 ((defBody s__law_at).drop 1) TTR1 := R1.2
    let R2 : LS X0 ((defBody s__law_at)) := ⟨_, pss_cons (ps_if (pt_cmpR op_lt (pv 1) (pe_callB call_len_seq (by rfl) T.len PySem.boot_len (pa_cons (pv 0) pa_nil)) (nomark _))
 (pss_one (ps_ret (pe_ix ix_list (pv 0) (pv 1) (fun _ _ => rfl))))
 pss_nil) HHR1⟩
    let TTR2 : TS := R2.1
    have HHR2 : PSs X0 ((defBody s__law_at)) TTR2 := R2.2
    refine ⟨_, HHR2, ?_⟩
    refine ⟨_, rfl, _, rfl, l, _, rfl, .inl hl, _, _, rfl, rfl, _, rfl, if2 (fun e => ?_) (fun e => ?_)⟩
    · have e : n < ((ns.map V.int).length : Int) := of_decide_eq_true e
      rw [List.length_map] at e
      have hx : (ns.map V.int)[n.toNat]? = some (.int (ns.getD n.toNat 0)) := by
        rw [List.getElem?_map, List.getD_eq_getElem?_getD, List.getElem?_eq_getElem (by omega)]
        rfl
      have := atI_nat hx
      rw [show ((n.toNat : Nat) : Int) = n by omega] at this
      exact ⟨_, rfl, _, rfl, l, _, _, _, rfl, rfl, hl, this, k⟩
    · have e : ¬ n < ((ns.map V.int).length : Int) := of_decide_eq_false e
      rw [List.length_map] at e
      rw [List.getD_eq_getElem?_getD, List.getElem?_eq_none (by omega)] at k
      exact k
theorem ok__law_mixed {f : Addr} {fd : FuncData} (F : Fun K "_law_mixed" "_law_mixed" s__law_mixed f fd) (T : Txt K mg aS aK) : FnOk P w K mg base CX0 1 f fd ["_law_script"] (spMixed K) := by
  refine F.ok sc__law_mixed (fun vs H Q E h => ?_) (fun cdv A outer s H vs Q E hr h => ?_)
  · obtain ⟨l, ns, rfl, _⟩ := h
    rfl
  · obtain ⟨l, ns, rfl, hl, hz, k⟩ := h
    refine ⟨_, (pss_one (ps_ret (pe_comp ["_law_k", "_law_script"] [none, some 0] rfl .of (pi_range1 rfl T.range (pa_cons (pe_callB call_len_seq (by rfl) T.len PySem.boot_len (pa_cons (pv 0) pa_nil)) pa_nil)) (fun _ _ _ _ _ => (pg_name (i := 0) (show (["_law_k", "_law_script"] : List Str).Nodup by decide +kernel) rfl (Or.inl rfl))) (fun _ _ _ _ _ => pts_nil) (fun _ _ _ _ _ => (pe_op op_mod (pe_op op_mulB (pe_op op_add (pe_ix (ix_listK K rfl) (pv 1) (pv 0) (fun _ _ => rfl)) (pe_op op_mulB pe_int (pv 0))) pe_int) pe_int))))), ?_⟩
    have hlen : (ns.map V.int).length = ns.length := List.length_map ..
    refine ⟨_, rfl, l, _, rfl, .inl hl, _, rfl, by omega, by omega, ?_⟩
    rw [show (((ns.map V.int).length : Nat) : Int).toNat = ns.length by omega]
    let Pv2 : Nat → List V → St → Hp → Prop := fun i acc σ H' => A3 (H' = H) ((∃ ms, acc = ms.map V.int ∧ ms.length = i ∧ Cells ms)) (∃ x, σ = [x, some (.ref l)])
    refine comp_range1 (lo := 0) (n := ns.length) Pv2 ⟨rfl, ⟨[], rfl, rfl, fun n h => nomatch h⟩, _, rfl⟩ (small_line (by omega)) ?_ ?_ ?_
    · rintro i acc σ H' hi ⟨rfl, ⟨ms, rfl, hm, _⟩, _⟩
      rw [List.length_map]
      omega
    · rintro i acc σ H' hi ⟨rfl, ⟨ms, rfl, hm, hc⟩, x, rfl⟩
      have hx : (ns.map V.int)[i]? = some (.int (ns.getD i 0)) := by
        rw [List.getElem?_map, List.getD_eq_getElem?_getD, List.getElem?_eq_getElem (by omega)]
        rfl
      have hx := atI_nat hx
      rw [show (i : Int) = (0 : Int) + (i : Int) by omega] at hx
      refine ⟨_, rfl, _, rfl, l, _, _, _, rfl, rfl, hl, hx, _, rfl, _, _, rfl, rfl, IntMulOk.of_left (by decide), _, _, rfl, rfl, _, _, rfl, rfl, IntMulOk.of_right (by decide), _, _, rfl, rfl, (by show (0 : Int) < 1000003; decide), rfl, ⟨ms ++ [(ns.getD i 0 + 7919 * (0 + (i : Int))) * 48271 % 1000003], ?_, ?_, ?_⟩, _, rfl⟩
      · rw [List.map_append]
        rfl
      · rw [List.length_append, hm]
        rfl
      · intro n hn
        rcases List.mem_append.mp hn with hn | hn
        · exact hc n hn
        · have := List.mem_singleton.mp hn
          subst this
          exact ⟨Int.emod_nonneg _ (by decide), Int.emod_lt_of_pos _ (by decide)⟩
    · rintro acc σ H' ⟨rfl, ⟨ms, rfl, hm, hc⟩, _⟩ p hp
      exact k p ms _ (same_upd hp) upd_same hm hc
theorem ok__law_stays_so {f : Addr} {fd : FuncData} (F : Fun K "_law_stays_so" "_law_stays_so" s__law_stays_so f fd) (T : Txt K mg aS aK) : FnOk P w K mg base CX0 1 f fd ["_law_handed", "_law_own"] spStays := by
  refine F.ok sc__law_stays_so (fun vs H Q E h => ?_) (fun cdv A outer s H vs Q E hr h => ?_)
  · obtain ⟨u, v, n, rfl, _⟩ := h
    rfl
  · obtain ⟨u, v, n0, rfl, hA, hn, k⟩ := h
    have nd := sc__law_stays_so.nd
    have hu0 := hr.units0
    let X0 : Cx := (cxOf CX0 P w K mg base ["_law_handed", "_law_own", "_law_left", "_law_right", "_law_one", "_law_two"] "_law_stays_so" (defScope s__law_stays_so) f cdv A outer s H E).nox
    let R1 : LS X0 ((kids ((kids ((defBody s__law_stays_so).getD 2 (.Pass ⟨0, 0, 0, 0⟩)) 0).getD 2 (.Pass ⟨0, 0, 0, 0⟩)) 0).drop 3) := ⟨_, pss_one (ps_expr (pe_bm PySem.F.plainAttrs_list PySem.F.slot_list_extend PySem.F.type_list_extend mt_extend (pv 3) (pa_cons (pe_callTy call_list_of (by rfl) T.list_ PyProof.Rows.boot_list (pa_cons (pv 5) pa_nil)) pa_nil)))⟩
    let TTR1 : TS := R1.1
    have HHR1 : PSs X0 ((kids ((kids ((defBody s__law_stays_so).getD 2 (.Pass ⟨0, 0, 0, 0⟩)) 0).getD 2 (.Pass ⟨0, 0, 0, 0⟩)) 0).drop 3) TTR1 := R1.2
    let R2 : LS X0 ((kids ((kids ((defBody s__law_stays_so).getD 2 (.Pass ⟨0, 0, 0, 0⟩)) 0).getD 2 (.Pass ⟨0, 0, 0, 0⟩)) 0).drop 2) := ⟨_, pss_cons (ps_expr (pe_bm PySem.F.plainAttrs_list PySem.F.slot_list_extend PySem.F.type_list_extend mt_extend (pv 2) (pa_cons (pe_callTy call_list_of (by rfl) T.list_ PyProof.Rows.boot_list (pa_cons (pv 4) pa_nil)) pa_nil))) HHR1⟩
    let TTR2 : TS := R2.1
    have HHR2 : PSs X0 ((kids ((kids ((defBody s__law_stays_so).getD 2 (.Pass ⟨0, 0, 0, 0⟩)) 0).getD 2 (.Pass ⟨0, 0, 0, 0⟩)) 0).drop 2) TTR2 := R2.2
    let R3 : LS X0 ((kids ((kids ((defBody s__law_stays_so).getD 2 (.Pass ⟨0, 0, 0, 0⟩)) 0).getD 2 (.Pass ⟨0, 0, 0, 0⟩)) 0).drop 1) := ⟨_, pss_cons (ps_if (PW.pt (pw_or (pt_cmpR op_ne (pe_callB call_isi (by rfl) T.isinstance PyProof.Rows.boot_isinstance (pa_cons (pv 4) (pa_cons (pe_bltn (v := .ty "tuple") rfl T.tuple_ PyProof.Rows.boot_tuple rfl) pa_nil))) (pe_callB call_isi (by rfl) T.isinstance PyProof.Rows.boot_isinstance (pa_cons (pv 5) (pa_cons (pe_bltn (v := .ty "tuple") rfl T.tuple_ PyProof.Rows.boot_tuple rfl) pa_nil))) (nomark _)) (pw_or1 (pt_cmpR op_ne (pe_callB call_len_seq (by rfl) T.len PySem.boot_len (pa_cons (pv 4) pa_nil)) (pe_callB call_len_seq (by rfl) T.len PySem.boot_len (pa_cons (pv 5) pa_nil)) (nomark _)))))
 (pss_one (ps_ret pe_bl))
 pss_nil) HHR2⟩
    let TTR3 : TS := R3.1
    have HHR3 : PSs X0 ((kids ((kids ((defBody s__law_stays_so).getD 2 (.Pass ⟨0, 0, 0, 0⟩)) 0).getD 2 (.Pass ⟨0, 0, 0, 0⟩)) 0).drop 1) TTR3 := R3.2
    let R4 : LS X0 ((kids ((kids ((defBody s__law_stays_so).getD 2 (.Pass ⟨0, 0, 0, 0⟩)) 0).getD 2 (.Pass ⟨0, 0, 0, 0⟩)) 0)) := ⟨_, pss_cons (ps_if (pt_cmpR op_ne (pe_callB call_isi (by rfl) T.isinstance PyProof.Rows.boot_isinstance (pa_cons (pv 4) (pa_cons (pe_bltn (v := .ty "list") rfl T.list_ PyProof.Rows.boot_list rfl) pa_nil))) (pe_callB call_isi (by rfl) T.isinstance PyProof.Rows.boot_isinstance (pa_cons (pv 5) (pa_cons (pe_bltn (v := .ty "list") rfl T.list_ PyProof.Rows.boot_list rfl) pa_nil))) (nomark _))
 (pss_one (ps_ret pe_bl))
 pss_nil) HHR3⟩
    let TTR4 : TS := R4.1
    have HHR4 : PSs X0 ((kids ((kids ((defBody s__law_stays_so).getD 2 (.Pass ⟨0, 0, 0, 0⟩)) 0).getD 2 (.Pass ⟨0, 0, 0, 0⟩)) 0)) TTR4 := R4.2
    let R5 : LS X0 ((kids ((defBody s__law_stays_so).getD 2 (.Pass ⟨0, 0, 0, 0⟩)) 0).drop 2) := ⟨_, pss_one (ps_if (pt_val (pe_callB call_isi (by rfl) T.isinstance PyProof.Rows.boot_isinstance (pa_cons (pv 5) (pa_cons (pe_tup (pa_cons (pe_bltn (v := .ty "list") rfl T.list_ PyProof.Rows.boot_list rfl) (pa_cons (pe_bltn (v := .ty "tuple") rfl T.tuple_ PyProof.Rows.boot_tuple rfl) pa_nil))) pa_nil))))
 HHR4
 (pss_one (ps_if (pt_val (pe_callB call_isi (by rfl) T.isinstance PyProof.Rows.boot_isinstance (pa_cons (pv 5) (pa_cons (pe_bltn (v := .ty "str") rfl T.str_ PyProof.Rows.boot_str rfl) pa_nil))))
 (pss_one (ps_if (PW.pt (pw_or (pt_not (pt_val (pe_callB call_isi (by rfl) T.isinstance PyProof.Rows.boot_isinstance (pa_cons (pv 4) (pa_cons (pe_bltn (v := .ty "str") rfl T.str_ PyProof.Rows.boot_str rfl) pa_nil))))) (pw_or1 (pt_cmpR op_ne (pv 4) (pv 5) (nomark _)))))
 (pss_one (ps_ret pe_bl))
 pss_nil))
 (pss_one (ps_if (pt_cmp (pc_isN (pv 5)))
 (pss_one (ps_if (pt_cmp (pc_notN (pv 4)))
 (pss_one (ps_ret pe_bl))
 pss_nil))
 (pss_one (ps_if (PW.pt (pw_or (pt_not (pt_val (pe_callB call_isi (by rfl) T.isinstance PyProof.Rows.boot_isinstance (pa_cons (pv 4) (pa_cons (pe_bltn (v := .ty "int") rfl T.int_ PyProof.Rows.boot_int rfl) pa_nil))))) (pw_or (pt_val (pe_callB call_isi (by rfl) T.isinstance PyProof.Rows.boot_isinstance (pa_cons (pv 4) (pa_cons (pe_bltn (v := .ty "bool") rfl T.bool_ PyProof.Rows.boot_bool rfl) pa_nil)))) (pw_or1 (pt_cmpR op_ne (pv 4) (pv 5) (nomark _))))))
 (pss_one (ps_ret pe_bl))
 pss_nil)))))))⟩
    let TTR5 : TS := R5.1
    have HHR5 : PSs X0 ((kids ((defBody s__law_stays_so).getD 2 (.Pass ⟨0, 0, 0, 0⟩)) 0).drop 2) TTR5 := R5.2
    let R6 : LS X0 ((kids ((defBody s__law_stays_so).getD 2 (.Pass ⟨0, 0, 0, 0⟩)) 0).drop 1) := ⟨_, pss_cons (ps_set (i := 5) nd rfl (Or.inl rfl) (pe_bm0 PySem.F.plainAttrs_list PySem.F.slot_list_pop PySem.F.type_list_pop mt_pop (pv 3))) HHR5⟩
    let TTR6 : TS := R6.1
    have HHR6 : PSs X0 ((kids ((defBody s__law_stays_so).getD 2 (.Pass ⟨0, 0, 0, 0⟩)) 0).drop 1) TTR6 := R6.2
    let R7 : LS X0 ((kids ((defBody s__law_stays_so).getD 2 (.Pass ⟨0, 0, 0, 0⟩)) 0)) := ⟨_, pss_cons (ps_set (i := 4) nd rfl (Or.inl rfl) (pe_bm0 PySem.F.plainAttrs_list PySem.F.slot_list_pop PySem.F.type_list_pop mt_pop (pv 2))) HHR6⟩
    let TTR7 : TS := R7.1
    have HHR7 : PSs X0 ((kids ((defBody s__law_stays_so).getD 2 (.Pass ⟨0, 0, 0, 0⟩)) 0)) TTR7 := R7.2
    let R8 : LS X0 ((defBody s__law_stays_so).drop 3) := ⟨_, pss_one (ps_ret pe_bl)⟩
    let TTR8 : TS := R8.1
    have HHR8 : PSs X0 ((defBody s__law_stays_so).drop 3) TTR8 := R8.2
    let R9 : LS X0 ((defBody s__law_stays_so).drop 2) := ⟨_, pss_cons (ps_while PassesOwn.never (pt_cmpR (op_neL hu0) (pv 3) (pe_lst pa_nil) (nomark _))
 HHR7) HHR8⟩
    let TTR9 : TS := R9.1
    have HHR9 : PSs X0 ((defBody s__law_stays_so).drop 2) TTR9 := R9.2
    let R10 : LS X0 ((defBody s__law_stays_so).drop 1) := ⟨_, pss_cons (ps_set (i := 3) nd rfl (Or.inl rfl) (pe_lst (pa_cons (pv 1) pa_nil))) HHR9⟩
    let TTR10 : TS := R10.1
    have HHR10 : PSs X0 ((defBody s__law_stays_so).drop 1) TTR10 := R10.2
    let R11 : LS X0 ((defBody s__law_stays_so)) := ⟨_, pss_cons (ps_set (i := 2) nd rfl (Or.inl rfl) (pe_lst (pa_cons (pv 0) pa_nil))) HHR10⟩
    let TTR11 : TS := R11.1
    have HHR11 : PSs X0 ((defBody s__law_stays_so)) TTR11 := R11.2
    refine ⟨_, HHR11, ?_⟩
    refine ⟨_, rfl, by show 1 ≤ sizeLine; decide, fun l hl => ?_⟩
    refine ⟨_, rfl, by show 1 ≤ sizeLine; decide, fun r hr' => ?_⟩
    have hlr : l ≠ r := fun e => by rw [← e, upd_same] at hr'; cases hr'
    refine ⟨fun n σ H' => ∃ vs us x y, Same H H' ∧ H' l = some (.lst vs) ∧ H' r = some (.lst us) ∧ Alikes H vs us n ∧ n ≤ n0 ∧ σ = [some u, some v, some (.ref l), some (.ref r), x, y],
      ⟨n0, [u], [v], none, none, (same_upd hl).trans (same_upd hr'), by rw [upd_ne hlr, upd_same], upd_same, hA, Nat.le_refl _, rfl⟩, ?_⟩
    rintro n σ H1 ⟨vs, us, x, y, s1, h1, h2, hal, hn0, rfl⟩
    have hH1l : H l = none := hl
    have hH1r : H r = none := by
      cases e : H r with
      | none => rfl
      | some o => exact absurd (same_upd hl _ _ e) (by rw [hr']; exact fun z => nomatch z)
    refine ⟨_, rfl, by show 0 ≤ sizeLine; decide, fun e0 he0 => ?_⟩
    have sE : Same H1 (upd H1 e0 (.lst [])) := same_upd he0
    refine ⟨r, e0, us, [], rfl, rfl, SqL.of (sE _ _ h2), SqL.of upd_same, .inl rfl, _, rfl, ?_⟩
    rcases hal.last with rfl | ⟨vs', us', a, b, n', m, rfl, rfl, hal', hab, rfl⟩
    · -- nothing left
      have : us = [] := List.length_eq_zero_iff.mp hal.length.symm
      subst this
      refine ifF rfl ?_
      exact k _ (s1.trans sE)
    · refine ifT ?_ ?_
      · show (!eqVs (us' ++ [b]) []) = true
        rw [eqVs_len (by simp)]
        rfl
      refine ⟨fun σ' H' => ∃ n'' vs us x y, n'' < n' + m ∧ Same H H' ∧ H' l = some (.lst vs) ∧ H' r = some (.lst us) ∧ Alikes H vs us n'' ∧ σ' = [some u, some v, some (.ref l), some (.ref r), x, y],
        fun σ' H' ⟨n'', vs, us, x, y, q0, q1, q2, q3, q4, q5⟩ => ⟨n'', q0, vs, us, x, y, q1, q2, q3, q4, by omega, q5⟩, ?_⟩
      have h1' := sE _ _ h1
      have h2' := sE _ _ h2
      refine ⟨_, rfl, .inl ⟨rfl, _, SqL.of h1'⟩, l, _, a, rfl, rfl, h1', by simp, ?_⟩
      rw [show (vs' ++ [a]).dropLast = vs' by simp]
      have h2'' : upd (upd H1 e0 (.lst [])) l (.lst vs') r = some (.lst (us' ++ [b])) := by rw [upd_ne (Ne.symm hlr)]; exact h2'
      refine ⟨_, rfl, .inl ⟨rfl, _, SqL.of h2''⟩, r, _, b, rfl, rfl, h2'', by simp, ?_⟩
      rw [show (us' ++ [b]).dropLast = us' by simp]
      generalize hHH : upd (upd (upd H1 e0 (.lst [])) l (.lst vs')) r (.lst us') = H2
      have sH2 : Same H H2 := fun c o e => by
        rw [← hHH, upd_ne (ne_of_none e hH1r), upd_ne (ne_of_none e hH1l)]
        exact (s1.trans sE) c o e
      have l2 : H2 l = some (.lst vs') := by rw [← hHH, upd_ne hlr, upd_same]
      have r2 : H2 r = some (.lst us') := by rw [← hHH, upd_same]
      have hsz := hal.le
      rw [List.length_append, List.length_singleton] at hsz
      have hsz2 := hal.length
      rw [List.length_append, List.length_append, List.length_singleton, List.length_singleton] at hsz2
      refine ⟨_, rfl, by show 2 ≤ sizeLine; decide, fun t ht => ?_⟩
      have s3 : Same H2 (upd H2 t (.tup [.ty "list", .ty "tuple"])) := same_upd ht
      have nlr : ∀ {q : Addr} {o : HO}, H2 q = none → (upd H2 q o) l = some (.lst vs') ∧ (upd H2 q o) r = some (.lst us') := fun hq => ⟨same_upd hq _ _ l2, same_upd hq _ _ r2⟩
      have both : ∀ (xs ys : List V) (m' : Nat), m = m' + 1 → Alikes H xs ys m' → ∀ q1 q2 : V, True := fun _ _ _ _ _ _ _ => trivial
      cases hab with
      | int i _ =>
        refine ⟨_, .ref t, _, false, rfl, .inl (.int i), .inr ⟨t, ["list", "tuple"], rfl, upd_same, kitA_int⟩, _, rfl, iteF ?_⟩
        refine ⟨_, rfl, _, _, _, false, rfl, .inl (.int i), .inl ⟨_, rfl, kit_int_str⟩, _, rfl, iteF ?_⟩
        refine ⟨_, rfl, _, rfl, iteF ?_⟩
        refine ⟨_, rfl, _, _, _, true, rfl, .inl (.int i), .inl ⟨_, rfl, kit_int_int⟩, _, rfl, iteF ?_⟩
        refine ⟨_, rfl, _, _, _, false, rfl, .inl (.int i), .inl ⟨_, rfl, kit_int_bool⟩, _, rfl, iteF ?_⟩
        refine ⟨_, rfl, _, rfl, rfl, _, rfl, ifF (by simp) ?_⟩
        exact ⟨n', vs', us', _, _, by omega, sH2.trans s3, (nlr ht).1, (nlr ht).2, hal', rfl⟩
      | str z _ =>
        refine ⟨_, .ref t, _, false, rfl, .inl (.str z), .inr ⟨t, ["list", "tuple"], rfl, upd_same, kitA_str⟩, _, rfl, iteF ?_⟩
        refine ⟨_, rfl, _, _, _, true, rfl, .inl (.str z), .inl ⟨_, rfl, kit_str_str⟩, _, rfl, iteT ?_⟩
        refine ⟨_, rfl, _, _, _, true, rfl, .inl (.str z), .inl ⟨_, rfl, kit_str_str⟩, _, rfl, iteF ?_⟩
        refine ⟨_, rfl, _, rfl, rfl, _, rfl, ifF (by simp) ?_⟩
        exact ⟨n', vs', us', _, _, by omega, sH2.trans s3, (nlr ht).1, (nlr ht).2, hal', rfl⟩
      | non _ =>
        refine ⟨_, .ref t, _, false, rfl, .inl .non, .inr ⟨t, ["list", "tuple"], rfl, upd_same, kitA_none⟩, _, rfl, iteF ?_⟩
        refine ⟨_, rfl, _, _, _, false, rfl, .inl .non, .inl ⟨_, rfl, kit_none_str⟩, _, rfl, iteF ?_⟩
        refine ⟨_, rfl, _, rfl, iteT ?_⟩
        refine ⟨_, rfl, _, rfl, iteF ?_⟩
        exact ⟨n', vs', us', _, _, by omega, sH2.trans s3, (nlr ht).1, (nlr ht).2, hal', rfl⟩
      | @lst pa pb xs ys _ _ m' _ ea eb hxy hnil =>
        cases hnil
        have ea2 := s3 _ _ (sH2 _ _ ea)
        have eb2 := s3 _ _ (sH2 _ _ eb)
        have hx1 := hxy.le
        have hx2 := hxy.length
        refine ⟨_, .ref t, _, true, rfl, .inl (.lst eb2), .inr ⟨t, ["list", "tuple"], rfl, upd_same, kitA_list⟩, _, rfl, iteT ?_⟩
        refine ⟨_, rfl, _, _, _, true, rfl, .inl (.lst ea2), .inl ⟨_, rfl, kit_list_list⟩, _, rfl, _, _, _, true, rfl, .inl (.lst eb2), .inl ⟨_, rfl, kit_list_list⟩, rfl, _, rfl, iteF ?_⟩
        refine ⟨_, rfl, _, _, _, false, rfl, .inl (.lst ea2), .inl ⟨_, rfl, kit_list_tuple⟩, _, rfl, _, _, _, false, rfl, .inl (.lst eb2), .inl ⟨_, rfl, kit_list_tuple⟩, rfl, _, rfl, iteF ?_⟩
        refine ⟨_, rfl, pa, xs, rfl, .inl (SqL.of ea2), _, rfl, pb, ys, rfl, .inl (SqL.of eb2), rfl, _, rfl, ifF (by rw [hx2]; simp) ?_⟩
        refine ⟨_, rfl, .inl ⟨rfl, _, SqL.of (nlr ht).1⟩, _, rfl, pa, xs, rfl, .inl (SqL.of ea2), fun q hq => ?_⟩
        have s4 : Same (upd H2 t (.tup [.ty "list", .ty "tuple"])) (upd (upd H2 t (.tup [.ty "list", .ty "tuple"])) q (.lst xs)) := same_upd hq
        refine ⟨l, q, vs', xs, rfl, rfl, s4 _ _ (nlr ht).1, upd_same, small_line (by omega), ?_⟩
        generalize hH3 : upd (upd (upd H2 t (.tup [.ty "list", .ty "tuple"])) q (.lst xs)) l (.lst (vs' ++ xs)) = H3
        have s5 : Same H H3 := fun c o e => by
          rw [← hH3, upd_ne (ne_of_none e hH1l)]
          exact s4 _ _ (s3 _ _ (sH2 _ _ e))
        have l3 : H3 l = some (.lst (vs' ++ xs)) := by rw [← hH3, upd_same]
        have r3 : H3 r = some (.lst us') := by rw [← hH3, upd_ne (Ne.symm hlr)]; exact s4 _ _ (nlr ht).2
        refine ⟨_, rfl, .inl ⟨rfl, _, SqL.of r3⟩, _, rfl, pb, ys, rfl, .inl (SqL.of (s5 _ _ eb)), fun q2 hq2 => ?_⟩
        refine ⟨r, q2, us', ys, rfl, rfl, same_upd hq2 _ _ r3, upd_same, small_line (by omega), ?_⟩
        refine ⟨m' + n', vs' ++ xs, us' ++ ys, _, _, by omega, fun c o e => ?_, ?_, upd_same, hal'.append hxy, rfl⟩
        · rw [upd_ne (ne_of_none e hH1r)]
          exact same_upd hq2 _ _ (s5 _ _ e)
        · rw [upd_ne hlr]
          exact same_upd hq2 _ _ l3
      | @tup pa pb xs ys _ _ m' _ ea eb hxy hnil =>
        cases hnil
        have ea2 := s3 _ _ (sH2 _ _ ea)
        have eb2 := s3 _ _ (sH2 _ _ eb)
        have hx1 := hxy.le
        have hx2 := hxy.length
        refine ⟨_, .ref t, _, true, rfl, .inl (.tup eb2), .inr ⟨t, ["list", "tuple"], rfl, upd_same, kitA_tuple⟩, _, rfl, iteT ?_⟩
        refine ⟨_, rfl, _, _, _, false, rfl, .inl (.tup ea2), .inl ⟨_, rfl, kit_tuple_list⟩, _, rfl, _, _, _, false, rfl, .inl (.tup eb2), .inl ⟨_, rfl, kit_tuple_list⟩, rfl, _, rfl, iteF ?_⟩
        refine ⟨_, rfl, _, _, _, true, rfl, .inl (.tup ea2), .inl ⟨_, rfl, kit_tuple_tuple⟩, _, rfl, _, _, _, true, rfl, .inl (.tup eb2), .inl ⟨_, rfl, kit_tuple_tuple⟩, rfl, _, rfl, iteF ?_⟩
        refine ⟨_, rfl, pa, xs, rfl, .inr (SqT.of ea2), _, rfl, pb, ys, rfl, .inr (SqT.of eb2), rfl, _, rfl, ifF (by rw [hx2]; simp) ?_⟩
        refine ⟨_, rfl, .inl ⟨rfl, _, SqL.of (nlr ht).1⟩, _, rfl, pa, xs, rfl, .inr (SqT.of ea2), fun q hq => ?_⟩
        have s4 : Same (upd H2 t (.tup [.ty "list", .ty "tuple"])) (upd (upd H2 t (.tup [.ty "list", .ty "tuple"])) q (.lst xs)) := same_upd hq
        refine ⟨l, q, vs', xs, rfl, rfl, s4 _ _ (nlr ht).1, upd_same, small_line (by omega), ?_⟩
        generalize hH3 : upd (upd (upd H2 t (.tup [.ty "list", .ty "tuple"])) q (.lst xs)) l (.lst (vs' ++ xs)) = H3
        have s5 : Same H H3 := fun c o e => by
          rw [← hH3, upd_ne (ne_of_none e hH1l)]
          exact s4 _ _ (s3 _ _ (sH2 _ _ e))
        have l3 : H3 l = some (.lst (vs' ++ xs)) := by rw [← hH3, upd_same]
        have r3 : H3 r = some (.lst us') := by rw [← hH3, upd_ne (Ne.symm hlr)]; exact s4 _ _ (nlr ht).2
        refine ⟨_, rfl, .inl ⟨rfl, _, SqL.of r3⟩, _, rfl, pb, ys, rfl, .inr (SqT.of (s5 _ _ eb)), fun q2 hq2 => ?_⟩
        refine ⟨r, q2, us', ys, rfl, rfl, same_upd hq2 _ _ r3, upd_same, small_line (by omega), ?_⟩
        refine ⟨m' + n', vs' ++ xs, us' ++ ys, _, _, by omega, fun c o e => ?_, ?_, upd_same, hal'.append hxy, rfl⟩
        · rw [upd_ne (ne_of_none e hH1r)]
          exact same_upd hq2 _ _ (s5 _ _ e)
        · rw [upd_ne hlr]
          exact same_upd hq2 _ _ l3
end
section
variable {P : Program} {w : World} {K : PySem.W.Frag} {mg : Str → Option Value} {base : Heap} {aS aK : Addr} {cl : Cls}
theorem okr_check_numbers {f : Addr} {fd : FuncData} (F : Fun K "check_numbers" "check_numbers" s_check_numbers f fd) (T : Txt K mg aS aK) (T_NoBox : ExcT K mg "NoBox" cl.NX (.ref cl.PE :: VE)) (T_SIZE : ∃ t, mg "SIZE" = some (.int 8 t)) (T_MOST : ∃ t, mg "MOST" = some (.int 255 t)) :
    FnOk P w K mg base (CXR P w) 1 f fd ["numbers"] (spCheckNumsR cl.NX) := by
  refine F.okR sc_check_numbers (fun vs H Q E h => ?_) (fun cdv A outer s H vs Q E hr h => ?_)
  · obtain ⟨l, r, rfl, _⟩ := h
    rfl
  · obtain ⟨l, r, rfl, hl, hn, k, kE⟩ := h
    have nd := sc_check_numbers.nd
    have hrl : (r.map V.int).length = r.length := List.length_map ..
    let X0 : Cx := cxR P w K mg base ["numbers", "count", "number"] "check_numbers" (defScope s_check_numbers) f cdv A outer s H E
    let R1 : LS X0 ((defBody s_check_numbers).drop 5) := ⟨_, pss_one (ps_for PassesOwn.leaving rfl (pi_list (pe_slice sl_list (pv 0) (po_some pe_int) po_none)) (pg_name (i := 2) nd rfl (Or.inl rfl))
 (pss_one (ps_if (PW.pt (pw_or (pt_cmpR op_lt (pv 2) pe_int (nomark _)) (pw_or1 (pt_cmpR op_gt (pv 2) (pe_globI (i := 255) rfl T_MOST) (nomark _)))))
 (pss_one (ps_raise raisesR rfl T_NoBox.g T_NoBox.x PySem.F.excBase_ValueError rfl (pa_cons pe_str pa_nil)))
 pss_nil)))⟩
    let TTR1 : TS := R1.1
    have HHR1 : PSs X0 ((defBody s_check_numbers).drop 5) TTR1 := R1.2
    let R2 : LS X0 ((defBody s_check_numbers).drop 4) := ⟨_, pss_cons (ps_if (PW.pt (pw_and (pt_cmpR op_gt (pv 1) pe_int (nomark _)) (pw_and1 (pt_cmpR op_eq (pe_callB call_len_seq (by rfl) T.len PySem.boot_len (pa_cons (pv 0) pa_nil)) pe_int (nomark _)))))
 (pss_one (ps_raise raisesR rfl T_NoBox.g T_NoBox.x PySem.F.excBase_ValueError rfl (pa_cons pe_str pa_nil)))
 pss_nil) HHR1⟩
    let TTR2 : TS := R2.1
    have HHR2 : PSs X0 ((defBody s_check_numbers).drop 4) TTR2 := R2.2
    let R3 : LS X0 ((defBody s_check_numbers).drop 3) := ⟨_, pss_cons (ps_if (PW.pt (pw_and (pt_cmpR op_eq (pv 1) pe_int (nomark _)) (pw_and1 (pt_cmpR op_gt (pe_callB call_len_seq (by rfl) T.len PySem.boot_len (pa_cons (pv 0) pa_nil)) pe_int (nomark _)))))
 (pss_one (ps_raise raisesR rfl T_NoBox.g T_NoBox.x PySem.F.excBase_ValueError rfl (pa_cons pe_str pa_nil)))
 pss_nil) HHR2⟩
    let TTR3 : TS := R3.1
    have HHR3 : PSs X0 ((defBody s_check_numbers).drop 3) TTR3 := R3.2
    let R4 : LS X0 ((defBody s_check_numbers).drop 2) := ⟨_, pss_cons (ps_if (PW.pt (pw_or (pt_cmpR op_lt (pv 1) pe_int (nomark _)) (pw_or1 (pt_cmpR op_gt (pv 1) (pe_globI (i := 8) rfl T_SIZE) (nomark _)))))
 (pss_one (ps_raise raisesR rfl T_NoBox.g T_NoBox.x PySem.F.excBase_ValueError rfl (pa_cons pe_str pa_nil)))
 pss_nil) HHR3⟩
    let TTR4 : TS := R4.1
    have HHR4 : PSs X0 ((defBody s_check_numbers).drop 2) TTR4 := R4.2
    let R5 : LS X0 ((defBody s_check_numbers).drop 1) := ⟨_, pss_cons (ps_set (i := 1) nd rfl (Or.inl rfl) (pe_ix ix_list (pv 0) pe_int (fun _ _ => rfl))) HHR4⟩
    let TTR5 : TS := R5.1
    have HHR5 : PSs X0 ((defBody s_check_numbers).drop 1) TTR5 := R5.2
    let R6 : LS X0 ((defBody s_check_numbers)) := ⟨_, pss_cons (ps_if (pt_cmpR op_eq (pe_callB call_len_seq (by rfl) T.len PySem.boot_len (pa_cons (pv 0) pa_nil)) pe_int (nomark _))
 (pss_one (ps_raise raisesR rfl T_NoBox.g T_NoBox.x PySem.F.excBase_ValueError rfl (pa_cons pe_str pa_nil)))
 pss_nil) HHR5⟩
    let TTR6 : TS := R6.1
    have HHR6 : PSs X0 ((defBody s_check_numbers)) TTR6 := R6.2
    refine ⟨_, HHR6, ?_⟩
    refine ⟨_, rfl, l, _, rfl, .inl (SqL.of hl), rfl, _, rfl, if2 (fun e => ?_) (fun e => ?_)⟩
    · have e : V.int (((r.map V.int).length : Nat) : Int) = V.int 0 := of_decide_eq_true e
      have e0 : r = [] := by
        injection e with e
        exact List.length_eq_zero_iff.mp (by omega)
      subst e0
      exact ⟨by show 1 ≤ sizeLine; decide, kE chk_nil H (.refl _)⟩
    cases r with
    | nil => exact absurd rfl (of_decide_eq_false e)
    | cons c t =>
      clear e
      rw [chk_cons] at k kE
      refine ⟨_, rfl, l, _, _, .int c, rfl, rfl, SqL.of hl, atI_nat (j := 0) rfl, ?_⟩
      refine ⟨_, rfl, _, _, rfl, rfl, _, rfl, if2 (fun e => ?_) (fun e => ?_)⟩
      · have e : c < 0 := of_decide_eq_true e
        exact ⟨by show 1 ≤ sizeLine; decide, kE (fun z => by omega) H (.refl _)⟩
      have e1 : ¬ c < 0 := of_decide_eq_false e
      refine ⟨_, rfl, _, _, rfl, rfl, _, rfl, if2 (fun e => ?_) (fun e => ?_)⟩
      · have e : c > 8 := of_decide_eq_true e
        exact ⟨by show 1 ≤ sizeLine; decide, kE (fun z => by omega) H (.refl _)⟩
      have e2 : ¬ c > 8 := of_decide_eq_false e
      have hll : ((V.int c :: t.map V.int).length : Int) = (t.length : Int) + 1 := by rw [List.length_cons, List.length_map]; omega
      have tn : t = [] ↔ t.length = 0 := List.length_eq_zero_iff.symm
      by_cases h3 : c = 0 ∧ 0 < t.length
      · refine ⟨_, rfl, rfl, _, rfl, ifT (decide_eq_true (by rw [h3.1])) ⟨_, rfl, l, _, rfl, .inl (SqL.of hl), _, _, rfl, rfl, _, rfl, ifT (decide_eq_true ?_) ⟨by show 1 ≤ sizeLine; decide, kE (fun z => ?_) H (.refl _)⟩⟩⟩
        · show ((V.int c :: t.map V.int).length : Int) > 1
          omega
        · have := z.2.2.1.mp h3.1
          rw [tn] at this
          omega
      refine ⟨_, rfl, rfl, _, rfl, andF (fun e hN => ⟨_, rfl, l, _, rfl, .inl (SqL.of hl), _, _, rfl, rfl, _, rfl, ifF (decide_eq_false ?_) hN⟩) ?_⟩
      · have e : V.int c = V.int 0 := of_decide_eq_true e
        injection e with e
        show ¬ ((V.int c :: t.map V.int).length : Int) > 1
        omega
      by_cases h4 : c > 0 ∧ t.length = 0
      · refine ⟨_, rfl, _, _, rfl, rfl, _, rfl, ifT (decide_eq_true h4.1) ⟨_, rfl, l, _, rfl, .inl (SqL.of hl), rfl, _, rfl, ifT (decide_eq_true ?_) ⟨by show 1 ≤ sizeLine; decide, kE (fun z => ?_) H (.refl _)⟩⟩⟩
        · show V.int ((V.int c :: t.map V.int).length : Int) = V.int 1
          rw [hll, h4.2]
          rfl
        · have := z.2.2.1.mpr (tn.mpr h4.2)
          omega
      refine ⟨_, rfl, _, _, rfl, rfl, _, rfl, andF (fun e hN => ⟨_, rfl, l, _, rfl, .inl (SqL.of hl), rfl, _, rfl, ifF (decide_eq_false ?_) hN⟩) ?_⟩
      · have e : c > 0 := of_decide_eq_true e
        intro e2
        have e2 : V.int ((V.int c :: t.map V.int).length : Int) = V.int 1 := e2
        injection e2 with e2
        omega
      have hc0 : c = 0 ↔ t = [] := by
        rw [tn]
        omega
      refine ⟨_, rfl, _, rfl, l, _, rfl, SqL.of hl, fun p hp => ?_⟩
      rw [show cutV ((c :: t).map V.int) (some 1) none = t.map V.int from cut_tail _ _]
      have sp := same_upd (o := .lst (t.map V.int)) hp
      let Pv4 : Nat → St → Hp → Prop := fun i σ H' => A3 (H' = upd H p (.lst (t.map V.int))) ((∀ x ∈ t.take i, 0 ≤ x ∧ x ≤ 255)) (∃ x, σ = [some (.ref l), some (.int c), x])
      refine ⟨p, rfl, ⟨_, SqL.of upd_same⟩, for_list (K := K) (a := p) (xs := t.map V.int) Pv4
        ⟨rfl, fun x hx => by simp at hx, _, rfl⟩ (by rintro i σ H' _ ⟨e, _⟩; rw [e]; exact SqL.of upd_same) ?_ ?_⟩
      · rintro i x σ H1 hx ⟨rfl, hi, y, rfl⟩
        rw [List.getElem?_map] at hx
        cases hbj : t[i]? with
        | none => rw [hbj] at hx; cases hx
        | some j =>
          rw [hbj] at hx
          cases hx
          have hm := List.mem_of_getElem? hbj
          refine ⟨_, rfl, _, _, rfl, rfl, _, rfl, if2 (fun e => ?_) (fun e => ?_)⟩
          · have e : j < 0 := of_decide_eq_true e
            exact ⟨by show 1 ≤ sizeLine; decide, kE (fun z => by have := z.2.2.2 j hm; omega) _ sp⟩
          have e5 : ¬ j < 0 := of_decide_eq_false e
          refine ⟨_, rfl, _, _, rfl, rfl, _, rfl, if2 (fun e => ?_) (fun e => ?_)⟩
          · have e : j > 255 := of_decide_eq_true e
            exact ⟨by show 1 ≤ sizeLine; decide, kE (fun z => by have := z.2.2.2 j hm; omega) _ sp⟩
          have e6 : ¬ j > 255 := of_decide_eq_false e
          refine ⟨rfl, fun x hx => ?_, _, rfl⟩
          rw [List.take_add_one, hbj] at hx
          rcases List.mem_append.mp hx with hx | hx
          · exact hi x hx
          · have : x = j := by simpa using hx
            omega
      · rintro σ H1 ⟨rfl, hi, _⟩
        rw [List.length_map, List.take_length] at hi
        exact k ⟨by omega, by omega, hc0, hi⟩ _ sp
end
section
variable {P : Program} {w : World} {K : PySem.W.Frag} {mg : Str → Option Value} {base : Heap} {aS aK : Addr} {cl : Cls}
theorem okr_unboxed {f g1 g2 : Addr} {fd gd1 gd2 : FuncData} (F : Fun K "unboxed" "unboxed" s_unboxed f fd) (T : Txt K mg aS aK) (T_NoBox : ExcT K mg "NoBox" cl.NX (.ref cl.PE :: VE)) (T_SIZE : ∃ t, mg "SIZE" = some (.int 8 t))
    (c_check_numbers : CalR P w K mg base 1 "check_numbers" g1 gd1 ["numbers"] (spCheckNumsR cl.NX)) (c_figures : Cal P w K mg base 1 "figures" g2 gd2 ["number", "length"] spFigures) : FnOk P w K mg base (CXR P w) 5 f fd ["numbers"] (spUnboxedR cl.NX) := by
  refine F.okR sc_unboxed (fun vs H Q E h => ?_) (fun cdv A outer s H vs Q E hr h => ?_)
  · obtain ⟨l, r, rfl, _⟩ := h
    rfl
  · obtain ⟨l, r, rfl, hl, hn, k, kE⟩ := h
    have nd := sc_unboxed.nd
    let X0 : Cx := cxR P w K mg base ["numbers", "bits", "number", "length"] "unboxed" (defScope s_unboxed) f cdv A outer s H E
    let R1 : LS X0 ((defBody s_unboxed).drop 6) := ⟨_, pss_one (ps_ret (pe_slice sl_list (pv 1) po_none (po_some (pv 3))))⟩
    let TTR1 : TS := R1.1
    have HHR1 : PSs X0 ((defBody s_unboxed).drop 6) TTR1 := R1.2
    let R2 : LS X0 ((defBody s_unboxed).drop 5) := ⟨_, pss_cons (ps_if (pt_cmpR op_in_seq pe_int (pe_slice sl_list (pv 1) (po_some (pv 3)) po_none) (by with_unfolding_all rfl))
 (pss_one (ps_raise raisesR rfl T_NoBox.g T_NoBox.x PySem.F.excBase_ValueError rfl (pa_cons pe_str pa_nil)))
 pss_nil) HHR1⟩
    let TTR2 : TS := R2.1
    have HHR2 : PSs X0 ((defBody s_unboxed).drop 5) TTR2 := R2.2
    let R3 : LS X0 ((defBody s_unboxed).drop 4) := ⟨_, pss_cons (ps_set (i := 3) nd rfl (Or.inl rfl) (pe_op op_add (pe_op op_sub (pe_callB call_len_seq (by rfl) T.len PySem.boot_len (pa_cons (pv 1) pa_nil)) (pe_globI (i := 8) rfl T_SIZE)) (pe_ix ix_list (pv 0) pe_int (fun _ _ => rfl)))) HHR2⟩
    let TTR3 : TS := R3.1
    have HHR3 : PSs X0 ((defBody s_unboxed).drop 4) TTR3 := R3.2
    let R4 : LS X0 ((defBody s_unboxed).drop 3) := ⟨_, pss_cons (ps_for PassesOwn.leaving rfl (pi_list (pe_slice sl_list (pv 0) (po_some pe_int) po_none)) (pg_name (i := 2) nd rfl (Or.inl rfl))
 (pss_one (ps_expr (pe_bm PySem.F.plainAttrs_list PySem.F.slot_list_extend PySem.F.type_list_extend mt_extend (pv 1) (pa_cons (pe_call c_figures.ok (hr.mono (by decide)) rfl c_figures.mg c_figures.kp c_figures.b .nil pass0 (pa_cons (pv 2) (pa_cons (pe_globI (i := 8) rfl T_SIZE) pa_nil))) pa_nil))))) HHR3⟩
    let TTR4 : TS := R4.1
    have HHR4 : PSs X0 ((defBody s_unboxed).drop 3) TTR4 := R4.2
    let R5 : LS X0 ((defBody s_unboxed).drop 2) := ⟨_, pss_cons (ps_set (i := 1) nd rfl (Or.inl rfl) (pe_lst pa_nil)) HHR4⟩
    let TTR5 : TS := R5.1
    have HHR5 : PSs X0 ((defBody s_unboxed).drop 2) TTR5 := R5.2
    let R6 : LS X0 ((defBody s_unboxed).drop 1) := ⟨_, pss_cons (ps_if (pt_cmpR op_eq (pe_callB call_len_seq (by rfl) T.len PySem.boot_len (pa_cons (pv 0) pa_nil)) pe_int (nomark _))
 (pss_one (ps_ret (pe_lst pa_nil)))
 pss_nil) HHR5⟩
    let TTR6 : TS := R6.1
    have HHR6 : PSs X0 ((defBody s_unboxed).drop 1) TTR6 := R6.2
    let R7 : LS X0 ((defBody s_unboxed)) := ⟨_, pss_cons (ps_expr (pe_call c_check_numbers.ok (hr.mono (by decide)) rfl c_check_numbers.mg c_check_numbers.kp c_check_numbers.b .nil passR (pa_cons (pv 0) pa_nil))) HHR6⟩
    let TTR7 : TS := R7.1
    have HHR7 : PSs X0 ((defBody s_unboxed)) TTR7 := R7.2
    refine ⟨_, HHR7, ?_⟩
    refine ⟨_, rfl, l, r, rfl, hl, hn, fun hc H1 s1 => ?_, fun hc H1 s1 => kE (fun z => hc z.1) H1 s1⟩
    obtain ⟨c, t, rfl, c0, c8, ct, hx⟩ := id hc
    have hll : (((c :: t).map V.int).length : Int) = (t.length : Int) + 1 := by rw [List.length_map, List.length_cons]; omega
    have hl1 : (c :: t).length = t.length + 1 := List.length_cons
    have h1 := s1 _ _ hl
    refine ⟨_, rfl, l, _, rfl, .inl (SqL.of h1), rfl, _, rfl, if2 (fun e => ?_) (fun e => ?_)⟩
    · have e : V.int (((c :: t).map V.int).length : Int) = V.int 1 := of_decide_eq_true e
      have e0 : t = [] := by
        injection e with e
        exact List.length_eq_zero_iff.mp (by omega)
      subst e0
      exact ⟨by show 0 ≤ sizeLine; decide, fun p hp => k ⟨hc, fun z => absurd z (by show ¬ 1 < 0 + 1; omega)⟩ p _ (s1.trans (same_upd hp)) (by rw [show outRow [c] = [] from List.take_nil]; exact upd_same)⟩
    · have htl : t.length ≠ 0 := fun z => of_decide_eq_false e (by rw [hll, z]; rfl)
      have hcp : c ≠ 0 := fun z => htl (List.length_eq_zero_iff.mpr (ct.mp z))
      have hst : stayN (c :: t) = 8 * t.length - 8 + c.toNat := by
        unfold stayN
        show 8 * (t.length + 1 - 1) + c.toNat - 8 = _
        omega
      refine ⟨by show 0 ≤ sizeLine; decide, fun pb hpb => ?_⟩
      have sb := same_upd (o := .lst []) hpb
      have hb0 : upd H1 pb (.lst []) pb = some (.lst []) := upd_same
      have hpbn := hpb
      refine ⟨_, rfl, _, rfl, l, _, rfl, SqL.of (sb _ _ h1), fun p hp => ?_⟩
      rw [cut_tail]
      have hne : p ≠ pb := fun e => by rw [e, upd_same] at hp; cases hp
      have sp := same_upd (o := .lst (t.map V.int)) hp
      have hb1 := sp _ _ hb0
      have s2 := sb.trans sp
      have hp2 : upd (upd H1 pb (.lst [])) p (.lst (t.map V.int)) p = some (.lst (t.map V.int)) := upd_same
      generalize upd (upd H1 pb (.lst [])) p (.lst (t.map V.int)) = H2 at hb1 s2 hp2
      let Pv5 : Nat → St → Hp → Prop := fun i σ H' => A4 (Same H1 H') (H' p = some (.lst (t.map V.int))) (H' pb = some (.lst ((outs (t.take i)).map V.int))) (∃ x, σ = [some (.ref l), some (.ref pb), x, none])
      refine ⟨p, rfl, ⟨_, SqL.of hp2⟩, for_list (K := K) (a := p) (xs := t.map V.int) Pv5
        ⟨s2, hp2, hb1, _, rfl⟩ (by rintro i σ H' _ ⟨_, e, _⟩; exact SqL.of e) ?_ ?_⟩
      · rintro i x σ H3 hxi ⟨s3, hp3, hb3, y, rfl⟩
        rw [List.getElem?_map] at hxi
        cases hbj : t[i]? with
        | none => rw [hbj] at hxi; cases hxi
        | some j =>
          rw [hbj] at hxi
          cases hxi
          have hjr := hx j (List.mem_of_getElem? hbj)
          refine ⟨_, rfl, .inl ⟨rfl, _, SqL.of hb3⟩, _, rfl, _, 8, rfl, hjr.1, by decide, fun pf H4 s4 h4 => ?_⟩
          have hb4 := s4 _ _ hb3
          refine ⟨pb, pf, _, _, rfl, rfl, hb4, h4, ?_, ?_⟩
          · rw [List.length_map, List.length_map, outs_length, bitsOf_length, List.length_take]
            exact small_line (by omega)
          · refine ⟨fun b o e => ?_, ?_, ?_, _, rfl⟩
            · rw [upd_ne (ne_of_none e hpbn)]
              exact s4 _ _ (s3 _ _ e)
            · rw [upd_ne hne]
              exact s4 _ _ hp3
            · rw [upd_same, ← List.map_append, List.take_add_one, hbj]
              show _ = some (HO.lst ((outs (t.take i ++ [j])).map V.int))
              rw [outs_snoc]
      · rintro σ H3 ⟨s3, hp3, hb3, y, rfl⟩
        rw [List.length_map, List.take_length] at hb3
        have hfl : (((outs t).map V.int).length : Int) = 8 * (t.length : Int) := by rw [List.length_map, outs_length]; omega
        refine ⟨_, rfl, pb, _, rfl, .inl (SqL.of hb3), _, _, rfl, rfl, _, rfl, l, _, _, .int c, rfl, rfl, SqL.of (s3 _ _ h1), atI_nat (j := 0) rfl, _, _, rfl, rfl, ?_⟩
        dsimp only
        rw [hfl, show 8 * (t.length : Int) - 8 + c = ((stayN (c :: t) : Nat) : Int) by rw [hst]; omega]
        refine ⟨_, rfl, _, rfl, _, rfl, pb, _, rfl, SqL.of hb3, fun pt hpt => ?_⟩
        rw [cut_rest]
        have st := same_upd (o := .lst (((outs t).drop (stayN (c :: t))).map V.int)) hpt
        refine ⟨pt, _, rfl, .inl (SqL.of upd_same), rfl, ints_flat _, _, rfl, if2 (fun e => ?_) (fun e => ?_)⟩
        · have e := (in_one _).mp e
          exact ⟨by show 1 ≤ sizeLine; decide, kE (fun z => z.2 (by rw [hl1]; omega) e) _ (s1.trans (s3.trans st))⟩
        · have e : ¬ (1 : Int) ∈ (outs t).drop (stayN (c :: t)) := fun z => by
            have e : inV (V.int 1) (((outs t).drop (stayN (c :: t))).map V.int) = false := e
            rw [(in_one _).mpr z] at e
            cases e
          refine ⟨_, rfl, _, rfl, _, rfl, pb, _, rfl, SqL.of (st _ _ hb3), fun pr hpr => ?_⟩
          rw [cut_to]
          exact k ⟨hc, fun _ => e⟩ pr _ (s1.trans (s3.trans (st.trans (same_upd hpr)))) upd_same
end
section
variable {P : Program} {w : World} {K : PySem.W.Frag} {mg : Str → Option Value} {base : Heap} {aS aK : Addr} {cl : Cls}
theorem ok__law_refused_so {f g1 : Addr} {fd gd1 : FuncData} (F : Fun K "_law_refused_so" "_law_refused_so" s__law_refused_so f fd) (T : Txt K mg aS aK) (T_PressError : ExcT K mg "PressError" cl.PE VE) (T_BadModel : ExcT K mg "BadModel" cl.BM (.ref cl.PE :: VE)) (T_NoShare : ExcT K mg "NoShare" cl.NS (.ref cl.PE :: VE)) (T_NoBit : ExcT K mg "NoBit" cl.NB (.ref cl.PE :: VE)) (T_NoBox : ExcT K mg "NoBox" cl.NX (.ref cl.PE :: VE)) (T_NoLine : ExcT K mg "NoLine" cl.NL (.ref cl.PE :: VE)) (T_VE : mg "ValueError" = none) (T_INX : IsiX K cl cl.NX false false false true false)
    (c_unboxed : CalR P w K mg base 5 "unboxed" g1 gd1 ["numbers"] (spUnboxedR cl.NX)) : FnOk P w K mg base CX0 6 f fd ["_law_row"] spRefusedSo := by
  refine F.ok sc__law_refused_so (fun vs H Q E h => ?_) (fun cdv A outer s H vs Q E hr h => ?_)
  · obtain ⟨l, r, rfl, _⟩ := h
    rfl
  · obtain ⟨l, r, rfl, hl, hn, hbad, k⟩ := h
    have nd := sc__law_refused_so.nd
    have hu0 := hr.units0
    let X0 : Cx := (cxOf CX0 P w K mg base ["_law_row", "e", "_law_under"] "_law_refused_so" (defScope s__law_refused_so) f cdv A outer s H E).nox
    let R1 : LS X0 ((defBody s__law_refused_so).drop 1) := ⟨_, pss_one (ps_ret pe_bl)⟩
    let TTR1 : TS := R1.1
    have HHR1 : PSs X0 ((defBody s__law_refused_so).drop 1) TTR1 := R1.2
    let R2 : LS X0 ((defBody s__law_refused_so)) := ⟨_, pss_cons (ps_try rfl rfl (psxs_one (psx_expr (pex_call c_unboxed.ok (hr.mono (by decide)) rfl c_unboxed.mg c_unboxed.kp c_unboxed.b (pa_cons (pv 0) pa_nil))))
 (ph_as (i := 1) nd rfl rfl rfl T_PressError.g T_PressError.e rfl (fun ea D oe hc ok => (pss_cons (ps_set (i := 2) nd rfl (Or.inl rfl) (pe_lst (pa_cons (pe_callB (call_isiEK (X := X0.heldAs ea oe) K rfl List.mem_cons_self hc ok) (by rfl) T.isinstance PyProof.Rows.boot_isinstance (pa_cons (pv 1) (pa_cons (pe_glob (v := .ref cl.BM) rfl T_BadModel.g rfl) pa_nil))) (pa_cons (pe_callB (call_isiEK (X := X0.heldAs ea oe) K rfl List.mem_cons_self hc ok) (by rfl) T.isinstance PyProof.Rows.boot_isinstance (pa_cons (pv 1) (pa_cons (pe_glob (v := .ref cl.NS) rfl T_NoShare.g rfl) pa_nil))) (pa_cons (pe_callB (call_isiEK (X := X0.heldAs ea oe) K rfl List.mem_cons_self hc ok) (by rfl) T.isinstance PyProof.Rows.boot_isinstance (pa_cons (pv 1) (pa_cons (pe_glob (v := .ref cl.NB) rfl T_NoBit.g rfl) pa_nil))) pa_nil)))))
 (pss_cons (ps_set (i := 2) nd rfl (Or.inl rfl) (pe_op op_cat (pv 2) (pe_lst (pa_cons (pe_callB (call_isiEK (X := X0.heldAs ea oe) K rfl List.mem_cons_self hc ok) (by rfl) T.isinstance PyProof.Rows.boot_isinstance (pa_cons (pv 1) (pa_cons (pe_glob (v := .ref cl.NX) rfl T_NoBox.g rfl) pa_nil))) (pa_cons (pe_callB (call_isiEK (X := X0.heldAs ea oe) K rfl List.mem_cons_self hc ok) (by rfl) T.isinstance PyProof.Rows.boot_isinstance (pa_cons (pv 1) (pa_cons (pe_glob (v := .ref cl.NL) rfl T_NoLine.g rfl) pa_nil))) pa_nil)))))
 (pss_one (ps_ret (pe_and (pe_callB (call_isiEK (X := X0.heldAs ea oe) K rfl List.mem_cons_self hc ok) (by rfl) T.isinstance PyProof.Rows.boot_isinstance (pa_cons (pv 1) (pa_cons (pe_bltn (v := .ty "ValueError") rfl T_VE boot_ValueError rfl) pa_nil))) (pe_one (pe_cmpR op_eq (bm_castK (K := K) rfl (pe_bm (X := X0.heldAs ea oe) PySem.F.plainAttrs_list PySem.F.slot_list_count PySem.F.type_list_count (mt_countK K rfl) (pv 2) (pa_cons pe_bl pa_nil))) pe_int (nomark _)))))))))
 ph_nil)) HHR1⟩
    let TTR2 : TS := R2.1
    have HHR2 : PSs X0 ((defBody s__law_refused_so)) TTR2 := R2.2
    refine ⟨_, HHR2, ?_⟩
    refine ⟨_, rfl, l, r, rfl, hl, hn, fun z => absurd z hbad, fun _ H1 s1 => ?_⟩
    refine ⟨cl.NX, _, rfl, T_NoBox.e, ifT (lineT2 _ _) ⟨T_INX.ok, fun ea hea => ?_⟩⟩
    refine ⟨_, rfl, _, _, _, rfl, .inl ⟨_, rfl, rfl⟩, T_INX.b1, _, rfl, _, _, _, rfl, .inl ⟨_, rfl, rfl⟩, T_INX.b2, _, rfl, _, _, _, rfl, .inl ⟨_, rfl, rfl⟩, T_INX.b3, by show 3 ≤ sizeLine; decide, fun u1 hu1 => ?_⟩
    refine ⟨_, rfl, _, rfl, _, _, _, rfl, .inl ⟨_, rfl, rfl⟩, T_INX.b4, _, rfl, _, _, _, rfl, .inl ⟨_, rfl, rfl⟩, T_INX.b5, by show 2 ≤ sizeLine; decide, fun u2 hu2 => ⟨u1, u2, _, _, rfl, rfl, (upd_ne (fun z => by rw [z, upd_same] at hu2; cases hu2)).trans upd_same, upd_same, by show 5 ≤ sizeLine; decide, fun u3 hu3 => ?_⟩⟩
    refine ⟨_, rfl, _, _, _, rfl, .inr ⟨_, rfl, rfl⟩, T_INX.b6, _, rfl, ifT rfl ⟨_, rfl, .inl ⟨rfl, _, SqL.of upd_same⟩, u3, _, _, rfl, rfl, upd_same, rfl, rfl, rfl, ?_⟩⟩
    exact k _ (s1.trans ((same_upd hu1).trans ((same_upd hu2).trans (same_upd hu3))))
end
section
variable {P : Program} {w : World} {K : PySem.W.Frag} {mg : Str → Option Value} {base : Heap} {aS aK : Addr} {cl : Cls}
theorem ok_law {f g1 g2 g3 g4 g5 : Addr} {fd gd1 gd2 gd3 gd4 gd5 : FuncData} (F : Fun K "law" "law" s_law f fd) (T : Txt K mg aS aK) (T_NoBox : ExcT K mg "NoBox" cl.NX (.ref cl.PE :: VE))
    (c__law_mixed : Cal P w K mg base 1 "_law_mixed" g1 gd1 ["_law_script"] (spMixed K)) (c__law_at : Cal P w K mg base 1 "_law_at" g2 gd2 ["_law_script", "_law_k"] (spAt K))
    (c__law_stays_so : Cal P w K mg base 1 "_law_stays_so" g3 gd3 ["_law_handed", "_law_own"] spStays) (c_unboxed : CalR P w K mg base 5 "unboxed" g4 gd4 ["numbers"] (spUnboxedR cl.NX))
    (c__law_refused_so : Cal P w K mg base 6 "_law_refused_so" g5 gd5 ["_law_row"] spRefusedSo) :
    FnOk P w K mg base CX0 7 f fd ["_law_script"] (spLaw K) := by
  refine F.ok sc_law (fun vs H Q E h => ?_) (fun cdv A outer s H vs Q E hr h => ?_)
  · obtain ⟨a, ns, rfl, _⟩ := h
    rfl
  · obtain ⟨a0, ns, rfl, hS, hn, k⟩ := h
    have nd := sc_law.nd
    have hu0 := hr.units0
    let X0 : Cx := (cxOf CX0 P w K mg base ["_law_script", "_law_numbers", "_law_last", "_law_way", "_law_spot", "_law_row", "_law_bits", "_law_number", "_law_power", "_law_place", "_law_good", "_law_due", "_law_handed", "_law_found", "_law_refused"] "law" (defScope s_law) f cdv A outer s H E).nox
    let R1 : LS X0 ((kids ((defBody s_law).getD 4 (.Pass ⟨0, 0, 0, 0⟩)) 0).drop 2) := ⟨_, pss_one (ps_asg (pe_ix ix_list (pe_lst (pa_cons (pe_un un_neg pe_int) (pa_cons pe_int (pa_cons pe_int pa_nil)))) (pe_op op_mod (pe_op op_fdivB (pe_call c__law_at.ok (hr.mono (by decide)) rfl c__law_at.mg c__law_at.kp c__law_at.b .nil pass0 (pa_cons (pv 0) (pa_cons pe_int pa_nil))) pe_int) pe_int) (fun _ _ => rfl)) (pg_sub (pv 1) (pv 4) set_list))⟩
    let TTR1 : TS := R1.1
    have HHR1 : PSs X0 ((kids ((defBody s_law).getD 4 (.Pass ⟨0, 0, 0, 0⟩)) 0).drop 2) TTR1 := R1.2
    let R2 : LS X0 ((kids ((defBody s_law).getD 4 (.Pass ⟨0, 0, 0, 0⟩)) 0).drop 1) := ⟨_, pss_cons (ps_set (i := 4) nd rfl (Or.inl rfl) (pe_op op_mod (pe_call c__law_at.ok (hr.mono (by decide)) rfl c__law_at.mg c__law_at.kp c__law_at.b .nil pass0 (pa_cons (pv 0) (pa_cons pe_int pa_nil))) (pe_callB call_len_seq (by rfl) T.len PySem.boot_len (pa_cons (pv 1) pa_nil)))) HHR1⟩
    let TTR2 : TS := R2.1
    have HHR2 : PSs X0 ((kids ((defBody s_law).getD 4 (.Pass ⟨0, 0, 0, 0⟩)) 0).drop 1) TTR2 := R2.2
    let R3 : LS X0 ((kids ((defBody s_law).getD 4 (.Pass ⟨0, 0, 0, 0⟩)) 0)) := ⟨_, pss_cons (ps_set (i := 2) nd rfl (Or.inl rfl) pe_int) HHR2⟩
    let TTR3 : TS := R3.1
    have HHR3 : PSs X0 ((kids ((defBody s_law).getD 4 (.Pass ⟨0, 0, 0, 0⟩)) 0)) TTR3 := R3.2
    let R4 : LS X0 ((kids ((kids ((defBody s_law).getD 9 (.Pass ⟨0, 0, 0, 0⟩)) 0).getD 1 (.Pass ⟨0, 0, 0, 0⟩)) 0).drop 1) := ⟨_, pss_one (ps_set (i := 8) nd rfl (Or.inl rfl) (pe_op op_fdivB (pv 8) pe_int))⟩
    let TTR4 : TS := R4.1
    have HHR4 : PSs X0 ((kids ((kids ((defBody s_law).getD 9 (.Pass ⟨0, 0, 0, 0⟩)) 0).getD 1 (.Pass ⟨0, 0, 0, 0⟩)) 0).drop 1) TTR4 := R4.2
    let R5 : LS X0 ((kids ((kids ((defBody s_law).getD 9 (.Pass ⟨0, 0, 0, 0⟩)) 0).getD 1 (.Pass ⟨0, 0, 0, 0⟩)) 0)) := ⟨_, pss_cons (ps_expr (pe_bm PySem.F.plainAttrs_list PySem.F.slot_list_append PySem.F.type_list_append mt_append (pv 6) (pa_cons (pe_op op_mod (pe_op op_fdivB (pv 7) (pv 8)) pe_int) pa_nil))) HHR4⟩
    let TTR5 : TS := R5.1
    have HHR5 : PSs X0 ((kids ((kids ((defBody s_law).getD 9 (.Pass ⟨0, 0, 0, 0⟩)) 0).getD 1 (.Pass ⟨0, 0, 0, 0⟩)) 0)) TTR5 := R5.2
    let R6 : LS X0 ((kids ((defBody s_law).getD 9 (.Pass ⟨0, 0, 0, 0⟩)) 0).drop 1) := ⟨_, pss_one (ps_for PassesOwn.never rfl (pi_range1 rfl T.range (pa_cons pe_int pa_nil)) (pg_name (i := 9) nd rfl (Or.inl rfl))
 HHR5)⟩
    let TTR6 : TS := R6.1
    have HHR6 : PSs X0 ((kids ((defBody s_law).getD 9 (.Pass ⟨0, 0, 0, 0⟩)) 0).drop 1) TTR6 := R6.2
    let R7 : LS X0 ((kids ((defBody s_law).getD 9 (.Pass ⟨0, 0, 0, 0⟩)) 0)) := ⟨_, pss_cons (ps_set (i := 8) nd rfl (Or.inl rfl) pe_int) HHR6⟩
    let TTR7 : TS := R7.1
    have HHR7 : PSs X0 ((kids ((defBody s_law).getD 9 (.Pass ⟨0, 0, 0, 0⟩)) 0)) TTR7 := R7.2
    let R8 : LS X0 ((kids ((defBody s_law).getD 14 (.Pass ⟨0, 0, 0, 0⟩)) 0).drop 1) := ⟨_, pss_one (ps_set (i := 10) nd rfl (Or.inl rfl) (pe_cmpR op_notIn_seq pe_int (pe_slice sl_list (pv 6) (po_some (pe_callB call_len_seq (by rfl) T.len PySem.boot_len (pa_cons (pv 11) pa_nil))) po_none) (by with_unfolding_all rfl)))⟩
    let TTR8 : TS := R8.1
    have HHR8 : PSs X0 ((kids ((defBody s_law).getD 14 (.Pass ⟨0, 0, 0, 0⟩)) 0).drop 1) TTR8 := R8.2
    let R9 : LS X0 ((kids ((defBody s_law).getD 14 (.Pass ⟨0, 0, 0, 0⟩)) 0)) := ⟨_, pss_cons (ps_set (i := 11) nd rfl (Or.inl rfl) (pe_slice sl_list (pv 6) po_none (po_some (pe_op op_add (pe_op op_sub (pe_callB call_len_seq (by rfl) T.len PySem.boot_len (pa_cons (pv 6) pa_nil)) pe_int) (pe_ix ix_list (pv 5) pe_int (fun _ _ => rfl)))))) HHR8⟩
    let TTR9 : TS := R9.1
    have HHR9 : PSs X0 ((kids ((defBody s_law).getD 14 (.Pass ⟨0, 0, 0, 0⟩)) 0)) TTR9 := R9.2
    let R10 : LS X0 ((defBody s_law).drop 20) := ⟨_, pss_one (ps_ret (pe_call c__law_stays_so.ok (hr.mono (by decide)) rfl c__law_stays_so.mg c__law_stays_so.kp c__law_stays_so.b .nil pass0 (pa_cons (pv 13) (pa_cons (pv 11) pa_nil))))⟩
    let TTR10 : TS := R10.1
    have HHR10 : PSs X0 ((defBody s_law).drop 20) TTR10 := R10.2
    let R11 : LS X0 ((defBody s_law).drop 19) := ⟨_, pss_cons (ps_if (PW.pt (pw_or (pt_val (pv 14)) (pw_or1 (pt_not (pt_val (pv 10))))))
 (pss_one (ps_ret (pe_and (pv 14) (pe_one (pe_not (pv 10))))))
 pss_nil) HHR10⟩
    let TTR11 : TS := R11.1
    have HHR11 : PSs X0 ((defBody s_law).drop 19) TTR11 := R11.2
    let R12 : LS X0 ((defBody s_law).drop 18) := ⟨_, pss_cons (ps_if (pt_not (pt_val (pe_call c__law_stays_so.ok (hr.mono (by decide)) rfl c__law_stays_so.mg c__law_stays_so.kp c__law_stays_so.b .nil pass0 (pa_cons (pv 12) (pa_cons (pv 5) pa_nil)))))
 (pss_one (ps_ret pe_bl))
 pss_nil) HHR11⟩
    let TTR12 : TS := R12.1
    have HHR12 : PSs X0 ((defBody s_law).drop 18) TTR12 := R12.2
    let R13 : LS X0 ((defBody s_law).drop 17) := ⟨_, pss_cons (ps_try rfl rfl (psxs_one (psx_set (i := 13) nd rfl (Or.inl rfl) (pex_call c_unboxed.ok (hr.mono (by decide)) rfl c_unboxed.mg c_unboxed.kp c_unboxed.b (pa_cons (pv 12) pa_nil))))
 (ph_cons rfl T_NoBox.g T_NoBox.e rfl (fun _ _ => (pss_one (ps_set (i := 14) nd rfl (Or.inl rfl) (pe_call c__law_refused_so.ok ((hr.mono (by decide)).mark _) rfl c__law_refused_so.mg c__law_refused_so.kp c__law_refused_so.b .nil pass0 (pa_cons (pe_callTy (call_list_ofK K rfl) (by rfl) T.list_ PyProof.Rows.boot_list (pa_cons (pv 5) pa_nil)) pa_nil)))))
 ph_nil)) HHR12⟩
    let TTR13 : TS := R13.1
    have HHR13 : PSs X0 ((defBody s_law).drop 17) TTR13 := R13.2
    let R14 : LS X0 ((defBody s_law).drop 16) := ⟨_, pss_cons (ps_asg (pe_tup (pa_cons pe_non (pa_cons pe_bl pa_nil))) (pg_tup rfl (pgs_cons (pg_name (i := 13) nd rfl (Or.inl rfl)) (pgs_cons (pg_name (i := 14) nd rfl (Or.inl rfl)) pgs_nil)))) HHR13⟩
    let TTR14 : TS := R14.1
    have HHR14 : PSs X0 ((defBody s_law).drop 16) TTR14 := R14.2
    let R15 : LS X0 ((defBody s_law).drop 15) := ⟨_, pss_cons (ps_set (i := 12) nd rfl (Or.inl rfl) (pe_callTy call_list_of (by rfl) T.list_ PyProof.Rows.boot_list (pa_cons (pv 5) pa_nil))) HHR14⟩
    let TTR15 : TS := R15.1
    have HHR15 : PSs X0 ((defBody s_law).drop 15) TTR15 := R15.2
    let R16 : LS X0 ((defBody s_law).drop 14) := ⟨_, pss_cons (ps_mid (ps_if (PW.pt (pw_and (pt_val (pv 10)) (pw_and1 (pt_cmpR op_gt (pe_callB call_len_seq (by rfl) T.len PySem.boot_len (pa_cons (pv 5) pa_nil)) pe_int (nomark _)))))
 HHR9
 pss_nil)) HHR15⟩
    let TTR16 : TS := R16.1
    have HHR16 : PSs X0 ((defBody s_law).drop 14) TTR16 := R16.2
    let R17 : LS X0 ((defBody s_law).drop 13) := ⟨_, pss_cons (ps_set (i := 11) nd rfl (Or.inl rfl) (pv 6)) HHR16⟩
    let TTR17 : TS := R17.1
    have HHR17 : PSs X0 ((defBody s_law).drop 13) TTR17 := R17.2
    let R18 : LS X0 ((defBody s_law).drop 12) := ⟨_, pss_cons (ps_for PassesOwn.never rfl (pi_list (pe_slice sl_list (pv 5) (po_some pe_int) po_none)) (pg_name (i := 7) nd rfl (Or.inl rfl))
 (pss_one (ps_set (i := 10) nd rfl (Or.inl rfl) (pe_and (pv 10) (pe_and (pe_cmpR op_le pe_int (pv 7) (nomark _)) (pe_one (pe_cmpR op_le (pv 7) pe_int (nomark _)))))))) HHR17⟩
    let TTR18 : TS := R18.1
    have HHR18 : PSs X0 ((defBody s_law).drop 12) TTR18 := R18.2
    let R19 : LS X0 ((defBody s_law).drop 11) := ⟨_, pss_cons (ps_mid (ps_set (i := 10) nd rfl (Or.inl rfl) (pe_and (pv 10) (pe_one (pe_cmpR op_eq (pe_cmpR op_eq (pe_ix ix_list (pv 5) pe_int (fun _ _ => rfl)) pe_int (nomark _)) (pe_cmpR op_eq (pe_callB call_len_seq (by rfl) T.len PySem.boot_len (pa_cons (pv 5) pa_nil)) pe_int (nomark _)) (nomark _)))))) HHR18⟩
    let TTR19 : TS := R19.1
    have HHR19 : PSs X0 ((defBody s_law).drop 11) TTR19 := R19.2
    let R20 : LS X0 ((defBody s_law).drop 10) := ⟨_, pss_cons (ps_mid (ps_set (i := 10) nd rfl (Or.inl rfl) (pe_and (pe_cmpR (op_neL hu0) (pv 5) (pe_lst pa_nil) (nomark _)) (pe_and (pe_cmpR op_le pe_int (pe_ix ix_list (pv 5) pe_int (fun _ _ => rfl)) (nomark _)) (pe_one (pe_cmpR op_le (pe_ix ix_list (pv 5) pe_int (fun _ _ => rfl)) pe_int (nomark _))))))) HHR19⟩
    let TTR20 : TS := R20.1
    have HHR20 : PSs X0 ((defBody s_law).drop 10) TTR20 := R20.2
    let R21 : LS X0 ((defBody s_law).drop 9) := ⟨_, pss_cons (ps_for PassesOwn.never rfl (pi_list (pe_slice sl_list (pv 5) (po_some pe_int) po_none)) (pg_name (i := 7) nd rfl (Or.inl rfl))
 HHR7) HHR20⟩
    let TTR21 : TS := R21.1
    have HHR21 : PSs X0 ((defBody s_law).drop 9) TTR21 := R21.2
    let R22 : LS X0 ((defBody s_law).drop 8) := ⟨_, pss_cons (ps_set (i := 6) nd rfl (Or.inl rfl) (pe_lst pa_nil)) HHR21⟩
    let TTR22 : TS := R22.1
    have HHR22 : PSs X0 ((defBody s_law).drop 8) TTR22 := R22.2
    let R23 : LS X0 ((defBody s_law).drop 7) := ⟨_, pss_consb (PSb.way2 (i := 5) (pt_cmpR op_eq (pv 3) pe_int (nomark _)) pa_nil (pa_cons pe_int pa_nil) (pa_cons pe_int pa_nil) (pa_cons pe_int (pa_cons pe_int pa_nil)) (pe_op op_mod (pe_call c__law_at.ok (hr.mono (by decide)) rfl c__law_at.mg c__law_at.kp c__law_at.b .nil pass0 (pa_cons (pv 0) (pa_cons pe_int pa_nil))) pe_int) (fun _ _ => rfl) nd rfl rfl) HHR22⟩
    let TTR23 : TS := R23.1
    have HHR23 : PSs X0 ((defBody s_law).drop 7) TTR23 := R23.2
    let R24 : LS X0 ((defBody s_law).drop 6) := ⟨_, pss_cons (ps_set (i := 5) nd rfl (Or.inl rfl) (pe_op op_cat (pe_lst (pa_cons (pv 2) pa_nil)) (pv 1))) HHR23⟩
    let TTR24 : TS := R24.1
    have HHR24 : PSs X0 ((defBody s_law).drop 6) TTR24 := R24.2
    let R25 : LS X0 ((defBody s_law).drop 5) := ⟨_, pss_cons (ps_mid (ps_if (PW.pt (pw_and (pt_cmpR op_gt (pv 3) pe_int (nomark _)) (pw_and1 (pt_cmpR (op_neL hu0) (pv 1) (pe_lst pa_nil) (nomark _)))))
 (pss_one (ps_asg (pe_ix ix_list (pe_lst (pa_cons pe_int (pa_cons pe_int (pa_cons pe_int (pa_cons pe_int pa_nil))))) (pe_op op_mod (pe_call c__law_at.ok (hr.mono (by decide)) rfl c__law_at.mg c__law_at.kp c__law_at.b .nil pass0 (pa_cons (pv 0) (pa_cons pe_int pa_nil))) pe_int) (fun _ _ => rfl)) (pg_sub (pv 1) (pe_un un_neg pe_int) set_list)))
 pss_nil)) HHR24⟩
    let TTR25 : TS := R25.1
    have HHR25 : PSs X0 ((defBody s_law).drop 5) TTR25 := R25.2
    let R26 : LS X0 ((defBody s_law).drop 4) := ⟨_, pss_cons (ps_mid (ps_if (PW.pt (pw_and (pt_cmpR op_eq (pv 3) pe_int (nomark _)) (pw_and1 (pt_cmpR (op_neL hu0) (pv 1) (pe_lst pa_nil) (nomark _)))))
 HHR3
 pss_nil)) HHR25⟩
    let TTR26 : TS := R26.1
    have HHR26 : PSs X0 ((defBody s_law).drop 4) TTR26 := R26.2
    let R27 : LS X0 ((defBody s_law).drop 3) := ⟨_, pss_cons (ps_set (i := 3) nd rfl (Or.inl rfl) (pe_op op_mod (pe_call c__law_at.ok (hr.mono (by decide)) rfl c__law_at.mg c__law_at.kp c__law_at.b .nil pass0 (pa_cons (pv 0) (pa_cons pe_int pa_nil))) pe_int)) HHR26⟩
    let TTR27 : TS := R27.1
    have HHR27 : PSs X0 ((defBody s_law).drop 3) TTR27 := R27.2
    let R28 : LS X0 ((defBody s_law).drop 2) := ⟨_, pss_cons (ps_set (i := 2) nd rfl (Or.inl rfl) (pe_ix ix_list (pe_lst (pa_cons (pe_op op_add pe_int (pe_op op_mod (pe_call c__law_at.ok (hr.mono (by decide)) rfl c__law_at.mg c__law_at.kp c__law_at.b .nil pass0 (pa_cons (pv 0) (pa_cons pe_int pa_nil))) pe_int)) (pa_cons pe_int (pa_cons pe_int (pa_cons pe_int (pa_cons pe_int (pa_cons (pe_un un_neg pe_int) (pa_cons pe_int pa_nil)))))))) (pe_op op_mod (pe_op op_fdivB (pe_call c__law_at.ok (hr.mono (by decide)) rfl c__law_at.mg c__law_at.kp c__law_at.b .nil pass0 (pa_cons (pv 0) (pa_cons pe_int pa_nil))) pe_int) pe_int) (fun _ _ => rfl))) HHR27⟩
    let TTR28 : TS := R28.1
    have HHR28 : PSs X0 ((defBody s_law).drop 2) TTR28 := R28.2
    let R29 : LS X0 ((defBody s_law).drop 1) := ⟨_, pss_cons (ps_comp (i := 1) ["_law_cell"] [none] rfl nd rfl rfl .of (pi_list (pe_slice sl_list (pv 0) (po_some pe_int) (po_some pe_int))) (fun _ _ _ _ _ => (pg_name (i := 0) (show (["_law_cell"] : List Str).Nodup by decide +kernel) rfl (Or.inl rfl))) (fun _ _ _ _ _ => pts_nil) (fun _ _ _ _ _ => (pe_op op_mod (pv 0) pe_int))) HHR28⟩
    let TTR29 : TS := R29.1
    have HHR29 : PSs X0 ((defBody s_law).drop 1) TTR29 := R29.2
    let R30 : LS X0 ((defBody s_law)) := ⟨_, pss_cons (ps_set (i := 0) nd rfl (Or.inl rfl) (pe_call c__law_mixed.ok (hr.mono (by decide)) rfl c__law_mixed.mg c__law_mixed.kp c__law_mixed.b .nil pass0 (pa_cons (pv 0) pa_nil))) HHR29⟩
    let TTR30 : TS := R30.1
    have HHR30 : PSs X0 ((defBody s_law)) TTR30 := R30.2
    refine ⟨_, HHR30, ?_⟩
    refine ⟨_, rfl, a0, ns, rfl, hS, by omega, fun p1 ms H1 s1 h1 hl1 hc1 => ?_⟩
    have hcell : ∀ j, 0 ≤ ms.getD j 0 ∧ ms.getD j 0 < 1000003 := fun j => by
      rw [List.getD_eq_getElem?_getD]
      cases hj : ms[j]? with
      | none => exact ⟨by decide, by decide⟩
      | some q => exact hc1 q (List.mem_of_getElem? hj)
    refine ⟨_, rfl, _, rfl, _, rfl, p1, _, rfl, SqL.of h1, fun p2 hp2 => ?_⟩
    obtain ⟨m2, em2, hm2, _⟩ := cutV_map ms (some 3) (some 203)
    rw [em2]
    let Pv6 : Nat → List V → St → Hp → Prop := fun i acc σ H' => A3 (H' = upd H1 p2 (.lst (m2.map V.int))) (acc = ((m2.take i).map (· % 256)).map V.int) (∃ x, σ = [x])
    refine ⟨p2, rfl, ⟨_, SqL.of upd_same⟩, comp_list1 (K := K) (a := p2) (xs := m2.map V.int) Pv6 ⟨rfl, rfl, _, rfl⟩ (small_line (by rw [List.length_map]; omega)) ?_ ?_ ?_⟩
    · rintro i acc σ H' hi ⟨rfl, rfl, _⟩
      refine ⟨SqL.of upd_same, ?_⟩
      rw [List.length_map, List.length_map, List.length_take]
      exact Nat.min_le_left _ _
    · rintro i x acc σ H' hx ⟨rfl, rfl, y, rfl⟩
      rw [List.getElem?_map] at hx
      cases hmi : m2[i]? with
      | none => rw [hmi] at hx; cases hx
      | some m =>
        rw [hmi] at hx
        cases hx
        refine ⟨_, rfl, _, _, rfl, rfl, (by show (0 : Int) < 256; decide), rfl, ?_, _, rfl⟩
        rw [take_map_snoc hmi]
    rintro acc σ H' ⟨rfl, rfl, _⟩ p3 hp3
    rw [List.length_map, List.take_length]
    have s23 := same_upd (o := .lst (m2.map V.int)) hp2
    have hml : (m2.map (· % 256)).length ≤ 63 := by rw [List.length_map]; omega
    generalize m2.map (· % 256) = m at hml
    have s3 := same_upd (o := .lst (m.map V.int)) hp3
    have h13 := s3 _ _ (s23 _ _ h1)
    have h33 : upd (upd H1 p2 (.lst (m2.map V.int))) p3 (.lst (m.map V.int)) p3 = some (.lst (m.map V.int)) := upd_same
    have hne : p3 ≠ p1 := fun z => by rw [z, s23 _ _ h1] at hp3; cases hp3
    generalize upd (upd H1 p2 (.lst (m2.map V.int))) p3 (.lst (m.map V.int)) = H3 at h13 h33
    clear s3 s23 hp3 hp2 em2 hm2 h1 s1
    have c0 := hcell (Int.toNat 0)
    have c2 := hcell (Int.toNat 2)
    refine ⟨_, rfl, p1, ms, 0, rfl, SqL.of h13, by decide, _, _, rfl, rfl, (by show (0 : Int) < 8; decide), _, _, rfl, rfl, _, rfl, by show 7 ≤ sizeLine; decide, fun q hq => ?_⟩
    obtain ⟨last, _, hat⟩ := at_ints (A := [1 + ms.getD (Int.toNat 0) 0 % 8, 8, 1, 0, 9, -1, 1000000000000]) (j := ms.getD (Int.toNat 0) 0 / 8 % 7) (by omega) (by show _ < (7 : Int); omega)
    have sq := same_upd (o := .lst ([1 + ms.getD (Int.toNat 0) 0 % 8, 8, 1, 0, 9, -1, 1000000000000].map V.int)) hq
    refine ⟨_, rfl, p1, ms, 0, rfl, SqL.of (sq _ _ h13), by decide, _, _, rfl, rfl, ⟨by decide, by decide⟩, _, _, rfl, rfl, (by show (0 : Int) < 7; decide), q, _, _, _, rfl, rfl, SqL.of upd_same, hat, ?_⟩
    refine ⟨_, rfl, p1, ms, 1, rfl, SqL.of (sq _ _ h13), by decide, _, _, rfl, rfl, (by show (0 : Int) < 6; decide), ?_⟩
    obtain ⟨way, hwy⟩ : ∃ z, z = ms.getD (Int.toNat 1) 0 % 6 := ⟨_, rfl⟩
    refine via (C := MidN p1 ms way) ⟨p3, m, last, none, sq _ _ h13, sq _ _ h33, hml, hne, (by rw [hwy]; rfl)⟩ ?_
    clear hwy sq hat h13 h33 hml hne hq
    rintro σ H4 m0
    refine ⟨MidN p1 ms way, ?_, ?_⟩
    · obtain ⟨p, m, last, b4, h1, h2, hm, hne, rfl⟩ := m0
      refine ⟨_, rfl, rfl, _, rfl, if2 (fun e => ?_) (fun e => ⟨p, m, last, b4, h1, h2, hm, hne, rfl⟩)⟩
      refine ⟨_, rfl, by show 0 ≤ sizeLine; decide, fun q hq => ?_⟩
      have sq := same_upd (o := .lst []) hq
      have h1q := sq _ _ h1
      have h2q := sq _ _ h2
      refine ⟨p, q, m.map V.int, [], rfl, rfl, SqL.of h2q, SqL.of upd_same, .inl rfl, _, rfl, if2 (fun e2 => ?_) (fun e2 => ⟨p, m, last, b4, h1q, h2q, hm, hne, rfl⟩)⟩
      have hpos : 0 < m.length := by
        rcases Nat.eq_zero_or_pos m.length with z | z
        · have z : m = [] := List.length_eq_zero_iff.mp z
          subst z
          cases e2
        · exact z
      have hml : (m.map V.int).length = m.length := List.length_map ..
      generalize upd H4 q (.lst []) = H5 at h1q h2q
      refine ⟨_, rfl, p1, ms, 2, rfl, SqL.of h1q, by decide, _, rfl, p, _, rfl, .inl (SqL.of h2q), _, _, rfl, rfl, (by show (0 : Int) < ((m.map V.int).length : Nat); omega), ?_⟩
      obtain ⟨spot, hsp⟩ : ∃ z, z = ms.getD (Int.toNat 2) 0 % (((m.map V.int).length : Nat) : Int) := ⟨_, rfl⟩
      have hs0 : 0 ≤ spot := by rw [hsp]; exact Int.emod_nonneg _ (by omega)
      have hs1 : spot < (m.map V.int).length := by rw [hsp]; exact Int.emod_lt_of_pos _ (by omega)
      subst hsp
      refine ⟨_, rfl, by show 3 ≤ sizeLine; decide, fun q2 hq2 => ?_⟩
      obtain ⟨z, _, hat⟩ := at_ints (A := [-1, 256, 1000000000000]) (j := ms.getD (Int.toNat 2) 0 / 64 % 3) (by omega) (by show _ < (3 : Int); omega)
      have s2 := same_upd (o := .lst ([-1, 256, 1000000000000].map V.int)) hq2
      refine ⟨_, rfl, p1, ms, 2, rfl, SqL.of (s2 _ _ h1q), by decide, _, _, rfl, rfl, ⟨by decide, by decide⟩, _, _, rfl, rfl, (by show (0 : Int) < 3; decide), q2, _, _, _, rfl, rfl, SqL.of upd_same, hat, ?_⟩
      exact ⟨_, rfl, _, rfl, p, _, _, _, rfl, rfl, s2 _ _ h2q, ix_in hs0 hs1, MidN.put (s2 _ _ h1q) hm hne 8 way _⟩
    clear m0
    rintro σ H4 m0
    refine ⟨MidN p1 ms way, ?_, ?_⟩
    · obtain ⟨p, m, last, b4, h1, h2, hm, hne, rfl⟩ := m0
      refine ⟨_, rfl, _, _, rfl, rfl, _, rfl, if2 (fun e => ?_) (fun e => ⟨p, m, last, b4, h1, h2, hm, hne, rfl⟩)⟩
      refine ⟨_, rfl, by show 0 ≤ sizeLine; decide, fun q hq => ?_⟩
      have sq := same_upd (o := .lst []) hq
      have h1q := sq _ _ h1
      have h2q := sq _ _ h2
      refine ⟨p, q, m.map V.int, [], rfl, rfl, SqL.of h2q, SqL.of upd_same, .inl rfl, _, rfl, if2 (fun e2 => ?_) (fun e2 => ⟨p, m, last, b4, h1q, h2q, hm, hne, rfl⟩)⟩
      have hpos : 0 < (m.map V.int).length := by
        rcases Nat.eq_zero_or_pos (m.map V.int).length with z | z
        · rw [List.length_map] at z
          have z : m = [] := List.length_eq_zero_iff.mp z
          subst z
          cases e2
        · exact z
      generalize upd H4 q (.lst []) = H5 at h1q h2q
      refine ⟨by show 4 ≤ sizeLine; decide, fun q2 hq2 => ?_⟩
      obtain ⟨z, _, hat⟩ := at_ints (A := [0, 128, 1, 192]) (j := ms.getD (Int.toNat 2) 0 % 4) (by omega) (by show _ < (4 : Int); omega)
      have s2 := same_upd (o := .lst ([0, 128, 1, 192].map V.int)) hq2
      refine ⟨_, rfl, p1, ms, 2, rfl, SqL.of (s2 _ _ h1q), by decide, _, _, rfl, rfl, (by show (0 : Int) < 4; decide), q2, _, _, _, rfl, rfl, SqL.of upd_same, hat, ?_⟩
      exact ⟨_, rfl, _, rfl, p, _, -1, (m.map V.int).length - 1, rfl, rfl, s2 _ _ h2q, ix_last hpos, MidN.put (s2 _ _ h1q) hm hne last way _⟩
    clear m0
    rintro σ H4 ⟨p, m, last, b4, h1, h2, hm, hne, rfl⟩
    refine ⟨_, rfl, by show 1 ≤ sizeLine; decide, fun q hq => ?_⟩
    have sq := same_upd (o := .lst [.int last]) hq
    refine ⟨_, rfl, q, p, _, _, rfl, rfl, upd_same, sq _ _ h2, ?_, fun pr hpr => ?_⟩
    · rw [List.length_map]
      exact small_line (by show 1 + m.length ≤ _; omega)
    have s5 := same_upd (o := .lst ([.int last] ++ m.map V.int)) hpr
    have h15 := s5 _ _ (sq _ _ h1)
    have hr5 : upd (upd H4 q (.lst [.int last])) pr (.lst ([.int last] ++ m.map V.int)) pr = some (.lst ((last :: m).map V.int)) := upd_same
    generalize upd (upd H4 q (.lst [.int last])) pr (.lst ([.int last] ++ m.map V.int)) = H5 at h15 hr5
    refine ⟨MidR, ?_, ?_⟩
    · refine ⟨_, rfl, rfl, _, rfl, if2 (fun e => ?_) (fun e => ⟨pr, last :: m, _, _, _, _, _, hr5, by show m.length + 1 ≤ 100; omega, rfl⟩)⟩
      refine ⟨by show 0 ≤ sizeLine; decide, fun q0 e0 => ⟨by show 1 ≤ sizeLine; decide, fun q1 e1 => ⟨by show 1 ≤ sizeLine; decide, fun q2 e2 => ⟨by show 2 ≤ sizeLine; decide, fun q3 e3 => ⟨by show 4 ≤ sizeLine; decide, fun q4 e4 => ?_⟩⟩⟩⟩⟩
      have s0 := same_upd (o := .lst []) e0
      have s1 := same_upd (o := .lst [.int 0]) e1
      have s2 := same_upd (o := .lst [.int 8]) e2
      have s3 := same_upd (o := .lst [.int 0, .int 0]) e3
      have s4 := same_upd (o := .lst [.ref q0, .ref q1, .ref q2, .ref q3]) e4
      have k0 := s4 _ _ (s3 _ _ (s2 _ _ (s1 _ _ (upd_same (H := H5) (a := q0) (o := .lst [])))))
      have k1 := s4 _ _ (s3 _ _ (s2 _ _ (upd_same (H := upd H5 q0 (.lst [])) (a := q1) (o := .lst [.int 0]))))
      have k2 := s4 _ _ (s3 _ _ (upd_same (H := upd (upd H5 q0 (.lst [])) q1 (.lst [.int 0])) (a := q2) (o := .lst [.int 8])))
      have k3 := s4 _ _ (upd_same (H := upd (upd (upd H5 q0 (.lst [])) q1 (.lst [.int 0])) q2 (.lst [.int 8])) (a := q3) (o := .lst [.int 0, .int 0]))
      have h1s := s4 _ _ (s3 _ _ (s2 _ _ (s1 _ _ (s0 _ _ h15))))
      have k4 : upd (upd (upd (upd (upd H5 q0 (.lst [])) q1 (.lst [.int 0])) q2 (.lst [.int 8])) q3 (.lst [.int 0, .int 0])) q4 (.lst [.ref q0, .ref q1, .ref q2, .ref q3]) q4 = some (.lst [.ref q0, .ref q1, .ref q2, .ref q3]) := upd_same
      generalize upd (upd (upd (upd (upd H5 q0 (.lst [])) q1 (.lst [.int 0])) q2 (.lst [.int 8])) q3 (.lst [.int 0, .int 0])) q4 (.lst [.ref q0, .ref q1, .ref q2, .ref q3]) = H6 at k0 k1 k2 k3 k4 h1s
      have hj : ms.getD (Int.toNat 2) 0 % 4 = 0 ∨ ms.getD (Int.toNat 2) 0 % 4 = 1 ∨ ms.getD (Int.toNat 2) 0 % 4 = 2 ∨ ms.getD (Int.toNat 2) 0 % 4 = 3 := by omega
      obtain ⟨v, r, hv, hrv, hrl⟩ : ∃ (v : Addr) (r : List Int), atI [V.ref q0, .ref q1, .ref q2, .ref q3] (ms.getD (Int.toNat 2) 0 % 4) = some (.ref v) ∧ H6 v = some (.lst (r.map V.int)) ∧ r.length ≤ 100 := by
        rcases hj with z | z | z | z <;> rw [z]
        · exact ⟨q0, [], atI_nat (j := 0) rfl, k0, by decide⟩
        · exact ⟨q1, [0], atI_nat (j := 1) rfl, k1, by decide⟩
        · exact ⟨q2, [8], atI_nat (j := 2) rfl, k2, by decide⟩
        · exact ⟨q3, [0, 0], atI_nat (j := 3) rfl, k3, by decide⟩
      exact ⟨_, rfl, p1, ms, 2, rfl, SqL.of h1s, by decide, _, _, rfl, rfl, (by show (0 : Int) < 4; decide), q4, _, _, _, rfl, rfl, SqL.of k4, hv, v, r, _, _, _, _, _, hrv, hrl, rfl⟩
    clear hr5 h15
    rintro σ H6 ⟨pr, r, b0, b1, b2, b3, b4', hr6, hrl, rfl⟩
    refine ⟨by show 0 ≤ sizeLine; decide, fun pb hpb => ?_⟩
    have sb := same_upd (o := .lst []) hpb
    refine ⟨_, rfl, _, rfl, pr, _, rfl, SqL.of (sb _ _ hr6), fun pt hpt => ?_⟩
    rw [cut_tl]
    have htl : r.tail.length ≤ 100 := by rw [List.length_tail]; omega
    have hnt : pt ≠ pb := fun e => by rw [e, upd_same] at hpt; cases hpt
    have hnr : pr ≠ pb := fun e => by rw [← e, hr6] at hpb; cases hpb
    have st := same_upd (o := .lst (r.tail.map V.int)) hpt
    have hr7 := st _ _ (sb _ _ hr6)
    have hb7 := st _ _ (upd_same (H := H6) (a := pb) (o := .lst []))
    have ht7 : upd (upd H6 pb (.lst [])) pt (.lst (r.tail.map V.int)) pt = some (.lst (r.tail.map V.int)) := upd_same
    generalize upd (upd H6 pb (.lst [])) pt (.lst (r.tail.map V.int)) = H7 at hr7 hb7 ht7
    let Pv7 : Nat → St → Hp → Prop := fun i σ H' => E3 fun b7 b8 b9 => A4 (H' pr = some (.lst (r.map V.int))) (H' pt = some (.lst (r.tail.map V.int))) (H' pb = some (.lst ((outs (r.tail.take i)).map V.int))) (σ = [b0, b1, b2, b3, b4', some (.ref pr), some (.ref pb), b7, b8, b9, none, none, none, none, none])
    refine ⟨pt, rfl, ⟨_, SqL.of ht7⟩, for_list (K := K) (a := pt) (xs := r.tail.map V.int) Pv7
      ⟨_, _, _, hr7, ht7, hb7, rfl⟩ (by rintro i σ H' _ ⟨_, _, _, _, e, _⟩; exact SqL.of e) ?_ ?_⟩
    · rintro i x σ H8 hx ⟨b7, b8, b9, hr8, ht8, hb8, rfl⟩
      rw [List.getElem?_map] at hx
      cases hti : r.tail[i]? with
      | none => rw [hti] at hx; cases hx
      | some n =>
        rw [hti] at hx
        cases hx
        refine ⟨8, rfl, by decide, by decide, ?_⟩
        let Pv8 : Nat → St → Hp → Prop := fun j σ H' => ∃ b9, A4 (H' pr = some (.lst (r.map V.int))) (H' pt = some (.lst (r.tail.map V.int))) (H' pb = some (.lst ((outs (r.tail.take i) ++ (bitsOf n 8).take j).map V.int))) (σ = [b0, b1, b2, b3, b4', some (.ref pr), some (.ref pb), some (.int n), some (.int (128 / 2 ^ j)), b9, none, none, none, none, none])
        refine for_range Pv8
          ⟨_, hr8, ht8, by rw [hb8, List.take_zero, List.append_nil], rfl⟩ ?_ ?_
        · rintro j σ H9 hj ⟨b9, hr9, ht9, hb9, rfl⟩
          have hj : j < 8 := hj
          refine ⟨_, rfl, .inl ⟨rfl, _, SqL.of hb9⟩, _, rfl, _, rfl, _, _, rfl, rfl, pw_ok j hj, _, _, rfl, rfl, (by show (0 : Int) < 2; decide), pb, _, _, rfl, rfl, hb9, ?_, ?_⟩
          · rw [List.length_map, List.length_append, outs_length, List.length_take, List.length_take]
            exact Nat.lt_of_lt_of_le (show _ < 100000 by omega) (small_line (by decide))
          · refine ⟨_, rfl, _, _, rfl, rfl, ⟨by decide, by decide⟩, some (.int (0 + (j : Int))), ?_, ?_, ?_, ?_⟩
            · rw [upd_ne hnr]; exact hr9
            · rw [upd_ne hnt]; exact ht9
            · rw [upd_same, List.take_add_one, pw_bit n hj]
              simp
            · dsimp only [List.set]
              rw [pw_next hj]
        · rintro σ H9 ⟨b9, hr9, ht9, hb9, rfl⟩
          refine ⟨_, _, _, hr9, ht9, ?_, rfl⟩
          have ei : r.tail.take (i + 1) = r.tail.take i ++ [n] := by rw [List.take_add_one, hti]; rfl
          rw [hb9, ei, outs_snoc, List.take_of_length_le (l := bitsOf n 8) (by rw [bitsOf_length]; exact Nat.le_refl 8)]
    rintro σ H8 ⟨b7, b8, b9, hr8, ht8, hb8, rfl⟩
    rw [List.length_map, List.take_length] at hb8
    clear ht8 ht7 hb7 hr7
    refine ⟨MidG pr pb r (g10 r), ?_, ?_⟩
    · refine ⟨_, rfl, by show 0 ≤ sizeLine; decide, fun q hq => ?_⟩
      have sq := same_upd (o := .lst []) hq
      have hr9 := sq _ _ hr8
      have hb9 := sq _ _ hb8
      refine ⟨pr, q, r.map V.int, [], rfl, rfl, SqL.of hr9, SqL.of upd_same, .inl rfl, _, rfl, ?_⟩
      cases r with
      | nil => exact ifF rfl ⟨_, _, _, _, _, _, _, _, hr9, hb9, rfl⟩
      | cons c t =>
        refine ifT ?_ ⟨_, rfl, pr, _, _, .int c, rfl, rfl, SqL.of hr9, atI_nat (j := 0) rfl, _, _, rfl, rfl, _, rfl, if2 (fun e => ?_) (fun e => ?_)⟩
        · show (!eqVs (V.int c :: t.map V.int) []) = true
          rw [eqVs_len (by simp)]
          rfl
        · have e : 0 ≤ c := of_decide_eq_true e
          refine ⟨_, rfl, pr, _, _, .int c, rfl, rfl, SqL.of hr9, atI_nat (j := 0) rfl, _, _, rfl, rfl, ?_⟩
          exact ⟨_, _, _, _, _, _, _, _, hr9, hb9, by rw [show g10 (c :: t) = decide (c ≤ 8) from by show (decide (0 ≤ c) && decide (c ≤ 8)) = _; rw [decide_eq_true e]; rfl]; rfl⟩
        · have e : ¬ 0 ≤ c := of_decide_eq_false e
          exact ⟨_, _, _, _, _, _, _, _, hr9, hb9, by rw [show g10 (c :: t) = false from by show (decide (0 ≤ c) && decide (c ≤ 8)) = _; rw [decide_eq_false e]; rfl]; rfl⟩
    clear hr8 hb8
    rintro σ H9 ⟨b0, b1, b2, b3, b4, b7, b8, b9, hr9, hb9, rfl⟩
    refine ⟨MidG pr pb r (g11 r), ?_, ?_⟩
    · refine ⟨_, rfl, _, rfl, if2 (fun e => ?_) (fun e => ?_)⟩
      · cases r with
        | nil => cases e
        | cons c t =>
          refine ⟨_, rfl, pr, _, _, .int c, rfl, rfl, SqL.of hr9, atI_nat (j := 0) rfl, rfl, _, rfl, pr, _, rfl, .inl (SqL.of hr9), rfl, rfl, ?_⟩
          exact ⟨_, _, _, _, _, _, _, _, hr9, hb9, by rw [show g11 (c :: t) = decide (V.bl (decide (V.int c = V.int 0)) = V.bl (decide (V.int (((c :: t).map V.int).length : Int) = V.int 1))) from by show (g10 (c :: t) && _) = _; rw [e, Bool.true_and]]; rfl⟩
      · refine ⟨b0, b1, b2, b3, b4, b7, b8, b9, hr9, hb9, ?_⟩
        have : g11 r = false := by
          cases r with
          | nil => rfl
          | cons c t => show (g10 (c :: t) && _) = _; rw [e]; rfl
        rw [this]
        rfl
    rintro σ H10 ⟨b0, b1, b2, b3, b4, b7, b8, b9, hr10, hb10, rfl⟩
    refine ⟨_, rfl, _, rfl, pr, _, rfl, SqL.of hr10, fun pt hpt => ?_⟩
    rw [cut_tl]
    have st := same_upd (o := .lst (r.tail.map V.int)) hpt
    have hr11 := st _ _ hr10
    have hb11 := st _ _ hb10
    have ht11 : upd H10 pt (.lst (r.tail.map V.int)) pt = some (.lst (r.tail.map V.int)) := upd_same
    generalize upd H10 pt (.lst (r.tail.map V.int)) = H11 at hr11 hb11 ht11
    let Pv9 : Nat → St → Hp → Prop := fun i σ H' => ∃ b7, H' = H11 ∧ σ = [b0, b1, b2, b3, b4, some (.ref pr), some (.ref pb), b7, b8, b9, some (.bl (g12 r i)), none, none, none, none]
    refine ⟨pt, rfl, ⟨_, SqL.of ht11⟩, for_list (K := K) (a := pt) (xs := r.tail.map V.int) Pv9
      ⟨_, rfl, by unfold g12; rw [List.take_zero, List.all_nil, Bool.and_true]⟩ (by rintro i σ H' _ ⟨_, e, _⟩; rw [e]; exact SqL.of ht11) ?_ ?_⟩
    · rintro i x σ H12 hx ⟨b7, rfl, rfl⟩
      rw [List.getElem?_map] at hx
      cases hti : r.tail[i]? with
      | none => rw [hti] at hx; cases hx
      | some n =>
        rw [hti] at hx
        cases hx
        refine ⟨_, rfl, _, rfl, if2 (fun e => ?_) (fun e => ⟨_, rfl, by rw [g12_step hti, e]; rfl⟩)⟩
        refine ⟨_, rfl, _, _, rfl, rfl, _, rfl, if2 (fun e2 => ?_) (fun e2 => ⟨_, rfl, by have e2 : decide (0 ≤ n) = false := e2; rw [g12_step hti, e]; unfold inB; rw [e2]; rfl⟩)⟩
        have e2 : decide (0 ≤ n) = true := e2
        exact ⟨_, rfl, _, _, rfl, rfl, _, rfl, by rw [g12_step hti, e]; unfold inB; rw [e2]; rfl⟩
    rintro σ H12 ⟨b7, rfl, rfl⟩
    rw [List.length_map]
    have hchk := g12_chk r
    generalize g12 r r.tail.length = g at hchk
    refine ⟨_, rfl, ?_⟩
    refine ⟨MidD pr r, ?_, ?_⟩
    · refine ⟨_, rfl, _, rfl, if2 (fun e => ?_) (fun e => ?_)⟩
      · have hc := hchk.mp e
        obtain ⟨c, t, rfl, c0, c8, ct, hx⟩ := id hc
        have hll : (((c :: t).map V.int).length : Int) = (t.length : Int) + 1 := by rw [List.length_map, List.length_cons]; omega
        refine ⟨_, rfl, pr, _, rfl, .inl (SqL.of hr11), _, _, rfl, rfl, _, rfl, if2 (fun e2 => ?_) (fun e2 => ?_)⟩
        · have e2 : (((c :: t).map V.int).length : Int) > 1 := of_decide_eq_true e2
          have hcp : c ≠ 0 := fun z => by
            have := ct.mp z
            rw [this] at e2
            exact absurd e2 (by show ¬ ((0 + 1 : Nat) : Int) > 1; decide)
          have hst : 8 * (t.length : Int) - 8 + c = ((stayN (c :: t) : Nat) : Int) := by
            unfold stayN
            show _ = ((8 * (t.length + 1 - 1) + c.toNat - 8 : Nat) : Int)
            omega
          have hfl : (((outs t).map V.int).length : Int) = 8 * (t.length : Int) := by rw [List.length_map, outs_length]; omega
          refine ⟨_, rfl, _, rfl, pb, _, rfl, .inl (SqL.of hb11), _, _, rfl, rfl, _, rfl, pr, _, _, .int c, rfl, rfl, SqL.of hr11, atI_nat (j := 0) rfl, _, _, rfl, rfl, _, rfl, pb, _, rfl, SqL.of hb11, fun pd hpd => ?_⟩
          dsimp only
          rw [show (c :: t).tail = t from rfl, hfl, hst, cut_to]
          have sd := same_upd (o := .lst (((outs t).take (stayN (c :: t))).map V.int)) hpd
          have hb12 := sd _ _ hb11
          have hr12 := sd _ _ hr11
          have hd12 : upd H12 pd (.lst (((outs t).take (stayN (c :: t))).map V.int)) pd = some (.lst (((outs t).take (stayN (c :: t))).map V.int)) := upd_same
          generalize upd H12 pd (.lst (((outs t).take (stayN (c :: t))).map V.int)) = H13 at hb12 hr12 hd12
          have hdl : (((outs t).take (stayN (c :: t))).map V.int).length = stayN (c :: t) := by
            rw [List.length_map, List.length_take, outs_length]
            exact Nat.min_eq_left (stay_le c8)
          refine ⟨_, rfl, _, rfl, pd, _, rfl, .inl (SqL.of hd12), _, rfl, pb, _, rfl, SqL.of hb12, fun pe hpe => ?_⟩
          rw [hdl, show (c :: t).tail = t from rfl, cut_rest]
          have se := same_upd (o := .lst (((outs t).drop (stayN (c :: t))).map V.int)) hpe
          refine ⟨pe, _, rfl, .inl (SqL.of upd_same), rfl, ints_flat _, ?_⟩
          refine ⟨_, _, _, _, _, _, _, _, _, !inV (V.int 1) (((outs t).drop (stayN (c :: t))).map V.int), pd, (outs t).take (stayN (c :: t)), se _ _ hr12, se _ _ hd12, ?_, fun _ => rfl, rfl⟩
          rw [Bool.not_eq_true']
          constructor
          · intro z
            refine ⟨hc, fun _ y => ?_⟩
            have y : (1 : Int) ∈ (outs t).drop (stayN (c :: t)) := y
            rw [(in_one _).mpr y] at z
            cases z
          · intro z
            cases q : inV (V.int 1) (((outs t).drop (stayN (c :: t))).map V.int) with
            | false => rfl
            | true => exact absurd ((in_one _).mp q) (z.2 (by show 1 < t.length + 1; omega))
        · have e2 : ¬ (((c :: t).map V.int).length : Int) > 1 := of_decide_eq_false e2
          have et : t = [] := List.length_eq_zero_iff.mp (by omega)
          subst et
          exact ⟨_, _, _, _, _, _, _, _, _, g, pb, [], hr11, hb11, ⟨fun _ => ⟨hc, fun z => absurd z (by show ¬ 1 < 0 + 1; omega)⟩, fun _ => e⟩, fun _ => List.take_nil.symm, rfl⟩
      · exact ⟨_, _, _, _, _, _, _, _, _, g, pb, outs r.tail, hr11, hb11, ⟨fun z => (by rw [e] at z; cases z), fun z => hchk.mpr z.1⟩, fun z => (by rw [e] at z; cases z), rfl⟩
    clear hchk hr11 hb11 ht11
    rintro σ H14 ⟨b0, b1, b2, b3, b4, b6, b7, b8, b9, g, pd, d, hr14, hd14, hg, hdd, rfl⟩
    refine ⟨_, rfl, pr, _, rfl, .inl (SqL.of hr14), fun ph hph => ?_⟩
    have sh := same_upd (o := .lst (r.map V.int)) hph
    refine ⟨by show 2 ≤ sizeLine; decide, fun pz hpz => ⟨pz, _, rfl, SqT.of upd_same, rfl, _, _, rfl, _, _, rfl, rfl, ?_⟩⟩
    have sz := same_upd (o := .tup [.non, .bl false]) hpz
    have hr15 := sz _ _ (sh _ _ hr14)
    have hd15 := sz _ _ (sh _ _ hd14)
    have hh15 := sz _ _ (upd_same (H := H14) (a := ph) (o := .lst (r.map V.int)))
    generalize upd (upd H14 ph (.lst (r.map V.int))) pz (.tup [.non, .bl false]) = H15 at hr15 hd15 hh15
    refine ⟨_, rfl, ph, r, rfl, hh15, hrl, fun hgd pf H16 s16 hf16 => ?_, fun hgd H16 s16 => ?_⟩
    · have eg : g = true := hg.mpr hgd
      have hr16 := s16 _ _ hr15
      refine ⟨_, rfl, _, rfl, .ref ph, .ref pr, _, rfl, alike_lists (s16 _ _ hh15) hr16, by omega, fun H17 s17 => ⟨true, rfl, ifF rfl ?_⟩⟩
      refine ⟨_, rfl, _, rfl, ifF rfl ⟨_, rfl, _, rfl, ifF (by rw [eg]; rfl) ?_⟩⟩
      have ed := hdd eg
      refine ⟨_, rfl, _, rfl, .ref pf, .ref pd, _, rfl, alike_lists (ns := outRow r) (s17 _ _ hf16) (by rw [← ed]; exact s17 _ _ (s16 _ _ hd15)), ?_, fun H18 s18 => k H18⟩
      have : (outRow r).length ≤ 8 * r.tail.length := by
        unfold outRow
        rw [List.length_take, outs_length]
        omega
      rw [List.length_tail] at this
      omega
    · have eg : g = false := by
        cases q : g with
        | false => rfl
        | true => exact absurd (hg.mp q) hgd
      refine ⟨cl.NX, _, rfl, T_NoBox.e, ifT (lineT _ _) ?_⟩
      have hr16 := s16 _ _ hr15
      refine ⟨_, rfl, pr, _, rfl, .inl (SqL.of hr16), fun pl hpl => ?_⟩
      have sl := same_upd (o := .lst (r.map V.int)) hpl
      refine ⟨pl, r, rfl, upd_same, hrl, hgd, fun H17 s17 => ?_⟩
      refine ⟨_, rfl, _, rfl, .ref ph, .ref pr, _, rfl, alike_lists (s17 _ _ (sl _ _ (s16 _ _ hh15))) (s17 _ _ (sl _ _ hr16)), by omega, fun H18 s18 => ⟨true, rfl, ifF rfl ?_⟩⟩
      refine ⟨_, rfl, _, rfl, ifT rfl ?_⟩
      refine ⟨_, rfl, _, rfl, ifT rfl ⟨_, rfl, _, rfl, ?_⟩⟩
      rw [eg]
      exact k H18
end
theorem bnd__law_at {K : PySem.W.Frag} {f : Addr} {fd : FuncData} (F : Fun K "_law_at" "_law_at" s__law_at f fd) : Binds K fd ["_law_script", "_law_k"] [] := F.binds (ps := ["_law_script", "_law_k"]) fun _ _ _ _ _ _ us hl => bnd2 (fun _ _ => rfl) us hl
theorem bnd__law_mixed {K : PySem.W.Frag} {f : Addr} {fd : FuncData} (F : Fun K "_law_mixed" "_law_mixed" s__law_mixed f fd) : Binds K fd ["_law_script"] [] := F.binds (ps := ["_law_script"]) fun _ _ _ _ _ _ us hl => bnd1 (fun _ => rfl) us hl
theorem bnd__law_stays_so {K : PySem.W.Frag} {f : Addr} {fd : FuncData} (F : Fun K "_law_stays_so" "_law_stays_so" s__law_stays_so f fd) : Binds K fd ["_law_handed", "_law_own"] [] := F.binds (ps := ["_law_handed", "_law_own"]) fun _ _ _ _ _ _ us hl => bnd2 (fun _ _ => rfl) us hl
theorem bnd_figures {K : PySem.W.Frag} {f : Addr} {fd : FuncData} (F : Fun K "figures" "figures" s_figures f fd) : Binds K fd ["number", "length"] [] := F.binds (ps := ["number", "length"]) fun _ _ _ _ _ _ us hl => bnd2 (fun _ _ => rfl) us hl
theorem bnd_check_numbers {K : PySem.W.Frag} {f : Addr} {fd : FuncData} (F : Fun K "check_numbers" "check_numbers" s_check_numbers f fd) : Binds K fd ["numbers"] [] := F.binds (ps := ["numbers"]) fun _ _ _ _ _ _ us hl => bnd1 (fun _ => rfl) us hl
theorem bnd_unboxed {K : PySem.W.Frag} {f : Addr} {fd : FuncData} (F : Fun K "unboxed" "unboxed" s_unboxed f fd) : Binds K fd ["numbers"] [] := F.binds (ps := ["numbers"]) fun _ _ _ _ _ _ us hl => bnd1 (fun _ => rfl) us hl
theorem bnd__law_refused_so {K : PySem.W.Frag} {f : Addr} {fd : FuncData} (F : Fun K "_law_refused_so" "_law_refused_so" s__law_refused_so f fd) : Binds K fd ["_law_row"] [] := F.binds (ps := ["_law_row"]) fun _ _ _ _ _ _ us hl => bnd1 (fun _ => rfl) us hl
theorem bnd_law {K : PySem.W.Frag} {f : Addr} {fd : FuncData} (F : Fun K "law" "law" s_law f fd) : Binds K fd ["_law_script"] [] := F.binds (ps := ["_law_script"]) fun _ _ _ _ _ _ us hl => bnd1 (fun _ => rfl) us hl
theorem all_mk {l : PySem.W.OpenLaw} {w : World} {K : PySem.W.Frag} {h : Heap} {mg : Str → Option Value} {fa : Addr} {f__law_at f__law_mixed f__law_stays_so f_figures f_check_numbers f_unboxed f__law_refused_so f_law cPE cBM cNS cNB cNX cNL : Addr} (X : K.In h) (G : h.Ns mainGlobals mg) (hfa : mg "law" = some (.ref fa))
    {tkSIZE : Tok} (g_SIZE : PySem.W.nsIn K mainGlobals "SIZE" = some (some (.int 8 tkSIZE)))
    {tkMOST : Tok} (g_MOST : PySem.W.nsIn K mainGlobals "MOST" = some (some (.int 255 tkMOST)))
    {od__law_at an__law_at : Option Addr} {sl__law_at : Array (Option Value)} {oc__law_at kV__law_at dc__law_at pm__law_at cd__law_at ct__law_at : Value} (a__law_at : PySem.W.nsIn K mainGlobals "_law_at" = some (some (.ref f__law_at))) (l__law_at : K.lookup f__law_at = some ⟨oc__law_at, od__law_at, .func (PySem.W.fnOf "_law_at" "_law_at" (defArgs s__law_at) (defBody s__law_at) (defScope s__law_at) .none kV__law_at dc__law_at pm__law_at an__law_at cd__law_at ct__law_at), sl__law_at⟩) (cc__law_at : PySem.W.codeIn K cd__law_at "_law_at" = true) (k__law_at : PySem.W.keepIn K (.ref f__law_at) = true)
    {od__law_mixed an__law_mixed : Option Addr} {sl__law_mixed : Array (Option Value)} {oc__law_mixed kV__law_mixed dc__law_mixed pm__law_mixed cd__law_mixed ct__law_mixed : Value} (a__law_mixed : PySem.W.nsIn K mainGlobals "_law_mixed" = some (some (.ref f__law_mixed))) (l__law_mixed : K.lookup f__law_mixed = some ⟨oc__law_mixed, od__law_mixed, .func (PySem.W.fnOf "_law_mixed" "_law_mixed" (defArgs s__law_mixed) (defBody s__law_mixed) (defScope s__law_mixed) .none kV__law_mixed dc__law_mixed pm__law_mixed an__law_mixed cd__law_mixed ct__law_mixed), sl__law_mixed⟩) (cc__law_mixed : PySem.W.codeIn K cd__law_mixed "_law_mixed" = true) (k__law_mixed : PySem.W.keepIn K (.ref f__law_mixed) = true)
    {od__law_stays_so an__law_stays_so : Option Addr} {sl__law_stays_so : Array (Option Value)} {oc__law_stays_so kV__law_stays_so dc__law_stays_so pm__law_stays_so cd__law_stays_so ct__law_stays_so : Value} (a__law_stays_so : PySem.W.nsIn K mainGlobals "_law_stays_so" = some (some (.ref f__law_stays_so))) (l__law_stays_so : K.lookup f__law_stays_so = some ⟨oc__law_stays_so, od__law_stays_so, .func (PySem.W.fnOf "_law_stays_so" "_law_stays_so" (defArgs s__law_stays_so) (defBody s__law_stays_so) (defScope s__law_stays_so) .none kV__law_stays_so dc__law_stays_so pm__law_stays_so an__law_stays_so cd__law_stays_so ct__law_stays_so), sl__law_stays_so⟩) (cc__law_stays_so : PySem.W.codeIn K cd__law_stays_so "_law_stays_so" = true) (k__law_stays_so : PySem.W.keepIn K (.ref f__law_stays_so) = true)
    {od_figures an_figures : Option Addr} {sl_figures : Array (Option Value)} {oc_figures kV_figures dc_figures pm_figures cd_figures ct_figures : Value} (a_figures : PySem.W.nsIn K mainGlobals "figures" = some (some (.ref f_figures))) (l_figures : K.lookup f_figures = some ⟨oc_figures, od_figures, .func (PySem.W.fnOf "figures" "figures" (defArgs s_figures) (defBody s_figures) (defScope s_figures) .none kV_figures dc_figures pm_figures an_figures cd_figures ct_figures), sl_figures⟩) (cc_figures : PySem.W.codeIn K cd_figures "figures" = true) (k_figures : PySem.W.keepIn K (.ref f_figures) = true)
    {od_check_numbers an_check_numbers : Option Addr} {sl_check_numbers : Array (Option Value)} {oc_check_numbers kV_check_numbers dc_check_numbers pm_check_numbers cd_check_numbers ct_check_numbers : Value} (a_check_numbers : PySem.W.nsIn K mainGlobals "check_numbers" = some (some (.ref f_check_numbers))) (l_check_numbers : K.lookup f_check_numbers = some ⟨oc_check_numbers, od_check_numbers, .func (PySem.W.fnOf "check_numbers" "check_numbers" (defArgs s_check_numbers) (defBody s_check_numbers) (defScope s_check_numbers) .none kV_check_numbers dc_check_numbers pm_check_numbers an_check_numbers cd_check_numbers ct_check_numbers), sl_check_numbers⟩) (cc_check_numbers : PySem.W.codeIn K cd_check_numbers "check_numbers" = true) (k_check_numbers : PySem.W.keepIn K (.ref f_check_numbers) = true)
    {od_unboxed an_unboxed : Option Addr} {sl_unboxed : Array (Option Value)} {oc_unboxed kV_unboxed dc_unboxed pm_unboxed cd_unboxed ct_unboxed : Value} (a_unboxed : PySem.W.nsIn K mainGlobals "unboxed" = some (some (.ref f_unboxed))) (l_unboxed : K.lookup f_unboxed = some ⟨oc_unboxed, od_unboxed, .func (PySem.W.fnOf "unboxed" "unboxed" (defArgs s_unboxed) (defBody s_unboxed) (defScope s_unboxed) .none kV_unboxed dc_unboxed pm_unboxed an_unboxed cd_unboxed ct_unboxed), sl_unboxed⟩) (cc_unboxed : PySem.W.codeIn K cd_unboxed "unboxed" = true) (k_unboxed : PySem.W.keepIn K (.ref f_unboxed) = true)
    {od__law_refused_so an__law_refused_so : Option Addr} {sl__law_refused_so : Array (Option Value)} {oc__law_refused_so kV__law_refused_so dc__law_refused_so pm__law_refused_so cd__law_refused_so ct__law_refused_so : Value} (a__law_refused_so : PySem.W.nsIn K mainGlobals "_law_refused_so" = some (some (.ref f__law_refused_so))) (l__law_refused_so : K.lookup f__law_refused_so = some ⟨oc__law_refused_so, od__law_refused_so, .func (PySem.W.fnOf "_law_refused_so" "_law_refused_so" (defArgs s__law_refused_so) (defBody s__law_refused_so) (defScope s__law_refused_so) .none kV__law_refused_so dc__law_refused_so pm__law_refused_so an__law_refused_so cd__law_refused_so ct__law_refused_so), sl__law_refused_so⟩) (cc__law_refused_so : PySem.W.codeIn K cd__law_refused_so "_law_refused_so" = true) (k__law_refused_so : PySem.W.keepIn K (.ref f__law_refused_so) = true)
    {od_law an_law : Option Addr} {sl_law : Array (Option Value)} {oc_law kV_law dc_law pm_law cd_law ct_law : Value} (a_law : PySem.W.nsIn K mainGlobals "law" = some (some (.ref f_law))) (l_law : K.lookup f_law = some ⟨oc_law, od_law, .func (PySem.W.fnOf "law" "law" (defArgs s_law) (defBody s_law) (defScope s_law) .none kV_law dc_law pm_law an_law cd_law ct_law), sl_law⟩) (cc_law : PySem.W.codeIn K cd_law "law" = true) (k_law : PySem.W.keepIn K (.ref f_law) = true)
    {nmPE qPE : Str} {NPE : Addr} {bsPE subPE : List Value} {hdPE abPE : Bool} {snPE : List Str} {colPE : Option Bool} {ddPE : Option Addr} {kaPE kbPE kcPE kdPE kePE : Option Value} {niPE : String} (a_PressError : PySem.W.nsIn K mainGlobals "PressError" = some (some (.ref cPE))) (l_PressError : K.lookup cPE = some (excClassObj nmPE qPE cPE NPE bsPE VE hdPE snPE subPE abPE colPE ddPE kaPE kbPE kcPE kdPE kePE niPE)) (x_PressError : PySem.W.excIn K cPE VE "ValueError.__new__" = true)
    {nmBM qBM : Str} {NBM : Addr} {bsBM subBM : List Value} {hdBM abBM : Bool} {snBM : List Str} {colBM : Option Bool} {ddBM : Option Addr} {kaBM kbBM kcBM kdBM keBM : Option Value} {niBM : String} (a_BadModel : PySem.W.nsIn K mainGlobals "BadModel" = some (some (.ref cBM))) (l_BadModel : K.lookup cBM = some (excClassObj nmBM qBM cBM NBM bsBM (.ref cPE :: VE) hdBM snBM subBM abBM colBM ddBM kaBM kbBM kcBM kdBM keBM niBM)) (x_BadModel : PySem.W.excIn K cBM VE "ValueError.__new__" = true)
    {nmNS qNS : Str} {NNS : Addr} {bsNS subNS : List Value} {hdNS abNS : Bool} {snNS : List Str} {colNS : Option Bool} {ddNS : Option Addr} {kaNS kbNS kcNS kdNS keNS : Option Value} {niNS : String} (a_NoShare : PySem.W.nsIn K mainGlobals "NoShare" = some (some (.ref cNS))) (l_NoShare : K.lookup cNS = some (excClassObj nmNS qNS cNS NNS bsNS (.ref cPE :: VE) hdNS snNS subNS abNS colNS ddNS kaNS kbNS kcNS kdNS keNS niNS)) (x_NoShare : PySem.W.excIn K cNS VE "ValueError.__new__" = true)
    {nmNB qNB : Str} {NNB : Addr} {bsNB subNB : List Value} {hdNB abNB : Bool} {snNB : List Str} {colNB : Option Bool} {ddNB : Option Addr} {kaNB kbNB kcNB kdNB keNB : Option Value} {niNB : String} (a_NoBit : PySem.W.nsIn K mainGlobals "NoBit" = some (some (.ref cNB))) (l_NoBit : K.lookup cNB = some (excClassObj nmNB qNB cNB NNB bsNB (.ref cPE :: VE) hdNB snNB subNB abNB colNB ddNB kaNB kbNB kcNB kdNB keNB niNB)) (x_NoBit : PySem.W.excIn K cNB VE "ValueError.__new__" = true)
    {nmNX qNX : Str} {NNX : Addr} {bsNX subNX : List Value} {hdNX abNX : Bool} {snNX : List Str} {colNX : Option Bool} {ddNX : Option Addr} {kaNX kbNX kcNX kdNX keNX : Option Value} {niNX : String} (a_NoBox : PySem.W.nsIn K mainGlobals "NoBox" = some (some (.ref cNX))) (l_NoBox : K.lookup cNX = some (excClassObj nmNX qNX cNX NNX bsNX (.ref cPE :: VE) hdNX snNX subNX abNX colNX ddNX kaNX kbNX kcNX kdNX keNX niNX)) (x_NoBox : PySem.W.excIn K cNX VE "ValueError.__new__" = true)
    {nmNL qNL : Str} {NNL : Addr} {bsNL subNL : List Value} {hdNL abNL : Bool} {snNL : List Str} {colNL : Option Bool} {ddNL : Option Addr} {kaNL kbNL kcNL kdNL keNL : Option Value} {niNL : String} (a_NoLine : PySem.W.nsIn K mainGlobals "NoLine" = some (some (.ref cNL))) (l_NoLine : K.lookup cNL = some (excClassObj nmNL qNL cNL NNL bsNL (.ref cPE :: VE) hdNL snNL subNL abNL colNL ddNL kaNL kbNL kcNL kdNL keNL niNL)) (x_NoLine : PySem.W.excIn K cNL VE "ValueError.__new__" = true)
    (iNX_ga : PySem.W.findIn K (.ref cNX) "__getattribute__" = some (some (.builtin "BaseException.__getattribute__")))
    (iNX_gt : PySem.W.findIn K (.ref cNX) "__getattr__" = some none)
    (iNX_mB : PySem.W.mroIn K cNX (.type "BaseException") = some true)
    (iNX_mO : PySem.W.mroIn K cNX (.type "object") = some true)
    (iNX_ha : PySem.W.findIn K (.ref cNX) "__class__" = some (some (.builtin "object.__class__")))
    (iNX_hn : PySem.W.specialIn K (.builtin "object.__class__") "__get__" = some (some (.builtin "getset_descriptor.__get__")))
    (iNX_tk : PySem.W.takesIn K (.builtin "object.__class__") = some true)
    (jNX_0 : PySem.W.kitOne K (.ref cNX) (.ref cBM) = some false)
    (jNX_1 : PySem.W.kitOne K (.ref cNX) (.ref cNS) = some false)
    (jNX_2 : PySem.W.kitOne K (.ref cNX) (.ref cNB) = some false)
    (jNX_3 : PySem.W.kitOne K (.ref cNX) (.ref cNX) = some true)
    (jNX_4 : PySem.W.kitOne K (.ref cNX) (.ref cNL) = some false)
    (jNX_5 : PySem.W.kitOne K (.ref cNX) (.type "ValueError") = some true)
    (z_len : PySem.W.nsIn K mainGlobals "len" = some none) (z_sum : PySem.W.nsIn K mainGlobals "sum" = some none) (z_min : PySem.W.nsIn K mainGlobals "min" = some none) (z_isinstance : PySem.W.nsIn K mainGlobals "isinstance" = some none) (z_range : PySem.W.nsIn K mainGlobals "range" = some none) (z_int : PySem.W.nsIn K mainGlobals "int" = some none) (z_list : PySem.W.nsIn K mainGlobals "list" = some none) (z_tuple : PySem.W.nsIn K mainGlobals "tuple" = some none) (z_str : PySem.W.nsIn K mainGlobals "str" = some none) (z_bool : PySem.W.nsIn K mainGlobals "bool" = some none) (z_reversed : PySem.W.nsIn K mainGlobals "reversed" = some none) (z_sorted : PySem.W.nsIn K mainGlobals "sorted" = some none) (z_ValueError : PySem.W.nsIn K mainGlobals "ValueError" = some none) :
    ∃ fd : FuncData, (∀ (s : Shared) (v : Value), BindsTo s fd ⟨[v], []⟩ [("_law_script", v)]) ∧ ∀ base : Heap, K.In base → base.Ns mainGlobals mg → FnOk l.prog w K mg base CX0 7 fa fd ["_law_script"] (spLaw K) := by
  have e := hfa.symm.trans (PySem.W.mg_of X G a_law)
  cases e
  have aS : Addr := 0
  have aK : Addr := 0
  have T : Txt K mg aS aK := ⟨PySem.W.mg_none_of X G z_len, PySem.W.mg_none_of X G z_sum, PySem.W.mg_none_of X G z_min, PySem.W.mg_none_of X G z_isinstance, PySem.W.mg_none_of X G z_range, PySem.W.mg_none_of X G z_int, PySem.W.mg_none_of X G z_list, PySem.W.mg_none_of X G z_tuple, PySem.W.mg_none_of X G z_str, PySem.W.mg_none_of X G z_bool, PySem.W.mg_none_of X G z_reversed, PySem.W.mg_none_of X G z_sorted⟩
  have T_SIZE : ∃ t, mg "SIZE" = some (.int 8 t) := ⟨_, PySem.W.mg_of X G g_SIZE⟩
  have T_MOST : ∃ t, mg "MOST" = some (.int 255 t) := ⟨_, PySem.W.mg_of X G g_MOST⟩
  have F__law_at := fun_mk (st := s__law_at) l__law_at cc__law_at k__law_at
  have b__law_at := bnd__law_at F__law_at
  have F__law_mixed := fun_mk (st := s__law_mixed) l__law_mixed cc__law_mixed k__law_mixed
  have b__law_mixed := bnd__law_mixed F__law_mixed
  have F__law_stays_so := fun_mk (st := s__law_stays_so) l__law_stays_so cc__law_stays_so k__law_stays_so
  have b__law_stays_so := bnd__law_stays_so F__law_stays_so
  have F_figures := fun_mk (st := s_figures) l_figures cc_figures k_figures
  have b_figures := bnd_figures F_figures
  have F_check_numbers := fun_mk (st := s_check_numbers) l_check_numbers cc_check_numbers k_check_numbers
  have b_check_numbers := bnd_check_numbers F_check_numbers
  have F_unboxed := fun_mk (st := s_unboxed) l_unboxed cc_unboxed k_unboxed
  have b_unboxed := bnd_unboxed F_unboxed
  have F__law_refused_so := fun_mk (st := s__law_refused_so) l__law_refused_so cc__law_refused_so k__law_refused_so
  have b__law_refused_so := bnd__law_refused_so F__law_refused_so
  have F_law := fun_mk (st := s_law) l_law cc_law k_law
  have b_law := bnd_law F_law
  refine ⟨PySem.W.fnOf "law" "law" (defArgs s_law) (defBody s_law) (defScope s_law) .none kV_law dc_law pm_law an_law cd_law ct_law, fun s v => .of_eq rfl, fun base _ _ => ?_⟩
  let cl : Cls := ⟨cPE, cBM, cNS, cNB, cNX, cNL⟩
  have T_PressError : ExcT K mg "PressError" cl.PE VE := ⟨PySem.W.mg_of X G a_PressError, x_PressError, ⟨_, _, _, _, _, _, _, _, _, _, _, _, _, _, _, _, l_PressError⟩⟩
  have T_BadModel : ExcT K mg "BadModel" cl.BM (.ref cl.PE :: VE) := ⟨PySem.W.mg_of X G a_BadModel, x_BadModel, ⟨_, _, _, _, _, _, _, _, _, _, _, _, _, _, _, _, l_BadModel⟩⟩
  have T_NoShare : ExcT K mg "NoShare" cl.NS (.ref cl.PE :: VE) := ⟨PySem.W.mg_of X G a_NoShare, x_NoShare, ⟨_, _, _, _, _, _, _, _, _, _, _, _, _, _, _, _, l_NoShare⟩⟩
  have T_NoBit : ExcT K mg "NoBit" cl.NB (.ref cl.PE :: VE) := ⟨PySem.W.mg_of X G a_NoBit, x_NoBit, ⟨_, _, _, _, _, _, _, _, _, _, _, _, _, _, _, _, l_NoBit⟩⟩
  have T_NoBox : ExcT K mg "NoBox" cl.NX (.ref cl.PE :: VE) := ⟨PySem.W.mg_of X G a_NoBox, x_NoBox, ⟨_, _, _, _, _, _, _, _, _, _, _, _, _, _, _, _, l_NoBox⟩⟩
  have T_NoLine : ExcT K mg "NoLine" cl.NL (.ref cl.PE :: VE) := ⟨PySem.W.mg_of X G a_NoLine, x_NoLine, ⟨_, _, _, _, _, _, _, _, _, _, _, _, _, _, _, _, l_NoLine⟩⟩
  have T_VE : mg "ValueError" = none := PySem.W.mg_none_of X G z_ValueError
  have T_INX : IsiX K cl cl.NX false false false true false := ⟨⟨iNX_ga, iNX_gt, iNX_mB, iNX_mO, iNX_ha, iNX_hn, iNX_tk⟩, jNX_0, jNX_1, jNX_2, jNX_3, jNX_4, jNX_5⟩
  have C__law_at : Cal l.prog w K mg base 1 "_law_at" f__law_at _ ["_law_script", "_law_k"] (spAt K) := ⟨ok__law_at F__law_at T, PySem.W.mg_of X G a__law_at, k__law_at, b__law_at⟩
  have C__law_mixed : Cal l.prog w K mg base 1 "_law_mixed" f__law_mixed _ ["_law_script"] (spMixed K) := ⟨ok__law_mixed F__law_mixed T, PySem.W.mg_of X G a__law_mixed, k__law_mixed, b__law_mixed⟩
  have C__law_stays_so : Cal l.prog w K mg base 1 "_law_stays_so" f__law_stays_so _ ["_law_handed", "_law_own"] spStays := ⟨ok__law_stays_so F__law_stays_so T, PySem.W.mg_of X G a__law_stays_so, k__law_stays_so, b__law_stays_so⟩
  have C_figures : Cal l.prog w K mg base 1 "figures" f_figures _ ["number", "length"] spFigures := ⟨ok_figures F_figures T, PySem.W.mg_of X G a_figures, k_figures, b_figures⟩
  have C_check_numbers : CalR l.prog w K mg base 1 "check_numbers" f_check_numbers _ ["numbers"] (spCheckNumsR cl.NX) := ⟨okr_check_numbers F_check_numbers T T_NoBox T_SIZE T_MOST, PySem.W.mg_of X G a_check_numbers, k_check_numbers, b_check_numbers⟩
  have C_unboxed : CalR l.prog w K mg base 5 "unboxed" f_unboxed _ ["numbers"] (spUnboxedR cl.NX) := ⟨okr_unboxed F_unboxed T T_NoBox T_SIZE C_check_numbers C_figures, PySem.W.mg_of X G a_unboxed, k_unboxed, b_unboxed⟩
  have C__law_refused_so : Cal l.prog w K mg base 6 "_law_refused_so" f__law_refused_so _ ["_law_row"] spRefusedSo := ⟨ok__law_refused_so F__law_refused_so T T_PressError T_BadModel T_NoShare T_NoBit T_NoBox T_NoLine T_VE T_INX C_unboxed, PySem.W.mg_of X G a__law_refused_so, k__law_refused_so, b__law_refused_so⟩
  exact ok_law F_law T T_NoBox C__law_mixed C__law_at C__law_stays_so C_unboxed C__law_refused_so
theorem walk_law {l : PySem.W.OpenLaw} {q : Program} {loose : List Str} {XP : (Str → Option Value) → Heap → Prop} {YP : World → Heap → Prop} {d : DefRec} {K : Params → PySem.W.Frag} (hn : l.most = some 63) (hdf : d.params.defaults = [])
    (hY : ∀ (w : World) (h : Heap), YP w h → (K w.params).In h)
    (F : ∀ (w : World) (mg : Str → Option Value) (fa : Addr) (h : Heap), (K w.params).In h → h.Ns mainGlobals mg → mg d.name = some (.ref fa) →
      ∃ fd : FuncData, (∀ (s : Shared) (u : Value), BindsTo s fd ⟨[u], []⟩ [("_law_script", u)]) ∧ ∀ base : Heap, (K w.params).In base → base.Ns mainGlobals mg → FnOk l.prog w (K w.params) mg base CX0 7 fa fd ["_law_script"] (spLaw (K w.params))) :
    PySem.W.WalkO q loose XP YP l.row.toRowW d [] (fun f vs => PySem.call f vs) :=
  L2.walk_of (n := 63) (k := 7) (x := "_law_script") (CX := fun _ => CX0) (sp := fun w => spLaw (K w.params)) hn (by decide) hdf ⟨by decide, by decide⟩ hY F (fun _ _ a ns hl _ hS => ⟨a, ns, rfl, hS, hl, fun _ => rfl⟩) fun _ _ _ _ _ z => z
section
open PySem.W
abbrev kC (n : Str) (a b c : Nat) (i1 i2 i3 i4 i5 : Int) (v1 : Value) (i6 : Int) (v2 v3 v4 v5 v6 : Value) (i7 i8 : Int) (d : Nat) : Obj := ⟨.type "code", none, .fields #[.str n a, .str n b, .str "/claim/cut.py" c, .int i1 0, .int i2 0, .int i3 0, .int i4 0, .int i5 0, v1, .bool true, .int i6 0, v2, v3, v4, v5, v6, .int i7 0, .int i8 0, .str "/claim/cut.py" d], #[]⟩
abbrev kF (n : Str) (st : Stmt) (m : Str) (t : Nat) (c : Addr) : Obj := ⟨.type "function", none, .func (PySem.W.fnOf n n (defArgs st) (defBody st) (defScope st) .none .none .none (.str m t) none (.ref c) .none), #[]⟩
abbrev kE (P : Params) (n : Str) (t : Nat) (v : Value) : DictEntry := ⟨PyData.keyHash P n, .str n t, v⟩
def kFrag (P : Params) : Frag :=
  (nat_lit 3, ⟨.type "dict", none, .dict #[kE P "__name__" 165 (.str "law_sharepress_k11_eights_refused" 320), kE P "__doc__" 166 (.none), kE P "__package__" 167 (.none), kE P "__loader__" 168 (.builtin "__main__.__loader__#opaque"), kE P "__spec__" 169 (.none), kE P "__annotations__" 170 (.ref 6), kE P "__builtins__" 171 (.ref 4), kE P "__file__" 173 (.str "/claim/cut.py" 172), kE P "__cached__" 174 (.none), kE P "PressError" 206 (.ref 24), kE P "BadModel" 222 (.ref 37), kE P "NoShare" 238 (.ref 49), kE P "NoBit" 254 (.ref 61), kE P "NoBox" 270 (.ref 73), kE P "NoLine" 286 (.ref 85), kE P "figures" 294 (.ref 92), kE P "SIZE" 298 (.int (8) 297), kE P "MOST" 300 (.int (255) 299), kE P "check_numbers" 309 (.ref 99), kE P "unboxed" 319 (.ref 106), kE P "_law_at" 329 (.ref 113), kE P "_law_stays_so" 341 (.ref 120), kE P "_law_mixed" 347 (.ref 125), kE P "_law_refused_so" 356 (.ref 132), kE P "law" 362 (.ref 137)] 25, #[]⟩) ::
  (nat_lit 23, ⟨.type "dict", none, .dict #[kE P "__module__" 196 (.str "sharepress.errors" 187), kE P "__firstlineno__" 200 (.int (2) 199), kE P "__static_attributes__" 201 (.ref 22), kE P "__weakref__" 203 (.ref 25), kE P "__doc__" 204 (.none)] 3, #[]⟩) ::
  (nat_lit 24, ⟨.type "type", none, .cls { name := "PressError", bases := [.type "ValueError"], mro := [.ref 24, .type "ValueError", .type "Exception", .type "BaseException", .type "object"], ns := 23, qualname := "PressError", hasDict := true, slotNames := [], subclasses := [.ref 37, .ref 49, .ref 61, .ref 73, .ref 85], abstract := false, collection := none, hasDel := false }, #[(some (.ref 15)), none, (some (.str "PressError" 189)), (some (.str "PressError" 197)), (some (.builtin "ValueError.__new__")), (some (.bool true))]⟩) ::
  (nat_lit 36, ⟨.type "dict", none, .dict #[kE P "__module__" 214 (.str "sharepress.errors" 187), kE P "__firstlineno__" 218 (.int (4) 217), kE P "__static_attributes__" 219 (.ref 35), kE P "__doc__" 220 (.none)] 2, #[]⟩) ::
  (nat_lit 37, ⟨.type "type", none, .cls { name := "BadModel", bases := [.ref 24], mro := [.ref 37, .ref 24, .type "ValueError", .type "Exception", .type "BaseException", .type "object"], ns := 36, qualname := "BadModel", hasDict := true, slotNames := [], subclasses := [], abstract := false, collection := none, hasDel := false }, #[(some (.ref 28)), none, (some (.str "BadModel" 207)), (some (.str "BadModel" 215)), (some (.builtin "ValueError.__new__")), (some (.bool true))]⟩) ::
  (nat_lit 48, ⟨.type "dict", none, .dict #[kE P "__module__" 230 (.str "sharepress.errors" 187), kE P "__firstlineno__" 234 (.int (6) 233), kE P "__static_attributes__" 235 (.ref 47), kE P "__doc__" 236 (.none)] 2, #[]⟩) ::
  (nat_lit 49, ⟨.type "type", none, .cls { name := "NoShare", bases := [.ref 24], mro := [.ref 49, .ref 24, .type "ValueError", .type "Exception", .type "BaseException", .type "object"], ns := 48, qualname := "NoShare", hasDict := true, slotNames := [], subclasses := [], abstract := false, collection := none, hasDel := false }, #[(some (.ref 40)), none, (some (.str "NoShare" 223)), (some (.str "NoShare" 231)), (some (.builtin "ValueError.__new__")), (some (.bool true))]⟩) ::
  (nat_lit 60, ⟨.type "dict", none, .dict #[kE P "__module__" 246 (.str "sharepress.errors" 187), kE P "__firstlineno__" 250 (.int (8) 249), kE P "__static_attributes__" 251 (.ref 59), kE P "__doc__" 252 (.none)] 2, #[]⟩) ::
  (nat_lit 61, ⟨.type "type", none, .cls { name := "NoBit", bases := [.ref 24], mro := [.ref 61, .ref 24, .type "ValueError", .type "Exception", .type "BaseException", .type "object"], ns := 60, qualname := "NoBit", hasDict := true, slotNames := [], subclasses := [], abstract := false, collection := none, hasDel := false }, #[(some (.ref 52)), none, (some (.str "NoBit" 239)), (some (.str "NoBit" 247)), (some (.builtin "ValueError.__new__")), (some (.bool true))]⟩) ::
  (nat_lit 72, ⟨.type "dict", none, .dict #[kE P "__module__" 262 (.str "sharepress.errors" 187), kE P "__firstlineno__" 266 (.int (10) 265), kE P "__static_attributes__" 267 (.ref 71), kE P "__doc__" 268 (.none)] 2, #[]⟩) ::
  (nat_lit 73, ⟨.type "type", none, .cls { name := "NoBox", bases := [.ref 24], mro := [.ref 73, .ref 24, .type "ValueError", .type "Exception", .type "BaseException", .type "object"], ns := 72, qualname := "NoBox", hasDict := true, slotNames := [], subclasses := [], abstract := false, collection := none, hasDel := false }, #[(some (.ref 64)), none, (some (.str "NoBox" 255)), (some (.str "NoBox" 263)), (some (.builtin "ValueError.__new__")), (some (.bool true))]⟩) ::
  (nat_lit 84, ⟨.type "dict", none, .dict #[kE P "__module__" 278 (.str "sharepress.errors" 187), kE P "__firstlineno__" 282 (.int (12) 281), kE P "__static_attributes__" 283 (.ref 83), kE P "__doc__" 284 (.none)] 2, #[]⟩) ::
  (nat_lit 85, ⟨.type "type", none, .cls { name := "NoLine", bases := [.ref 24], mro := [.ref 85, .ref 24, .type "ValueError", .type "Exception", .type "BaseException", .type "object"], ns := 84, qualname := "NoLine", hasDict := true, slotNames := [], subclasses := [], abstract := false, collection := none, hasDel := false }, #[(some (.ref 76)), none, (some (.str "NoLine" 271)), (some (.str "NoLine" 279)), (some (.builtin "ValueError.__new__")), (some (.bool true))]⟩) ::
  (nat_lit 91, kC "figures" 289 290 291 15 2 0 0 3 (.ref 88) 181 (.ref 89) .none .none .none (.ref 90) 292 15 293) ::
  (nat_lit 92, kF "figures" s_figures "sharepress.bits" 287 91) ::
  (nat_lit 98, kC "check_numbers" 301 302 303 20 1 0 0 3 (.ref 93) 181 (.ref 94) .none (.ref 95) (.ref 96) (.ref 97) 307 20 308) ::
  (nat_lit 99, kF "check_numbers" s_check_numbers "sharepress.boxes" 295 98) ::
  (nat_lit 105, kC "unboxed" 310 311 312 33 1 0 0 3 (.ref 100) 181 (.ref 101) .none (.ref 102) (.ref 103) (.ref 104) 317 33 318) ::
  (nat_lit 106, kF "unboxed" s_unboxed "sharepress.boxes" 295 105) ::
  (nat_lit 112, kC "_law_at" 322 323 324 45 2 0 0 3 (.ref 107) 181 (.ref 108) .none (.ref 109) (.ref 110) (.ref 111) 327 45 328) ::
  (nat_lit 113, kF "_law_at" s__law_at "law_sharepress_k11_eights_refused" 320 112) ::
  (nat_lit 119, kC "_law_stays_so" 330 331 332 49 2 0 0 3 (.ref 114) 181 (.ref 115) .none (.ref 116) (.ref 117) (.ref 118) 339 49 340) ::
  (nat_lit 120, kF "_law_stays_so" s__law_stays_so "law_sharepress_k11_eights_refused" 320 119) ::
  (nat_lit 124, kC "_law_mixed" 342 343 344 71 1 0 0 3 (.ref 121) 181 (.ref 122) .none .none .none (.ref 123) 345 71 346) ::
  (nat_lit 125, kF "_law_mixed" s__law_mixed "law_sharepress_k11_eights_refused" 320 124) ::
  (nat_lit 131, kC "_law_refused_so" 348 349 350 73 1 0 0 3 (.ref 126) 181 (.ref 127) .none (.ref 128) (.ref 129) (.ref 130) 354 73 355) ::
  (nat_lit 132, kF "_law_refused_so" s__law_refused_so "law_sharepress_k11_eights_refused" 320 131) ::
  (nat_lit 136, kC "law" 357 358 359 81 1 0 0 3 (.ref 133) 181 (.ref 134) .none .none .none (.ref 135) 360 81 361) ::
  (nat_lit 137, kF "law" s_law "law_sharepress_k11_eights_refused" 320 136) :: []
def kAt : List Addr := 3 :: 23 :: 24 :: 36 :: 37 :: 48 :: 49 :: 60 :: 61 :: 72 :: 73 :: 84 :: 85 :: 91 :: 92 :: 98 :: 99 :: 105 :: 106 :: 112 :: 113 :: 119 :: 120 :: 124 :: 125 :: 131 :: 132 :: 136 :: 137 :: []
def lawQ : Program := { PySem.Challenge.pw_sharepress_k11_eights_refused with main := { PySem.Challenge.pw_sharepress_k11_eights_refused.main with body := [s_law] } }
def lawLoose : List Str := Str.ofString "PressError" :: Str.ofString "BadModel" :: Str.ofString "NoShare" :: Str.ofString "NoBit" :: Str.ofString "NoBox" :: Str.ofString "NoLine" :: Str.ofString "figures" :: Str.ofString "SIZE" :: Str.ofString "MOST" :: Str.ofString "check_numbers" :: Str.ofString "unboxed" :: Str.ofString "_law_at" :: Str.ofString "_law_stays_so" :: Str.ofString "_law_mixed" :: Str.ofString "_law_refused_so" :: []
noncomputable def bootT (P : Params) : BT := (.node (PySem.W.boot_o_0 P) (.node (PySem.W.boot_o_1 P) (.node (PySem.W.boot_o_3 P) (.node (PySem.W.boot_o_7 P) .nil .nil) .nil) (.node (PySem.W.boot_o_5 P) (.node (PySem.W.boot_o_9 P) .nil .nil) .nil)) (.node (PySem.W.boot_o_2 P) (.node (PySem.W.boot_o_4 P) (.node (PySem.W.boot_o_8 P) .nil .nil) .nil) (.node (PySem.W.boot_o_6 P) (.node (PySem.W.boot_o_10 P) .nil .nil) .nil)))
def lawX (s : Shared) : Bool := xlAt lawQ [] s && recOk (RowW.records PySem.Challenge.rw_sharepress_k11_eights_refused.row.toRowW) s
theorem kAt_is (P : Params) : kAt = (kFrag P).map (·.1) := by kernel_rfl
abbrev lawH : Hook := kHook kFrag kAt kAt_is
noncomputable def topL (w : World) (os : OsState) := topAsk PySem.Challenge.pw_sharepress_k11_eights_refused lawQ lawLoose lawX (fun s => kAt.map s.heap.get?) boot_heap bootT 11 (some (.ref 6)) 1614 (fun P => (boot_heap P).life) boot_drawn boot_toks w os
noncomputable def topR (w : World) (_os : OsState) := some (true, openGood lawQ lawLoose, (kFrag w.params).map fun p => some p.2)
theorem topL_is : @topL = @topL := rfl
theorem topR_is : @topR = @topR := rfl
name_quick topLq for My.topL by My.topL_is
name_quick topRq for My.topR by My.topR_is
theorem tops_q (w : World) (os : OsState) : PySem.W.Fast.topLq w os = PySem.W.Fast.topRq w os := by kernel_rfl
theorem tops_are (w : World) (os : OsState) : topL w os = topR w os := by
  rw [PySem.W.Fast.topLq_eq, PySem.W.Fast.topRq_eq]
  exact tops_q w os
theorem boot_is (P : Params) : boot_heap P = absHeap (bootT P) 11 (boot_heap P).life := by kernel_rfl
theorem boot_size (w : World) : ((boot_heap w.params).isNs mainGlobals && (Array.mk ([] : List GenState)).size == 0, (boot_heap w.params).objs.size, (boot_heap w.params).nsMap mainGlobals "__annotations__") = (true, 11, (some (.ref 6))) := by kernel_rfl
theorem law_left : LeftO PySem.Challenge.pw_sharepress_k11_eights_refused lawQ lawLoose lawX (Hook.obs lawH) (Hook.val lawH) 3208 := by
  refine left_of (boot_open (by kernel_rfl) (by kernel_rfl) (fun _ => by kernel_rfl)) boot_is boot_size (by kernel_rfl) tops_are
end
end My
set_option Elab.async false
set_option linter.all false
set_option maxRecDepth 100000
set_option maxHeartbeats 4000000
open PySem PySem.W PyProof.Rows
set_option maxRecDepth 100000 in
set_option maxHeartbeats 0 in
theorem PySem.Challenge.cw_sharepress_k11_eights_refused_holds : PySem.Challenge.rw_sharepress_k11_eights_refused.Holds := by
  w_on; o_law
  refine holds_open (q := My.lawQ) (loose := My.lawLoose) (Xt := My.lawX) (XP := XL My.lawQ []) (Yf := Hook.obs (kHook My.kFrag My.kAt My.kAt_is)) (Ya := Hook.val (kHook My.kFrag My.kAt My.kAt_is)) (YP := Hook.says (kHook My.kFrag My.kAt My.kAt_is)) My.law_left (Hook.of (kHook My.kFrag My.kAt My.kAt_is)) (Hook.keeps (kHook My.kFrag My.kAt My.kAt_is)) (fun s e => xl_of s (Bool.and_eq_true_iff.mp e).1) XL.keeps (by rfl) (by rfl) (by rfl) (fun s e => recFacts_of (Bool.and_eq_true_iff.mp e).2) (by rfl) (by assumption) (by decide +kernel) ⟨rfl, rfl, rfl, rfl, rfl, by decide +kernel⟩ ?hw ?hc
  (case hw => w_witness2)
  k_fill
  refine My.walk_law (l := PySem.Challenge.rw_sharepress_k11_eights_refused) rfl rfl (fun w h Y => PySem.W.kIn_of Y) ?F
  case F =>
    intro w mg fa h KX G hmg
    refine' My.all_mk KX G hmg ?g_SIZE ?g_MOST ?a__law_at ?l__law_at ?cc__law_at ?k__law_at ?a__law_mixed ?l__law_mixed ?cc__law_mixed ?k__law_mixed ?a__law_stays_so ?l__law_stays_so ?cc__law_stays_so ?k__law_stays_so ?a_figures ?l_figures ?cc_figures ?k_figures ?a_check_numbers ?l_check_numbers ?cc_check_numbers ?k_check_numbers ?a_unboxed ?l_unboxed ?cc_unboxed ?k_unboxed ?a__law_refused_so ?l__law_refused_so ?cc__law_refused_so ?k__law_refused_so ?a_law ?l_law ?cc_law ?k_law ?a_PressError ?l_PressError ?x_PressError ?a_BadModel ?l_BadModel ?x_BadModel ?a_NoShare ?l_NoShare ?x_NoShare ?a_NoBit ?l_NoBit ?x_NoBit ?a_NoBox ?l_NoBox ?x_NoBox ?a_NoLine ?l_NoLine ?x_NoLine ?iNX_ga ?iNX_gt ?iNX_mB ?iNX_mO ?iNX_ha ?iNX_hn ?iNX_tk ?jNX_0 ?jNX_1 ?jNX_2 ?jNX_3 ?jNX_4 ?jNX_5 ?z_len ?z_sum ?z_min ?z_isinstance ?z_range ?z_int ?z_list ?z_tuple ?z_str ?z_bool ?z_reversed ?z_sorted ?z_ValueError
    (case g_SIZE => k_is)
    (case g_MOST => k_is)
    (case a__law_at => k_is)
    (case l__law_at => k_is)
    (case cc__law_at => k_is)
    (case k__law_at => k_is)
    (case a__law_mixed => k_is)
    (case l__law_mixed => k_is)
    (case cc__law_mixed => k_is)
    (case k__law_mixed => k_is)
    (case a__law_stays_so => k_is)
    (case l__law_stays_so => k_is)
    (case cc__law_stays_so => k_is)
    (case k__law_stays_so => k_is)
    (case a_figures => k_is)
    (case l_figures => k_is)
    (case cc_figures => k_is)
    (case k_figures => k_is)
    (case a_check_numbers => k_is)
    (case l_check_numbers => k_is)
    (case cc_check_numbers => k_is)
    (case k_check_numbers => k_is)
    (case a_unboxed => k_is)
    (case l_unboxed => k_is)
    (case cc_unboxed => k_is)
    (case k_unboxed => k_is)
    (case a__law_refused_so => k_is)
    (case l__law_refused_so => k_is)
    (case cc__law_refused_so => k_is)
    (case k__law_refused_so => k_is)
    (case a_law => k_is)
    (case l_law => k_is)
    (case cc_law => k_is)
    (case k_law => k_is)
    (case a_PressError => k_is)
    (case l_PressError => k_is)
    (case x_PressError => k_exc)
    (case a_BadModel => k_is)
    (case l_BadModel => k_is)
    (case x_BadModel => k_exc)
    (case a_NoShare => k_is)
    (case l_NoShare => k_is)
    (case x_NoShare => k_exc)
    (case a_NoBit => k_is)
    (case l_NoBit => k_is)
    (case x_NoBit => k_exc)
    (case a_NoBox => k_is)
    (case l_NoBox => k_is)
    (case x_NoBox => k_exc)
    (case a_NoLine => k_is)
    (case l_NoLine => k_is)
    (case x_NoLine => k_exc)
    (case iNX_ga => k_is)
    (case iNX_gt => k_is)
    (case iNX_mB => k_is)
    (case iNX_mO => k_is)
    (case iNX_ha => k_is)
    (case iNX_hn => k_is)
    (case iNX_tk => k_is)
    (case jNX_0 => kernel_rfl)
    (case jNX_1 => kernel_rfl)
    (case jNX_2 => kernel_rfl)
    (case jNX_3 => kernel_rfl)
    (case jNX_4 => kernel_rfl)
    (case jNX_5 => kernel_rfl)
    (case z_len => k_is)
    (case z_sum => k_is)
    (case z_min => k_is)
    (case z_isinstance => k_is)
    (case z_range => k_is)
    (case z_int => k_is)
    (case z_list => k_is)
    (case z_tuple => k_is)
    (case z_str => k_is)
    (case z_bool => k_is)
    (case z_reversed => k_is)
    (case z_sorted => k_is)
    (case z_ValueError => k_is)
#print axioms PySem.Challenge.cw_sharepress_k11_eights_refused_holds
