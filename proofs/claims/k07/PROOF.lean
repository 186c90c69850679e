import PyProof.Rows.All
import Wide.All
import OpenK.AllK
import Wide.FinOn
import KE.KTupSum
import KE.DataFind
import KE.GoesEnum
import HandS.ForMost
import HandS.ForExc
import HandS.ExcInit
import HandS.ExcField
import HandS.IsInst
import HandS.Zip
import HandS.TupAny
import HandS.TupMul
import HandS.Walk
import HandS.Wide
import HandS.Style
import HandS.Conv
import HandS.Defaults
import HandS.CallLocal
import HandS.SetFor
import HandS.Evl
import PySem.Challenge.RW_datedlines_k07_plain_and_level_calendars
set_option Elab.async false
set_option linter.all false
set_option maxRecDepth 100000
set_option maxHeartbeats 2000000
/-! rules of my own beside the layer: sum of a tuple, count in a tuple, enumerate over a tuple, calls by keywords alone, a call of a local that may raise -/
namespace DL
open PySem PySem.Spec PyProof.Rows L2 RZ
section
variable {X : Cx}
/-- sum(t) of a tuple of ints -/
def rSumT (K : PySem.W.Frag) : List V → Hp → VK → Prop := fun vs H Q => ∃ (a : Addr) (ns : List Int), vs = [V.ref a] ∧ SqT K H a (ns.map V.int) ∧ Q (.int ns.sum) H
theorem cr_sumT (hc : X.calm = true) : CallR X (.builtin "sum") (rSumT X.K) := by
  intro pins s σ H vs us Q I r h
  obtain ⟨a, ns, rfl, hs, q⟩ := h
  obtain ⟨its, rv, hl, _⟩ := I.tuple hs
  rw [Vals.ref1 r]
  have hi : IntsAre its ns := rv.ints
  obtain ⟨xs, e⟩ := hi.allInts.items
  have hn : numsOf (intItems xs).toList = ns := by rw [← e]; exact hi.numsOf
  rw [nums_intItems] at hn
  have hl' : s.heap.IsTuple a its.toArray := hl
  rw [e] at hl'
  refine PySem.W.ktm_sumG (I.ok.hd hc) hl' fun h' tk t' hk => ?_
  refine ⟨.int _, H, I.kept hk, ⟨t', rfl⟩, ?_⟩
  rw [preSum_eq, List.take_of_length_le (by simp), hn]
  exact q
/-- t.count(k) of a tuple of ints -/
def rCntT (K : PySem.W.Frag) : V → List V → Hp → VK → Prop := fun x xs H Q => ∃ (p : Addr) (ns : List Int) (k : Int), x = .ref p ∧ xs = [.int k] ∧ SqT K H p (ns.map V.int) ∧ Q (.int (ns.count k : Nat)) H
theorem mt_tcount : MtR X "tuple.count" (rCntT X.K) := by
  intro pins s σ H x xs v us Q I rx rxs h
  obtain ⟨p, ns, k, rfl, rfl, hs, q⟩ := h
  cases rx
  obtain ⟨u, rfl, ru⟩ := rxs.one
  obtain ⟨t, rfl⟩ := ru
  obtain ⟨its, rv, ⟨⟨cls, dd, data, sl⟩, ho, hc, n, hd⟩, hlen⟩ := I.tuple hs
  simp only at hc hd
  subst hc hd
  have hi := ints_of_vals rv
  refine call_meets PySem.F.slot_tuple_count ⟨_, ho, rfl⟩ PySem.F.entry_tuple_count (PySem.F.args_tuple_count_2 _ _)
    (SeqAt.tuple_countAt p its.toArray n dd sl (.int k t) (eqk k)) ⟨ho, fun y hy => (eqk_gives hi y (by simpa using hy)).at _ _, ?_⟩
  have ec : its.toArray.toList.countP (eqk k) = ns.count k := eqk_count hi
  refine ⟨.int (ns.count k : Nat), H, I.tok _, ⟨s.toks, ?_⟩, q⟩
  show Value.int ((its.toArray.toList.countP (eqk k) : Nat) : Int) s.toks = Value.int ((ns.count k : Nat) : Int) s.toks
  rw [ec]
end
/-! enumerate over a tuple -/
def IteT (K : PySem.W.Frag) (a : Addr) : It :=
  ⟨fun i H => ∃ (xs : List V) (x : V), SqT K H a xs ∧ xs[i]? = some x, fun i H v H' => ∃ T x, v = .ref T ∧ H T = none ∧ H' = upd H T (.tup [.int (i : Nat), x]) ∧ ∀ xs, SqT K H a xs → xs[i]? = some x, fun i H => ∃ xs : List V, SqT K H a xs ∧ xs.length = i⟩
theorem turn_enumT {P : Program} {w : World} {K : PySem.W.Frag} {elts : List Expr} {kk : Nat} {tpos : Pos} (a e it : Addr) :
    Turn P w K (.Tuple elts kk tpos) (IteT K a) [e, it] e (fun i h => (∃ old, IsEnum h e it ((i : Nat) : Int) old) ∧ h.IsTupleIter it a i ∧ e ≠ it ∧ a ≠ it) where
  mem := by simp
  obj := fun i h st b hb => by
    obtain ⟨⟨old, he⟩, ⟨o, ho, hc, hd⟩, _⟩ := st
    have e' : b = e ∨ b = it := by simpa using hb
    rcases e' with z | z
    · rw [z]; exact ⟨_, he, fun v q => nomatch q⟩
    · rw [z]; exact ⟨o, ho, fun v q => by rw [hd] at q; cases q⟩
  keep := fun i h h' st k => let ⟨⟨old, he⟩, hi, hne⟩ := st; ⟨⟨old, k e (by simp) _ he⟩, hi.at fun o q => k it (by simp) o q, hne⟩
  item := by
    intro X hP hw hK hc i pins s σ H E I hf st hg
    subst hP hw hK
    obtain ⟨⟨old, he⟩, hit, hne, hna⟩ := st
    obtain ⟨xs, x, hq, hx⟩ := hg
    obtain ⟨its, rv, p, hz⟩ := I.tuple hq
    obtain ⟨u, hu, ru⟩ := rv.get hx
    have hel : e < s.heap.objs.size := Heap.lt_size he
    have hil : it < s.heap.objs.size := by obtain ⟨_, q, _⟩ := hit; exact Heap.lt_size q
    have hal : a < s.heap.objs.size := by obtain ⟨_, q, _⟩ := p; exact Heap.lt_size q
    have hlt : i < its.toArray.size := by
      have := (List.getElem?_eq_some_iff.mp hu).1
      simpa using this
    have hea : e ≠ a := by
      intro z
      obtain ⟨o, q1, q2, _⟩ := p
      rw [← z] at q1
      have he' : s.heap.get? e = some _ := he
      rw [he'] at q1
      cases q1
      injection q2 with z2
      exact absurd z2 (by decide)
    refine wpAny_pyNext_enum_itemD (Draws.tuple (prog := X.prog) (w := X.w) (A := X.A.in1) (show X.A.in1.handled = none from I.ok.hd hc) it a hna its.toArray) he ⟨hit, p⟩ hlt hne (by simp [hne, hea]) fun x' h' tk hP ho hs' hT hsz hk => ?_
    have hxu : x' = u := by
      have hP' : its.toArray[i]? = some x' := hP
      rw [List.getElem?_toArray, hu] at hP'
      exact (Option.some.inj hP').symm
    subst hxu
    refine ⟨_, rfl, wpAny_letOwnedTupleGo_enum (s := { s with heap := h', toks := tk + 1 }) ho fun h'' he' sb => ?_⟩
    have hT2 : h''.get? s.heap.objs.size = some { cls := .type "tuple", data := .seq #[.int i tk, x'] } := (sb.2 _ (Nat.ne_of_gt hel)).trans hT
    have new : ObjOk X.prog X.w (upd H s.heap.objs.size (.tup [.int (i : Nat), x])) h'' s.heap.objs.size (.tup [.int (i : Nat), x]) :=
      ⟨by show 2 ≤ sizeLine; decide, [.int i tk, x'], .cons ⟨_, rfl⟩ (.cons ru .nil), ⟨_, hT2, rfl, _, rfl⟩⟩
    have I1 : Inv X pins σ (upd H s.heap.objs.size (.tup [.int (i : Nat), x])) { s with heap := h'', toks := tk + 1 } :=
      I.turnedNew (ch := [e, it]) (fun b ob hb q => (sb.2 b (fun z => hb (by simp [z]))).trans (hk b ob (fun z => hb (by simp [z])) (fun z => hb (by simp [z])) q)) hf (Nat.le_refl _) new
    refine ⟨.ref s.heap.objs.size, _, I1, rfl, ⟨_, x, rfl, I.hok.fresh (Nat.le_refl _), rfl, fun ys hy => by rw [I.tuple_inj hy hq]; exact hx⟩, ⟨⟨x', ?_⟩, hs'.1.at fun o q => (sb.2 it (Ne.symm hne)).trans q, hne, hna⟩, fun b hb => ?_⟩
    · have e1 : ((i + 1 : Nat) : Int) = (i : Int) + 1 := by omega
      rw [e1]; exact he'
    · have hb' : b < s.heap.objs.size := by
        have e' : b = e ∨ b = it := by simpa using hb
        rcases e' with z | z
        · rw [z]; exact hel
        · rw [z]; exact hil
      rw [upd_ne (Nat.ne_of_lt hb')]
      exact (hf b hb).1
  done := by
    intro X hP hw hK hc i pins s σ H E I hf st hg
    subst hP hw hK
    obtain ⟨⟨old, he⟩, hit, hne, hna⟩ := st
    obtain ⟨xs, hq, hx⟩ := hg
    obtain ⟨its, rv, p, hz⟩ := I.tuple hq
    obtain ⟨f0, f1, f2, f3, f4, f5⟩ := hf it (by simp)
    have hl := rv.length
    have hn : its.toArray.size = i := by
      show its.length = i
      omega
    refine wpAny_pyNext_enum_endD (n := its.toArray.size) (Draws.tuple (prog := X.prog) (w := X.w) (A := X.A.in1) (show X.A.in1.handled = none from I.ok.hd hc) it a hna its.toArray) he ⟨by rw [hn]; exact hit, p⟩ fun h' eb => ⟨rfl, I.turned (t' := s.toks) (fun b o hb q => eb b o hb q) f0 f1 f3 f4 f5⟩
  self := fun A i s Q E st h => let ⟨⟨_, he⟩, _⟩ := st; wpAny_pyIter_enum he h
set_option maxHeartbeats 4000000 in
theorem meets_enumerate_new1 {v : Value} {o : Obj} {H : Heap → Prop} (B : Begins v o H) :
    Meets (Builtin.«enumerate.__new__» ⟨[.type "enumerate", v], []⟩) (fun _ R s => H s.heap ∧
      R (.ok (.ret (.ref (s.heap.push o).objs.size))) { s with heap := (s.heap.push o).push { cls := .type "enumerate", data := .fields #[.none, .bool false, .ref s.heap.objs.size, rawInt 0, .none, .none] } }) :=
  .of_wp fun prog w A R s h => by
    obtain ⟨hp, g, d, tk, os⟩ := s; obtain ⟨h1, h⟩ := h
    have hsub := sub_enumerate
    have q1 : ∀ {A' : Around} {E : Value → Shared → Prop} {Q : Value → Shared → Prop}, Q (.ref hp.objs.size) ⟨hp.push o, g, d, tk, os⟩ → wpAny (model prog w) A' (pyIter v) Q E ⟨hp, g, d, tk, os⟩ :=
      fun q => B.iter prog w _ _ ⟨hp, g, d, tk, os⟩ _ h1 q
    wp_walk using q1
    refine wpAny_stack_any fun st => wpAny_pure ?_
    split
    · rename_i c _ _ _ _ _
      cases (c == Value.type "enumerate")
      · wp_walk using q1
        exact ⟨_, rfl, h⟩
      · wp_walk using q1
        exact ⟨_, rfl, h⟩
    · wp_walk using q1
      exact ⟨_, rfl, h⟩
section
variable {prog : Program} {w : World} {A : Around} {E : Value → Shared → Prop} {s : Shared}
theorem call_enum1 {v : Value} {o : Obj} {H : Heap → Prop} {Q : Value → Shared → Prop} (B : Begins v o H) (h1 : H s.heap)
    (h : ∀ h', IsEnum h' (s.heap.objs.size + 1) s.heap.objs.size 0 .none → h'.get? s.heap.objs.size = some o → h'.objs.size = s.heap.objs.size + 2 →
      (∀ b o, s.heap.get? b = some o → h'.get? b = some o) → Q (.ref (s.heap.objs.size + 1)) { s with heap := h' }) :
    wpAny (model prog w) A (call (.type "enumerate") [v]) Q E s := by
  refine callType_new F.called_enumerate (by decide) (F.typeCall_enumerate_1 _) (F.newCall_enumerate_1 _) (fun obj => F.args_object_init_2 obj _) F.entry_enumerate_new
    (meets_enumerate_new1 B) ⟨h1, ?_⟩
  have hz : (s.heap.push o).objs.size = s.heap.objs.size + 1 := Heap.size_push ..
  show _ ∧ _
  rw [hz]
  have he : IsEnum ((s.heap.push o).push { cls := .type "enumerate", data := .fields #[.none, .bool false, .ref s.heap.objs.size, rawInt 0, .none, .none] }) (s.heap.objs.size + 1) s.heap.objs.size 0 .none := by
    have := Heap.get?_push_size (s.heap.push o) (o := { cls := .type "enumerate", data := .fields #[.none, .bool false, .ref s.heap.objs.size, rawInt 0, .none, .none] }) rfl
    rw [hz] at this; exact this
  refine ⟨⟨_, he, rfl⟩, h _ he (Heap.get?_push_of_some _ (Heap.get?_push_size _ B.free)) (by rw [Heap.size_push, hz]) fun b o x => Heap.get?_push_of_some _ (Heap.get?_push_of_some _ x)⟩
end
def iEnumT (K : PySem.W.Frag) (ta : TA) : TI := fun σ H R => ta σ H fun vs H1 => ∃ a xs, vs = [.ref a] ∧ SqT K H1 a xs ∧ R (IteT K a) H1
theorem pi_enumT {X : Cx} {e : Expr} {ta : TA} {p pos tpos : Pos} {elts : List Expr} {kk : Nat} (hg : Gl X "enumerate") (hm : X.mg "enumerate" = none) (ha : PA X [e] ta) (hs : starEach [e] X.env = [(false, eval e X.env)] := by rfl) :
    PI X (.Tuple elts kk tpos) (.Call (.Name "enumerate" p) [e] [] pos) (iEnumT X.K ta) := by
  refine ⟨fun pins s σ H R I h => ?_⟩
  refine Call_ (ld_blt I hg hm boot_enumerate (PyProof.Rows.callWith_type1 (thn (ha.run pos pins s σ H _ I h) fun us s1 ⟨vs, H1, I1, r1, q1⟩ => ?_) hs rfl))
  obtain ⟨a, xs, ex, hq, q⟩ := q1
  subst ex
  cases r1 with
  | cons r rr =>
    cases rr
    cases r
    obtain ⟨its, rv, p', hz⟩ := I1.tuple hq
    have hal : a < s1.heap.objs.size := by obtain ⟨_, q, _⟩ := p'; exact Heap.lt_size q
    refine call_enum1 (begins_tuple a its.toArray) p' fun h' he hit hsz hk => wpAny_pyIter_enum he ?_
    have I2 : Inv X pins σ H1 { s1 with heap := h' } := I1.kept (t' := s1.toks) hk
    refine ⟨s1.heap.objs.size + 1, [s1.heap.objs.size + 1, s1.heap.objs.size], _, _, H1, rfl, I2, turn_enumT a (s1.heap.objs.size + 1) s1.heap.objs.size, ⟨⟨.none, he⟩, ⟨_, hit, rfl, rfl⟩, Nat.succ_ne_self _, Nat.ne_of_lt hal⟩, fun b hb => ?_, q⟩
    have e' : b = s1.heap.objs.size + 1 ∨ b = s1.heap.objs.size := by simpa using hb
    have hle : s1.heap.objs.size ≤ b := by
      rcases e' with z | z
      · rw [z]; exact Nat.le_add_right _ _
      · rw [z]; exact Nat.le_refl _
    exact I1.fpOk hle (I1.hok.fresh hle)
theorem walk_enumT {K : PySem.W.Frag} {a : Addr} {xs : List V} : Walk (IteT K a) xs.length (fun H => SqT K H a xs) (YPair (fun i => some (.int (i : Nat))) (fun i => xs[i]?)) := by
  refine ⟨fun i _ hi q => ⟨xs, xs[i], q, by simp [hi]⟩, fun _ q => ⟨xs, q, rfl⟩, fun i H v H' _ q y => ?_⟩
  obtain ⟨T, x, h1, h2, h3, h4⟩ := y
  exact ⟨T, .int (i : Nat), x, h1, h2, h3, rfl, h4 xs q⟩
/-! calls -/
section
variable {X : Cx} {CX : CXT} {k n i : Nat} {f : Addr} {fd : FuncData} {ps ks : List Str} {sp : Sp} {E : XK} {x : Str} {p pos : Pos} {e : Expr} {es : List Expr} {t tk : TA} {kws : List Keyword} {g : List Value → List Value → List Value} {gV : List V → List V → List V}
/-- f(k = v, ..): keywords alone -/
def tCallKw (m : Nat) (sp : Sp) (gV : List V → List V → List V) (E : XK) (tk : TA) : TE := fun σ H Q => tk σ H fun zs H1 => zs.length = m ∧ sp (gV [] zs) H1 Q E
theorem pe_callKw (F : FnOk X.prog X.w X.K X.mg X.base CX k f fd ps sp) (hr : Room k X.A) (hg : Gl X x) (hm : X.mg x = some (.ref f)) (hk : PySem.W.keepIn X.K (.ref f) = true) (hb : KBn X.K fd ps 0 ks g gV) (hx : Passes CX X E) (hkw : PK X kws tk)
    (hall : (backToKw pos (keywordEach kws X.env)).all (·.1.isSome) = true := by rfl) (hks : (backToKw pos (keywordEach kws X.env)).filterMap (·.1) = ks := by rfl) (hdb : (x == ("__debug__" : Str)) = false := by decide)
    (hpl : ((backTo pos (starEach [] X.env)).any (·.1) || (backToKw pos (keywordEach kws X.env)).any (·.1.isNone)) = false := by rfl) :
    PE X (.Call (.Name x p) [] kws pos) (tCallKw ks.length sp gV E tk) := by
  refine ⟨fun pins s σ H Q I h => ?_⟩
  refine wpAny_Call_Name_kw (ld_glob I hg hm ?_ hdb)
  refine PySem.W.callWith_KW0 (h₀ := X.base) I.ok.mod.kin hk hall ?_ hpl
  refine thn (hkw.run pos pins s σ H _ I h) fun ws s2 ⟨zs, H2, I2, rz, l2, q2⟩ => ⟨I2.kIn, ?_⟩
  rw [hks]
  exact run_fnN (us := []) (vs := []) F hr hb hx I2 .nil rz rfl l2 q2
/-- a call of a local that holds the def at f, of which something may be raised -/
def tCallLS (i : Nat) (A : Addr → Option Sp) (E : L2.St → XK) (t : TA) : TE := fun σ H Q => ∃ f sp, σ[i]? = some (some (.ref f)) ∧ A f = some sp ∧ t σ H fun vs H1 => sp vs H1 Q (E σ)
structure HeldX (P : Program) (w : World) (K : PySem.W.Frag) (mg : Str → Option Value) (base : Heap) (k : Nat) (f : Addr) (sp : Sp) : Prop where
  ex : ∃ (fd : FuncData) (ps : List Str), FnOk P w K mg base (L2.CX P w) k f fd ps sp ∧ PySem.W.keepIn K (.ref f) = true ∧ Binds K fd ps []
theorem pe_callLS {A : Addr → Option Sp} {E : L2.St → XK} (hA : ∀ f sp, A f = some sp → HeldX X.prog X.w X.K X.mg X.base k f sp) (hr : Room k X.A) (hN : X.N[i]? = some x) (hv : Vis X.env.scope x) (hx : ∀ σ, PassesAt (L2.CX X.prog X.w) X σ (E σ)) (ha : PA X (e :: es) t)
    (hdb : (x == ("__debug__" : Str)) = false := by decide) (hcd : (x == ("__classdict__" : Str)) = false := by decide)
    (he : starEach (e :: es) X.env = (false, eval e X.env) :: starEach es X.env := by rfl) (hpl : (backTo pos (starEach es X.env)).any (·.1) = false := by rfl) : PE X (.Call (.Name x p) (e :: es) [] pos) (tCallLS i A E t) := by
  refine ⟨fun pins s σ H Q I h => ?_⟩
  obtain ⟨f, sp, hs, hS, ht⟩ := h
  obtain ⟨fd, ps, F, hk, hb⟩ := (hA f sp hS).ex
  refine wpAny_Call_Name_kw (thn ((pe_var (pos := p) hN hv hdb hcd).run pins s σ H (fun v H1 => v = .ref f ∧ H1 = H) I ⟨.ref f, hs, rfl, rfl⟩) fun u s1 ⟨v, H1, I1, r1, q1⟩ => ?_)
  obtain ⟨rfl, rfl⟩ := q1
  cases r1
  refine PySem.W.callWith_K (h₀ := X.base) I.ok.mod.kin hk (thn (ha.run pos pins s1 σ _ _ I1 ht) fun us s2 ⟨vs, H2, I2, r, q⟩ => ⟨I2.kIn, ?_⟩) he hpl
  exact run_fnS F hr hb (hx σ) I2 r q
end

/-! tuples that are known to have no dict -/
def tupO (its : Array Value) (n : Nat) : Obj := { cls := .type "tuple", data := .seq its n }
def TupD (H : Hp) (p : Addr) (xs : List V) : Prop := ∃ (its : Array Value) (n : Nat), H p = some (.frz (tupO its n) (.tup xs))
theorem TupD.sq {K : PySem.W.Frag} {H : Hp} {p : Addr} {xs : List V} (h : TupD H p xs) : SqT K H p xs := by
  obtain ⟨its, n, e⟩ := h
  exact .inl (.inr ⟨_, e⟩)
theorem TupD.same {H H' : Hp} {p : Addr} {xs : List V} (h : TupD H p xs) (s : Same H H') : TupD H' p xs := by
  obtain ⟨its, n, e⟩ := h
  exact ⟨its, n, s _ _ e⟩
/-- what a new tuple of xs asks -/
def NewT (xs : List V) (H : Hp) (Q : VK) : Prop := ∀ p H', Same H H' → TupD H' p xs → Q (.ref p) H'
theorem same_new {H : Hp} {p : Addr} {o : HO} (h : H p = none) : Same H (upd H p o) := fun b u e => by
  rw [upd_ne (ne_of_none e h)]
  exact e
theorem laidD {X : Cx} {pins : List (Addr × Obj)} {σ : L2.St} {H : Hp} {s : Shared} {xs : List V} {us : List Value} {t : Nat} (I : L2.Inv X pins σ H s) (hz : xs.length ≤ sizeLine) (r : Vals xs us) :
    ∃ H', L2.Inv X pins σ H' { s with heap := s.heap.push { cls := .type "tuple", data := .seq us.toArray }, toks := t } ∧ Same H H' ∧ TupD H' s.heap.objs.size xs := by
  have hf : H s.heap.objs.size = none := I.hok.fresh (Nat.le_refl _)
  refine ⟨upd H s.heap.objs.size (.frz (tupO us.toArray 0) (.tup xs)), I.laid (t' := t) (fun b u e => Heap.get?_push_of_some _ e) (Nat.le_refl _) ?_, same_new hf, ⟨_, _, upd_same⟩⟩
  exact ⟨Heap.get?_push_size _ rfl, hz, us, r, IsTup.new _ _⟩
section
variable {X : Cx}
/-- tuple(l) of a list -/
theorem call_tuple_D : CallR X (.type "tuple") (fun xs H Q => ∃ p ys, xs = [.ref p] ∧ SqL X.K H p ys ∧ NewT ys H Q) := by
  intro pins s σ H xs us Q I r h
  obtain ⟨p, ys, rfl, hq, q⟩ := h
  obtain ⟨u, rfl, rx⟩ := vals1 r
  cases rx
  obtain ⟨its, r', pl, hz⟩ := I.list hq
  have hlen := r'.length
  refine call_tuple_list pl.isList (fun h' kp => ?_) (by simp only [List.size_toArray] <;> omega)
  have I1 : L2.Inv X pins σ H { s with heap := h' } := I.kept (t' := s.toks) kp
  obtain ⟨H', I', s', d'⟩ := laidD (t := s.toks) I1 hz r'
  exact ⟨.ref h'.objs.size, H', I', rfl, q _ _ s' d'⟩
def tBMD (r : V → List V → Hp → VK → Prop) (to : TE) (t : TA) : TE := fun σ H Q => to σ H fun x H1 => (∃ p xs, x = .ref p ∧ TupD H1 p xs) ∧ t σ H1 fun xs H2 => r x xs H2 Q
variable {o e : Expr} {es : List Expr} {to : TE} {t : TA} {name : Str} {apos cpos : Pos} {id : String} {r : V → List V → Hp → VK → Prop}
theorem pe_bmD (pa : PlainAttrs "tuple") (slot : Slot "tuple" name id) (hty : typeOf (.builtin id) = pure (.type "method_descriptor")) (hm : MtR X id r) (ho : PE X o to) (ha : PA X (e :: es) t)
    (hbase : attributeBase o name X.env (eval o X.env) = eval o X.env := by rfl)
    (hfew : ((backTo cpos (starEach (e :: es) X.env)).all (fun x => !x.1) && (backToKw cpos (keywordEach [] X.env)).all (fun x => x.1.isSome)
      && decide ((e :: es).length + ([] : List Keyword).length + (if ([] : List Keyword).isEmpty then 0 else 1) < 30)) = true := by rfl)
    (hline : (apos.endLine == cpos.line) = true := by rfl) (hs : starEach (e :: es) X.env = (false, eval e X.env) :: starEach es X.env := by rfl) (hplain : (backTo cpos (starEach es X.env)).any (·.1) = false := by rfl) :
    PE X (.Call (.Attribute o name apos) (e :: es) [] cpos) (tBMD r to t) := by
  refine ⟨fun pins s σ H Q I h => ?_⟩
  refine wpAny_Call_method_late hbase hfew hline rfl (thn (ho.run pins s σ H _ I h) fun v s1 ⟨x, H1, I1, r1, ty, q1⟩ => ?_)
  have hh : s1.TypeIs v "tuple" ∧ ∀ a, v = .ref a → ∃ ob, s1.heap.get? a = some ob ∧ ob.dict = none := by
    obtain ⟨p, xs, rfl, its0, n0, e1⟩ := ty
    cases r1
    obtain ⟨g1, g2, its, g3, o2, g4, g5, g6⟩ := I1.hok p _ e1
    refine ⟨⟨o2, g4, g5⟩, fun a z => ?_⟩
    cases z
    exact ⟨_, g1, rfl⟩
  obtain ⟨h1, h2⟩ := hh
  refine ⟨"tuple", id, pa, slot, hty, h1, h2, ?_⟩
  have hA := ha.run cpos pins s1 σ H1 _ I1 q1
  rw [hs] at hA ⊢
  refine Calls.callWith_builtin (by show (false || (backTo cpos (starEach es X.env)).any (·.1)) = false; rw [hplain] <;> rfl) (Calls.evalArgs_plain ?_)
  exact thn hA fun us s2 ⟨vs, H2, I2, r2, q2⟩ => hm pins s2 σ H2 x vs v us Q I2 r1 r2 q2
end
/-! l.extend(t) of a tuple -/
section
variable {X : Cx}
def rExtT : V → List V → Hp → VK → Prop := fun x vs H Q => ∃ l b xs zs, x = .ref l ∧ vs = [.ref b] ∧ H l = some (.lst xs) ∧ TupD H b zs ∧ xs.length + zs.length ≤ sizeLine ∧ Q .non (upd H l (.lst (xs ++ zs)))
theorem mt_extendT : MtR X "list.extend" rExtT := by
  intro pins s σ H x vs v us Q I rx rv h
  obtain ⟨l, b, xs, zs, rfl, rfl, hH, ⟨its0, n0, hB⟩, hz, q⟩ := h
  cases rx
  obtain ⟨u, rfl, ru⟩ := rv.one
  cases ru
  obtain ⟨z, its, n, r, hl, e⟩ := I.lstM hH
  obtain ⟨g1, g2, its2, r2, o2, g4, g5, n2, g6⟩ := I.hok b _ hB
  have eo : o2 = tupO its0 n0 := Option.some.inj (g4.symm.trans g1)
  subst eo
  have ei : its0 = its2.toArray := by
    have := g6
    unfold tupO at this
    injection this
  subst ei
  have hsz : its.toArray.size + its2.toArray.size ≤ sizeLine := by
    have h1 := r.length
    have h2 := r2.length
    rw [List.size_toArray, List.size_toArray]
    omega
  have hlong : ¬ (!its.toArray.isEmpty && Builtin.List.listTooLong (its.toArray.size + its2.toArray.size)) = true := by
    rw [notLongL hsz, Bool.and_false]
    exact Bool.false_ne_true
  refine call_meets F.slot_list_extend ⟨_, e, rfl⟩ F.entry_list_extend (F.args_list_extend_2 _ _)
    (AutoSeq1.list_extend_list_tuple_0 l its.toArray n b its2.toArray n0 hlong (by rw [List.size_toArray]; omega) (by omega)) ⟨e, g1, ?_⟩
  refine ⟨.non, _, I.lset (its' := its ++ its2) hH e (by simp) (r.append r2) ?_, rfl, q⟩
  rw [List.length_append]
  omega
end
/-! zip of two tuples -/
theorem walk_zipT {K : PySem.W.Frag} {a b : Addr} {xs ys : List V} {n : Nat} (hn : n = min xs.length ys.length) : Walk (ItzT K a b) n (fun H => SqT K H a xs ∧ SqT K H b ys) (YPair (fun i => xs[i]?) (fun i => ys[i]?)) := by
  subst hn
  refine ⟨fun i _ hi q => ?_, fun _ q => ⟨xs, ys, q.1, q.2, by omega⟩, fun i H v H' _ q y => ?_⟩
  · have h1 : i < xs.length := by omega
    have h2 : i < ys.length := by omega
    exact ⟨xs, ys, xs[i], ys[i], q.1, q.2, by simp [h1], by simp [h2]⟩
  · obtain ⟨T, x, z, h1, h2, h3, h4, h5⟩ := y
    exact ⟨T, x, z, h1, h2, h3, h4 xs q.1, h5 ys q.2⟩
end DL
set_option Elab.async false
set_option linter.all false
set_option maxRecDepth 100000
set_option maxHeartbeats 2000000
/-! bundles: a def of the text with its promise (Ca), an error class (Er), what raising one gives -/
namespace DL
open PySem PySem.Spec PyProof.Rows L2 RZ
/-- the def st stands under the name x -/
structure Up (K : PySem.W.Frag) (mg : Str → Option Value) (x : Str) (st : Stmt) : Prop where
  ex : ∃ (f : Addr) (fd : FuncData), Fun K x x st f fd ∧ mg x = some (.ref f)
def BindOk (x : Str) (st : Stmt) (ps : List Str) : Prop := ∀ (kV doc pm : Value) (an : Option Addr) (cdv ct : Value) (us : List Value), us.length = ps.length →
  bindArgs (PySem.W.fnOf x x (defArgs st) (defBody st) (defScope st) .none kV doc pm an cdv ct) ⟨us, []⟩ = pure (ps.zip us)
def KwOk (x : Str) (st : Stmt) (ps ks : List Str) (g : List Value → List Value) : Prop := ∀ (kV doc pm : Value) (an : Option Addr) (cdv ct : Value) (ws : List Value), ws.length = ks.length →
  bindArgs (PySem.W.fnOf x x (defArgs st) (defBody st) (defScope st) .none kV doc pm an cdv ct) ⟨[], ks.zip ws⟩ = pure (ps.zip (g ws))
/-- .. and keeps the promise sp -/
structure Ca (P : Program) (w : World) (K : PySem.W.Frag) (mg : Str → Option Value) (base : Heap) (k : Nat) (x : Str) (st : Stmt) (ps : List Str) (sp : Sp) : Prop where
  ex : ∃ (f : Addr) (fd : FuncData), Fun K x x st f fd ∧ mg x = some (.ref f) ∧ FnOk P w K mg base (L2.CX P w) k f fd ps sp
theorem fn_up {P : Program} {w : World} {K : PySem.W.Frag} {mg : Str → Option Value} {base : Heap} {k : Nat} {f : Addr} {fd : FuncData} {ps : List Str} {sp : Sp} (F : FnOk P w K mg base CX0 k f fd ps sp) : FnOk P w K mg base (L2.CX P w) k f fd ps sp :=
  ⟨F.len, fun A outer s H args us vs Q E hr he hb hv hs => codeAny_mono (F.run A outer s H args us vs Q E hr he hb hv hs) fun r s' q => by
    cases r with
    | ok fl =>
      cases fl with
      | ret u => exact q
      | next => exact q
      | brk => exact q
      | cont => exact q
    | error e => exact False.elim q⟩
section
variable {P : Program} {w : World} {K : PySem.W.Frag} {mg : Str → Option Value} {base : Heap}
theorem Ca.imp {k : Nat} {x : Str} {st : Stmt} {ps : List Str} {sp sp' : Sp} (c : Ca P w K mg base k x st ps sp) (h : ∀ vs H Q E, sp' vs H Q E → sp vs H Q E) : Ca P w K mg base k x st ps sp' := by
  obtain ⟨f, fd, F, hm, G⟩ := c.ex
  exact ⟨f, fd, F, hm, G.imp h⟩
/-- a def that raises nothing, by its body -/
theorem ca0 {x : Str} {st : Stmt} {N ps : List Str} {k : Nat} {sp : Sp} (U : Up K mg x st) (S : FnScope N ps (defScope st)) (len : ∀ vs H Q E, sp vs H Q E → vs.length = ps.length)
    (hbody : ∀ (f : Addr) (cdv : Value) (A : Around) (outer : List Env) (s : Shared) (H : Hp) (vs : List V) (Q : VK) (E : XK), Room k (A.deeper (envOfC x (defScope st) s.heap.objs.size f cdv)) → sp vs H Q E →
      ∃ t, PSs (cxOf CX0 P w K mg base N x (defScope st) f cdv A outer s H E).nox (defBody st) t ∧ t { nx := fun _ H' => Q .non H', rt := Q } (start N vs) H) : Ca P w K mg base (k + 1) x st ps sp := by
  obtain ⟨f, fd, F, hm⟩ := U.ex
  exact ⟨f, fd, F, hm, fn_up (F.ok S len (hbody f))⟩
/-- a def that may raise -/
theorem caX {x : Str} {st : Stmt} {N ps : List Str} {k : Nat} {sp : Sp} (U : Up K mg x st) (S : FnScope N ps (defScope st)) (len : ∀ vs H Q E, sp vs H Q E → vs.length = ps.length)
    (hbody : ∀ (f : Addr) (cdv : Value) (A : Around) (outer : List Env) (s : Shared) (H : Hp) (vs : List V) (Q : VK) (E : XK), Room k (A.deeper (envOfC x (defScope st) s.heap.objs.size f cdv)) → sp vs H Q E →
      ∃ t, PSs (cxOf (L2.CX P w) P w K mg base N x (defScope st) f cdv A outer s H E) (defBody st) t ∧ t { nx := fun _ H' => Q .non H', rt := Q } (start N vs) H) : Ca P w K mg base (k + 1) x st ps sp := by
  obtain ⟨f, fd, F, hm⟩ := U.ex
  exact ⟨f, fd, F, hm, F.okX S len (hbody f)⟩
end
section
variable {X : Cx} {k j : Nat} {x : Str} {st : Stmt} {ps ks : List Str} {sp : Sp} {E : L2.St → XK} {p pos : Pos} {e : Expr} {es : List Expr} {t tk : TA} {kws : List Keyword}
theorem ps0 : ∀ σ, PassesAt (L2.CX X.prog X.w) X σ ((fun _ => E0 : L2.St → XK) σ) := fun _ _ _ _ _ _ _ h => by
  obtain ⟨_, _, _, _, _, _, _, _, _, _, _, _, z⟩ := h
  exact z.elim
/-- a call f(e, ..) of a def of the text; what it may raise goes where hx says (ps0: nothing) -/
theorem pe_ca (c : Ca X.prog X.w X.K X.mg X.base k x st ps sp) (b : BindOk x st ps) (hr : Room j X.A) (hx : ∀ σ, PassesAt (L2.CX X.prog X.w) X σ (E σ)) (ha : PA X (e :: es) t) (hk : k ≤ j := by decide) (hg : Gl X x := by rfl)
    (hdb : (x == ("__debug__" : Str)) = false := by decide) (he : starEach (e :: es) X.env = (false, eval e X.env) :: starEach es X.env := by rfl) (hpl : (backTo pos (starEach es X.env)).any (·.1) = false := by rfl) :
    PE X (.Call (.Name x p) (e :: es) [] pos) (tCallS sp E t) := by
  obtain ⟨f, fd, F, hm, G⟩ := c.ex
  exact pe_callS G (hr.mono hk) hg hm F.kp (F.binds b) hx ha hdb he hpl
/-- keywords alone -/
def tCallKs (m : Nat) (sp : Sp) (gV : List V → List V) (E : XK) (tk : TA) : TE := fun σ H Q => tk σ H fun zs H1 => zs.length = m ∧ sp (gV zs) H1 Q E
theorem pe_cak {g : List Value → List Value} {gV : List V → List V} (c : Ca X.prog X.w X.K X.mg X.base k x st ps sp) (b : KwOk x st ps ks g) (hgv : ∀ {zs : List V} {ws : List Value}, Vals zs ws → Vals (gV zs) (g ws)) (hr : Room j X.A) (hkw : PK X kws tk) (hk : k ≤ j := by decide) (hg : Gl X x := by rfl)
    (hall : (backToKw pos (keywordEach kws X.env)).all (·.1.isSome) = true := by rfl) (hks : (backToKw pos (keywordEach kws X.env)).filterMap (·.1) = ks := by rfl) (hdb : (x == ("__debug__" : Str)) = false := by decide)
    (hpl : ((backTo pos (starEach [] X.env)).any (·.1) || (backToKw pos (keywordEach kws X.env)).any (·.1.isNone)) = false := by rfl) :
    PE X (.Call (.Name x p) [] kws pos) (tCallKs ks.length sp gV E0 tk) := by
  obtain ⟨f, fd, F, hm, G⟩ := c.ex
  obtain ⟨oc, od, kV, doc, pm, an, cdv, ct, osl, rfl, lk, hcd⟩ := F.ex
  have hb : KBn X.K (PySem.W.fnOf x x (defArgs st) (defBody st) (defScope st) .none kV doc pm an cdv ct) ps 0 ks (fun _ ws => g ws) (fun _ zs => gV zs) :=
    ⟨fun s us ws _ l1 l2 => by
      have e0 : us = [] := List.eq_nil_of_length_eq_zero l1
      subst e0
      exact .of_eq (b kV doc pm an cdv ct ws l2), fun _ r => hgv r⟩
  exact pe_callKw G (hr.mono hk) hg hm F.kp hb passL hkw hall hks hdb hpl
end
/-! ### errors -/
/-- what the text says of the error class of the name x, at C, whose __init__ (at f) stores what -/
structure Er (K : PySem.W.Frag) (mg : Str → Option Value) (x : Str) (C f : Addr) : Prop where
  gC : mg x = some (.ref C)
  ox : OexC K C
  iC : PySem.W.findIn K (.ref C) "__init__" = some (some (.ref f))
  tI : PySem.W.typeIn K (.ref f) = some (.type "function")
  xf : XfC K C
  nw : PySem.W.findIn K (.ref C) "what" = some none
  te : PySem.W.exmOne K (.ref C) (.ref C) = some true
theorem exm_self {K : PySem.W.Frag} {S : Addr} (h1 : PySem.W.subIn K (.ref S) (.type "BaseException") = some true) (h2 : PySem.W.isClsIn K S = true) (h3 : PySem.W.typeIn K (.ref S) = some (.type "type")) (h4 : PySem.W.subIn K (.ref S) (.ref S) = some true) :
    PySem.W.exmOne K (.ref S) (.ref S) = some true := by
  have e1 : (PySem.W.subIn K (.ref S) (.type "BaseException") == some true) = true := by rw [h1] <;> rfl
  have e2 : ((PySem.W.clsIn K S).isSome && PySem.W.typeIn K (.ref S) == some (.type "type")) = true := by
    have h2' : (PySem.W.clsIn K S).isSome = true := h2
    rw [h2', h3] <;> rfl
  show (if (PySem.W.subIn K (.ref S) (.type "BaseException") == some true) = true then (if ((PySem.W.clsIn K S).isSome && PySem.W.typeIn K (.ref S) == some (.type "type")) = true then PySem.W.subIn K (.ref S) (.ref S) else none) else none) = some true
  rw [if_pos e1, if_pos e2]
  exact h4
/-- what the way out of raise X(v) is: a new dict that holds what -/
def RaisesW (C : Addr) (v : V) (H : Hp) (E : XK) : Prop := ∀ (d : Addr) (H' : Hp), Same H H' → H d = none → H' d = some (.xd [(("what" : Str), v)]) → E (.ref C) (some d) H'
/-- Refused.__init__: self.what = what -/
def spInitE (K : PySem.W.Frag) : Sp := fun vs H Q _ => ∃ (a C : Addr) (v : V), vs = [.ref a, v] ∧ OexC K C ∧ PySem.W.findIn K (.ref C) "what" = some none ∧ H a = some (exo a C none) ∧
  ∀ dx, H dx = none → dx ≠ a → Q .non (upd (upd H dx (exd dx [(("what" : Str), v)])) a (exo a C (some dx)))
structure ErI (P : Program) (w : World) (K : PySem.W.Frag) (mg : Str → Option Value) (base : Heap) (f : Addr) : Prop where
  ex : ∃ fd : FuncData, FnOk P w K mg base (L2.CX P w) 1 f fd ["self", "what"] (spInitE K) ∧ Binds K fd ["self", "what"] []
section
variable {X : Cx} {x : Str} {C f : Addr} {te : TE} {W : WX} {e : Expr} {p pos pos' : Pos} {j : Nat}
def tMono (t : TE) : TE := fun σ H Q => ∃ Q0 : VK, t σ H Q0 ∧ ∀ x H1, Q0 x H1 → Q x H1
theorem pe_mono (he : PE X e te) : PE X e (tMono te) := ⟨fun pins s σ H Q I h => by
  obtain ⟨Q0, h0, hm⟩ := h
  exact thn (he.run pins s σ H Q0 I h0) fun u s1 ⟨v, H1, I1, r, q⟩ => ⟨v, H1, I1, r, hm _ _ q⟩⟩
/-- raise X(e) -/
def tRaiseW (C : Addr) (W : WX) (te : TE) : TS := fun _ σ H => te σ H fun v H1 => RaisesW C v H1 fun cls d H' => W cls d σ H'
theorem ps_raiseW (T : Er X.K X.mg x C f) (F : ErI X.prog X.w X.K X.mg X.base f) (hc : X.calm = true) (hr : Room j X.A) (tk : Takes X W) (he : PE X e te) (hj : 2 ≤ j := by decide) (hg : Gl X x := by rfl)
    (hdb : (x == ("__debug__" : Str)) = false := by decide) (hst : starEach (e :: []) X.env = (false, eval e X.env) :: starEach [] X.env := by rfl) (hpl : (backTo pos (starEach [] X.env)).any (·.1) = false := by rfl) :
    PS X (.Raise (some (.Call (.Name x p) [e] [] pos)) none pos') (tRaiseW C W te) := by
  obtain ⟨fd, G, hb⟩ := F.ex
  have hps := ps_raise (pos := pos') hc tk (pmk_oex (p := p) (pos := pos) (ds := []) (dvs := []) T.ox T.iC T.tI G (hr.mono hj) hb .nil passL hg T.gC (pa_cons (pe_mono he) pa_nil hst) hdb hst hpl)
  refine ⟨fun pins s σ H D I h => hps.run pins s σ H D I ?_⟩
  refine ⟨_, h, fun v H1 q => ⟨by show 1 ≤ 1000; decide, fun a ha => ⟨a, C, v, rfl, T.ox, T.nw, upd_same, fun dx hdx hne => ⟨rfl, dx, [(("what" : Str), v)], upd_same, ?_, ?_, ?_⟩⟩⟩⟩
  · rw [upd_ne hne, upd_same]
  · rw [upd_ne hne] at hdx
    exact hdx
  · have hd1 : H1 dx = none := by
      rw [upd_ne hne] at hdx
      exact hdx
    refine q dx _ (fun b o hb' => ?_) hd1 upd_same
    have h1 : b ≠ dx := ne_of_none hb' hd1
    have h2 : b ≠ a := ne_of_none hb' ha
    rw [upd_ne h1, del_ne h2, upd_ne h2, upd_ne h1, upd_ne h2]
    exact hb'
end
end DL
set_option Elab.async false
set_option linter.all false
set_option maxRecDepth 100000
set_option maxHeartbeats 2000000
/-! the law's source, data of calendars -/
namespace DL
open PySem PySem.Spec PyProof.Rows L2 RZ
theorem iteFd {c : Bool} {A B : Prop} (h : c = false) (b : B) : if c = true then A else B := by
  rw [h]
  exact iteF b
theorem iteTd {c : Bool} {A B : Prop} (h : c = true) (a : A) : if c = true then A else B := by
  rw [h]
  exact iteT a
theorem Same.seqT {K : PySem.W.Frag} {H H' : Hp} {a : Addr} {xs : List V} (e : Same H H') (h : SqT K H a xs) : SqT K H' a xs := by
  rcases h with (h | ⟨o, h⟩) | h
  · exact .inl (.inl (e _ _ h))
  · exact .inl (.inr ⟨o, e _ _ h⟩)
  · exact .inr h
theorem Same.new {H : Hp} {p : Addr} {o : HO} (h : H p = none) : Same H (upd H p o) := fun b u e => by
  rw [upd_ne (ne_of_none e h)]
  exact e
theorem Same.mut {H H' : Hp} {p : Addr} {o : HO} (e : Same H H') (h : H p = none) : Same H (upd H' p o) := fun b u ha => by
  rw [upd_ne (ne_of_none ha h)]
  exact e b u ha
theorem same_back {H H' : Hp} {p : Addr} (e : Same H H') (h : H' p = none) : H p = none := e.free h
/-! the drawing source: a list of two ints at a -/
def SrcV (x y : Int) : Prop := 0 ≤ x ∧ 0 ≤ y ∧ y < 2147483647
def Src (a : Addr) (H : Hp) : Prop := ∃ x y : Int, H a = some (.lst [.int x, .int y]) ∧ SrcV x y
/-- only the source at a has changed; new objects may have come -/
def Stay (a : Addr) (H H' : Hp) : Prop := Src a H' ∧ ∀ b o, b ≠ a → H b = some o → H' b = some o
theorem Stay.refl {a : Addr} {H : Hp} (s : Src a H) : Stay a H H := ⟨s, fun _ _ _ e => e⟩
theorem Stay.trans {a : Addr} {H H1 H2 : Hp} (x : Stay a H H1) (y : Stay a H1 H2) : Stay a H H2 := ⟨y.1, fun b o n e => y.2 b o n (x.2 b o n e)⟩
theorem Src.same {a : Addr} {H H' : Hp} (s : Src a H) (e : Same H H') : Src a H' := by
  obtain ⟨x, y, h, v⟩ := s
  exact ⟨x, y, e _ _ h, v⟩
theorem Stay.same {a : Addr} {H H1 H2 : Hp} (x : Stay a H H1) (y : Same H1 H2) : Stay a H H2 := ⟨x.1.same y, fun b o n e => y b o (x.2 b o n e)⟩
theorem Stay.of_same {a : Addr} {H H1 : Hp} (s : Src a H) (y : Same H H1) : Stay a H H1 := (Stay.refl s).same y
theorem Src.ne_none {a : Addr} {H : Hp} (s : Src a H) {p : Addr} (h : H p = none) : p ≠ a := fun e => by
  obtain ⟨x, y, q, _⟩ := s
  rw [← e, h] at q
  cases q
theorem Stay.none {a : Addr} {H H1 : Hp} (s : Src a H) (x : Stay a H H1) {p : Addr} (h : H1 p = none) : H p = none := by
  cases q : H p with
  | none => rfl
  | some o =>
    have n : p ≠ a := x.1.ne_none h
    rw [x.2 p o n q] at h
    cases h
/-- a list or tuple that is not the source stands as before -/
theorem src_ne_t {a p : Addr} {H : Hp} {o : HO} (s : Src a H) (h : H p = some o) (n : ∀ x y : Int, o ≠ .lst [.int x, .int y]) : p ≠ a := fun e => by
  obtain ⟨x, y, q, _⟩ := s
  rw [← e, h] at q
  exact n x y (Option.some.inj q)
/-! data -/
def TupI (K : PySem.W.Frag) (H : Hp) (a : Addr) (ns : List Int) : Prop := SqT K H a (ns.map V.int)
def TupTI (K : PySem.W.Frag) (H : Hp) (a : Addr) (nss : List (List Int)) : Prop := ∃ qs : List Addr, SqT K H a (qs.map V.ref) ∧ qs.length = nss.length ∧ ∀ (i : Nat) (q : Addr) (ns : List Int), qs[i]? = some q → nss[i]? = some ns → TupI K H q ns
theorem TupI.same {K : PySem.W.Frag} {H H' : Hp} {a : Addr} {ns : List Int} (h : TupI K H a ns) (e : Same H H') : TupI K H' a ns := Same.seqT e h
theorem TupTI.same {K : PySem.W.Frag} {H H' : Hp} {a : Addr} {nss : List (List Int)} (h : TupTI K H a nss) (e : Same H H') : TupTI K H' a nss := by
  obtain ⟨qs, h1, h2, h3⟩ := h
  exact ⟨qs, Same.seqT e h1, h2, fun i q ns a b => (h3 i q ns a b).same e⟩
/-- a pattern -/
def patB (ns : List Int) : Bool := (ns.map fun s => decide (2 ≤ s)).all id && ((ns.zip (ns.drop 1)).map fun p => decide (p.2 ≤ p.1)).all id
/-- a tuple of tuples of ints -/
def TupTD (H : Hp) (a : Addr) (nss : List (List Int)) : Prop := ∃ qs : List Addr, TupD H a (qs.map V.ref) ∧ qs.length = nss.length ∧ ∀ (i : Nat) (q : Addr) (ns : List Int), qs[i]? = some q → nss[i]? = some ns → TupD H q (ns.map V.int)
theorem TupTD.ti {K : PySem.W.Frag} {H : Hp} {a : Addr} {nss : List (List Int)} (h : TupTD H a nss) : TupTI K H a nss := by
  obtain ⟨qs, h1, h2, h3⟩ := h
  exact ⟨qs, h1.sq, h2, fun i q ns a b => (h3 i q ns a b).sq⟩
theorem TupTD.same {H H' : Hp} {a : Addr} {nss : List (List Int)} (h : TupTD H a nss) (e : Same H H') : TupTD H' a nss := by
  obtain ⟨qs, h1, h2, h3⟩ := h
  exact ⟨qs, h1.same e, h2, fun i q ns a b => (h3 i q ns a b).same e⟩
/-- an instance of the class at C: a calendar of these births and days -/
def CalAt (K : PySem.W.Frag) (C : Addr) (H : Hp) (c : Addr) (bs : List Int) (ds : List (List Int)) : Prop := ∃ (dx b d : Addr) (fs : List (Str × V)), H c = some (.ins C dx fs) ∧ fs.lookup ("born" : Str) = some (.ref b) ∧ fs.lookup ("days" : Str) = some (.ref d) ∧ TupD H b (bs.map V.int) ∧ TupTD H d ds
theorem CalAt.same {K : PySem.W.Frag} {C : Addr} {H H' : Hp} {c : Addr} {bs : List Int} {ds : List (List Int)} (h : CalAt K C H c bs ds) (e : Same H H') : CalAt K C H' c bs ds := by
  obtain ⟨dx, b, d, fs, h1, h2, h3, h4, h5⟩ := h
  exact ⟨dx, b, d, fs, e _ _ h1, h2, h3, h4.same e, h5.same e⟩
theorem CalAt.op {K : PySem.W.Frag} {C : Addr} {H : Hp} {c : Addr} {bs : List Int} {ds : List (List Int)} (h : CalAt K C H c bs ds) : ∃ (dx b d : Addr) (fs : List (Str × V)), H c = some (.ins C dx fs) ∧ fs.lookup ("born" : Str) = some (.ref b) ∧ fs.lookup ("days" : Str) = some (.ref d) ∧ TupI K H b bs ∧ TupTI K H d ds := by
  obtain ⟨dx, b, d, fs, h1, h2, h3, h4, h5⟩ := h
  exact ⟨dx, b, d, fs, h1, h2, h3, h4.sq, h5.ti⟩
def lessI (ns : List Int) : Int := ns.sum - (ns.length : Int)
def aliveAt (bs : List Int) (ds : List (List Int)) (d : Nat) : Int := ((bs.filter fun b => decide (b ≤ (d : Int))).length : Int) - ((ds.take d).map lessI).sum
/-- what the text says of the class Calendar -/
structure ClC (K : PySem.W.Frag) (mg : Str → Option Value) (C f : Addr) : Prop where
  cl : Cls K C
  nB : NoAttr K C "born"
  nD : NoAttr K C "days"
  mgC : mg "Calendar" = some (.ref C)
  mkC : Mk K C f
/-- built-in names that the module does not bind -/
structure Bl (mg : Str → Option Value) : Prop where
  len : mg "len" = none
  sum : mg "sum" = none
  min : mg "min" = none
  max : mg "max" = none
  int : mg "int" = none
  tuple : mg "tuple" = none
  isinstance : mg "isinstance" = none
  all : mg "all" = none
  range : mg "range" = none
  enumerate : mg "enumerate" = none
  zip : mg "zip" = none
  bool : mg "bool" = none
  list : mg "list" = none
end DL
set_option Elab.async false
set_option linter.all false
set_option maxRecDepth 100000
set_option maxHeartbeats 2000000
/-! comprehensions over Same; types of tuples -/
namespace DL
open PySem PySem.Spec PyProof.Rows L2 RZ
def givn (n : Nat) (k : Nat → Bool) (v : Nat → V) : List V := ((List.range n).filter k).map v
theorem givn_yes {n : Nat} {k : Nat → Bool} {v : Nat → V} (h : k n = true) : givn (n + 1) k v = givn n k v ++ [v n] := by
  simp [givn, List.range_succ, h]
theorem givn_no {n : Nat} {k : Nat → Bool} {v : Nat → V} (h : k n = false) : givn (n + 1) k v = givn n k v := by
  simp [givn, List.range_succ, h]
theorem givn_len (n : Nat) (k : Nat → Bool) (v : Nat → V) : (givn n k v).length ≤ n := by
  unfold givn
  rw [List.length_map]
  have h := List.length_filter_le k (List.range n)
  rw [List.length_range] at h
  exact h
theorem range_getD {α : Type} (ns : List α) (d : α) : (List.range ns.length).map (fun i => ns.getD i d) = ns := by
  apply List.ext_getElem
  · simp
  · intro i h1 h2
    simp [h2]
theorem givn_filter {α : Type} (ns : List α) (d : α) (k : α → Bool) (f : α → V) : givn ns.length (fun i => k (ns.getD i d)) (fun i => f (ns.getD i d)) = (ns.filter k).map f := by
  have h := range_getD ns d
  conv => rhs; rw [← h, List.filter_map, List.map_map]
  rfl
theorem givn_all {α : Type} (ns : List α) (d : α) (f : α → V) : givn ns.length (fun _ => true) (fun i => f (ns.getD i d)) = ns.map f := by
  have h := givn_filter ns d (fun _ => true) f
  rw [List.filter_eq_self.mpr (fun _ _ => rfl)] at h
  exact h
/-- behind i turns: nothing else has changed, and the new list at D holds what was given -/
def Cw (H0 : Hp) (k : Nat → Bool) (v : Nat → V) (D : Addr) (i : Nat) (H : Hp) : Prop := H0 D = none ∧ Same H0 H ∧ H D = some (.lst (givn i k v))
theorem cw0 {H0 : Hp} {k : Nat → Bool} {v : Nat → V} {D : Addr} (h : H0 D = none) : Cw H0 k v D 0 (upd H0 D (.lst [])) := ⟨h, Same.new h, upd_same⟩
theorem cwY {H0 H H4 : Hp} {k : Nat → Bool} {v : Nat → V} {D : Addr} {i : Nat} {y : V} (p : Cw H0 k v D i H) (e : Same H H4) (hi : i < 100000) (hk : k i = true) (hv : y = v i) :
    ∃ acc, H4 D = some (.lst acc) ∧ acc.length < sizeLine ∧ Cw H0 k v D (i + 1) (upd H4 D (.lst (acc ++ [y]))) := by
  obtain ⟨p1, p2, p3⟩ := p
  refine ⟨_, e _ _ p3, Nat.lt_of_le_of_lt (givn_len i k v) (Nat.lt_of_lt_of_le hi (by decide)), p1, Same.mut (p2.trans e) p1, ?_⟩
  rw [givn_yes hk, hv]
  exact upd_same
theorem cwN {H0 H H3 : Hp} {k : Nat → Bool} {v : Nat → V} {D : Addr} {i : Nat} (p : Cw H0 k v D i H) (e : Same H H3) (hk : k i = false) : Cw H0 k v D (i + 1) H3 := by
  obtain ⟨p1, p2, p3⟩ := p
  refine ⟨p1, p2.trans e, ?_⟩
  rw [givn_no hk]
  exact e _ _ p3
/-- the type of a tuple that is read -/
theorem tyT {K : PySem.W.Frag} {H : Hp} {a : Addr} {xs : List V} (h : SqT K H a xs) : TyX K H (.ref a) (.type "tuple") := by
  rcases h with (h | ⟨o, h⟩) | ⟨o, its, n, h1, h2, _⟩
  · exact .base (.tup h)
  · exact .fTuple h
  · exact .kTuple h1 h2
theorem getD_of {α : Type} {ns : List α} {i : Nat} {x d : α} (h : ns[i]? = some x) : ns.getD i d = x := by
  rw [List.getD_eq_getElem?_getD, h] <;> rfl
theorem map_of {α : Type} {ns : List α} {f : α → V} {i : Nat} {x : V} (h : (ns.map f)[i]? = some x) : ∃ z, ns[i]? = some z ∧ x = f z := by
  rw [List.getElem?_map] at h
  cases e : ns[i]? with
  | none =>
    rw [e] at h
    cases h
  | some z =>
    rw [e] at h
    exact ⟨z, rfl, (Option.some.inj h).symm⟩
theorem bool_all (ns : List Int) (f : Int → Bool) : ∃ bs : List Bool, bs = ns.map f ∧ (ns.map fun x => V.bl (f x)) = bs.map V.bl := ⟨_, rfl, by simp⟩
section
variable {X : Cx}
/-- t[lo:hi] of a tuple: some tuple of that part -/
def rSlS (K : PySem.W.Frag) : V → Option Int → Option Int → Hp → VK → Prop := fun x lo hi H Q => ∃ a xs, x = .ref a ∧ SqT K H a xs ∧ ∀ p H', Same H H' → SqT K H' p (cutV xs lo hi) → Q (.ref p) H'
theorem sl_tupS : SlR X (rSlS X.K) := by
  intro pins s σ H x v vl vu lo hi sl Q I rx hs pl pu h
  obtain ⟨a, xs, rfl, hx, q⟩ := h
  refine sl_tupA pins s σ H _ v vl vu lo hi sl Q I rx hs pl pu ⟨a, xs, rfl, hx, fun hw => q a H (Same.refl H) ?_, fun _ p hp => q p _ (Same.new hp) (SqT.of upd_same)⟩
  have e : cutV xs lo hi = xs := by
    unfold cutV
    rw [hw.1, hw.2]
    simp
  rw [e]
  exact hx
end
section
variable {X : Cx}
def rLenK (K : PySem.W.Frag) : List V → Hp → VK → Prop := fun xs H Q => ∃ p ys, xs = [.ref p] ∧ (SqL K H p ys ∨ SqT K H p ys) ∧ Q (.int ys.length) H
theorem call_lenK (K : PySem.W.Frag) (h : X.K = K) : CallR X (.builtin "len") (rLenK K) := by
  subst h
  exact call_len_seq
theorem cr_sumK (K : PySem.W.Frag) (h : X.K = K) (hc : X.calm = true) : CallR X (.builtin "sum") (rSum K) := by
  subst h
  exact cr_sum hc
theorem cr_sumTK (K : PySem.W.Frag) (h : X.K = K) (hc : X.calm = true) : CallR X (.builtin "sum") (rSumT K) := by
  subst h
  exact cr_sumT hc
theorem cr_allK (K : PySem.W.Frag) (h : X.K = K) (hc : X.calm = true) : CallR X (.builtin "all") (rAll K) := by
  subst h
  exact cr_all hc
theorem ix_listK (K : PySem.W.Frag) (h : X.K = K) : IxR X (rIxL K) := by
  subst h
  exact ix_list
theorem ix_tupK (K : PySem.W.Frag) (h : X.K = K) : IxR X (rIxT K) := by
  subst h
  exact ix_tup
theorem op_eqDK (K : PySem.W.Frag) (h : X.K = K) (hu : X.A.units + 64 < cLine) : OpR X (compareOp .Eq) (rEqD K) := by
  subst h
  exact op_eqD hu
theorem op_neDK (K : PySem.W.Frag) (h : X.K = K) (hu : X.A.units + 64 < cLine) : OpR X (compareOp .NotEq) (rNeD K) := by
  subst h
  exact op_neD hu
theorem call_isiK' (K : PySem.W.Frag) (h : X.K = K) : CallR X (.builtin "isinstance") (rIsi K) := by
  subst h
  exact call_isi
end
theorem cut_from (xs : List V) (k : Nat) : cutV xs (some (k : Int)) none = xs.drop k := by
  unfold cutV
  rw [HT.sIx_nat]
  show (xs.drop (min k xs.length)).take (xs.length - min k xs.length) = xs.drop k
  by_cases h : k ≤ xs.length
  · rw [Nat.min_eq_left h, List.take_of_length_le (by simp)]
  · rw [Nat.min_eq_right (by omega), List.drop_eq_nil_of_le (by omega), List.drop_eq_nil_of_le (by omega)]
    simp
theorem cut_to (xs : List V) (k : Nat) : cutV xs none (some (k : Int)) = xs.take k := by
  unfold cutV
  rw [HT.sIx_nat]
  show (xs.drop 0).take (min k xs.length - 0) = xs.take k
  rw [List.drop_zero, Nat.sub_zero]
  by_cases h : k ≤ xs.length
  · rw [Nat.min_eq_left h]
  · rw [Nat.min_eq_right (by omega), List.take_of_length_le (by omega), List.take_of_length_le (by omega)]
end DL
set_option Elab.async false
set_option linter.all false
set_option maxRecDepth 100000
set_option maxHeartbeats 2000000
/-! deep equality of rows of ints; constants; counts of births -/
namespace DL
open PySem PySem.Spec PyProof.Rows L2 RZ
theorem lay_ints : ∀ ns : List Int, PyData.canLayAll0 (ns.map PyData.int) = true
  | [] => by simp [PyData.canLayAll0]
  | n :: r => by simp [PyData.canLayAll0, PyData.canLay0, lay_ints r]
theorem depth_ints : ∀ ns : List Int, PyData.depthAll (ns.map PyData.int) = 0
  | [] => by simp [PyData.depthAll]
  | n :: r => by simp [PyData.depthAll, PyData.depth, depth_ints r]
theorem shaped_tup (ns : List Int) : SeqAt.shaped (.tuple (ns.map PyData.int)) = true := by
  unfold SeqAt.shaped
  simp [PyData.canLay0, lay_ints, PyData.depth, depth_ints]
theorem shaped_lst (ns : List Int) : SeqAt.shaped (.list (ns.map PyData.int)) = true := by
  unfold SeqAt.shaped
  simp [PyData.canLay0, lay_ints, PyData.depth, depth_ints]
theorem eqv_ints : ∀ a b : List Int, PyData.eqvAll (a.map PyData.int) (b.map PyData.int) = decide (a = b)
  | [], [] => by simp [PyData.eqvAll]
  | [], _ :: _ => by simp [PyData.eqvAll]
  | _ :: _, [] => by simp [PyData.eqvAll]
  | x :: a, y :: b => by
    simp only [List.map_cons, PyData.eqvAll, PyData.eqv, eqv_ints a b]
    by_cases h : x = y
    · subst h
      simp
    · simp [h]
theorem eqv_tup (a b : List Int) : PyData.eqv (.tuple (a.map PyData.int)) (.tuple (b.map PyData.int)) = decide (a = b) := by
  simp only [PyData.eqv]
  exact eqv_ints a b
theorem eqv_lst (a b : List Int) : PyData.eqv (.list (a.map PyData.int)) (.list (b.map PyData.int)) = decide (a = b) := by
  simp only [PyData.eqv]
  exact eqv_ints a b
theorem dp_all {K : PySem.W.Frag} {H : Hp} : ∀ ns : List Int, DpAll K H (ns.map V.int) (ns.map PyData.int)
  | [] => .nil
  | n :: r => .cons (.int n) (dp_all r)
theorem dp_tup {K : PySem.W.Frag} {H : Hp} {a : Addr} {ns : List Int} (h : TupI K H a ns) : Dp K H (.ref a) (.tuple (ns.map PyData.int)) := .tup h (dp_all ns)
theorem dp_lst {K : PySem.W.Frag} {H : Hp} {a : Addr} {ns : List Int} (h : SqL K H a (ns.map V.int)) : Dp K H (.ref a) (.list (ns.map PyData.int)) := .lst h (dp_all ns)
section
variable {X : Cx}
/-- a constant of the module -/
theorem pe_gI {x : Str} {n : Int} {pos : Pos} (h : ∃ t, X.mg x = some (.int n t)) (hg : Gl X x := by rfl) (hn : x ≠ "__name__" := by decide) (hd : (x == ("__debug__" : Str)) = false := by decide) : PE X (.Name x pos) (tC (.int n)) := by
  obtain ⟨t, e⟩ := h
  exact pe_glob hg e ⟨t, rfl⟩ (hd := hd)
/-- a def of the module as a value -/
theorem pe_gF {x : Str} {f : Addr} {pos : Pos} (h : X.mg x = some (.ref f)) (hg : Gl X x := by rfl) (hd : (x == ("__debug__" : Str)) = false := by decide) : PE X (.Name x pos) (tC (.ref f)) := pe_glob hg h rfl (hd := hd)
end
/-- births ahead of moment i, the newcomers of i not among them -/
def bornB (bs : List Int) (i : Nat) : Int := ((bs.filter fun b => decide (b < (i : Int))).length : Int)
def kAt (bs : List Int) (ds : List (List Int)) (i : Nat) : Int := bornB bs i - ((ds.take i).map lessI).sum
theorem filt_add (i : Int) : ∀ bs : List Int, (bs.filter fun b => decide (b < i)).length + bs.count i = (bs.filter fun b => decide (b ≤ i)).length
  | [] => rfl
  | b :: r => by
    have ih := filt_add i r
    by_cases h1 : b < i
    · have h2 : b ≤ i := by omega
      have h3 : ¬ b = i := by omega
      simp [h1, h2, h3, List.count_cons]
      omega
    · by_cases h3 : b = i
      · subst h3
        simp [List.count_cons]
        omega
      · have h2 : ¬ b ≤ i := by omega
        simp [h1, h2, h3, List.count_cons]
        omega
theorem filt_succ (i : Nat) (bs : List Int) : (bs.filter fun b => decide (b ≤ (i : Int))).length = (bs.filter fun b => decide (b < ((i + 1 : Nat) : Int))).length := by
  congr 1
  apply List.filter_congr
  intro b _
  simp
  omega
theorem kAt_count (bs : List Int) (ds : List (List Int)) (i : Nat) : kAt bs ds i + (bs.count (i : Int) : Nat) = aliveAt bs ds i := by
  unfold kAt aliveAt bornB
  have h := filt_add (i : Int) bs
  omega
theorem kAt_less {bs : List Int} {ds : List (List Int)} {i : Nat} {p : List Int} (h : ds[i]? = some p) : aliveAt bs ds i - lessI p = kAt bs ds (i + 1) := by
  unfold kAt aliveAt bornB
  rw [filt_succ i bs]
  have e : ds.take (i + 1) = ds.take i ++ [p] := by rw [List.take_add_one, h] <;> rfl
  rw [e, List.map_append, List.sum_append]
  simp
  omega
/-- what made_calendar takes -/
structure CalOk (bs : List Int) (ds : List (List Int)) : Prop where
  n1 : 1 ≤ bs.length
  n12 : bs.length ≤ 12
  m11 : ds.length ≤ 11
  pat : ∀ p ∈ ds, patB p = true ∧ p ≠ [] ∧ p.length ≤ 1000
  born : ∀ b ∈ bs, 0 ≤ b ∧ b ≤ (ds.length : Int)
  fit : ∀ (i : Nat) (p : List Int), ds[i]? = some p → p.sum ≤ aliveAt bs ds i
end DL
set_option Elab.async false
set_option linter.all false
set_option maxRecDepth 100000
set_option maxHeartbeats 2000000
/-! tests with a word between them and what follows; patterns that grow -/
namespace DL
open PySem PySem.Spec PyProof.Rows L2 RZ
def tMonoT (t : TT) : TT := fun σ H Q => ∃ Q0 : Bool → Hp → Prop, t σ H Q0 ∧ ∀ b H1, Q0 b H1 → Q b H1
section
variable {X : Cx} {e : Expr} {t : TT}
theorem pt_mono (he : PT X e t) : PT X e (tMonoT t) := ⟨fun pins s σ H Q I h => by
  obtain ⟨Q0, h0, hm⟩ := h
  exact thn (he.run pins s σ H Q0 I h0) fun u s1 ⟨H1, I1, q⟩ => ⟨H1, I1, hm _ _ q⟩⟩
end
theorem while_m {c : TT} {tb : TS} {D : Ends} {σ : L2.St} {H : Hp} (Pv : L2.St → Hp → Prop) (μ : L2.St → Nat) (h0 : Pv σ H)
    (hs : ∀ σ H, Pv σ H → ∃ Q0 : Bool → Hp → Prop, c σ H Q0 ∧ (∀ H1, Q0 true H1 → tb { D with nx := fun σ' H' => Pv σ' H' ∧ μ σ' < μ σ, ct := fun σ' H' => Pv σ' H' ∧ μ σ' < μ σ, bk := D.nx } σ H1) ∧ (∀ H1, Q0 false H1 → D.nx σ H1)) : tWhile (tMonoT c) tb D σ H := by
  refine ⟨fun m σ H => m = μ σ ∧ Pv σ H, ⟨_, rfl, h0⟩, ?_⟩
  rintro m σ H ⟨rfl, p⟩
  obtain ⟨Q0, q0, q1, q2⟩ := hs σ H p
  refine ⟨Q0, q0, fun b H1 q => ?_⟩
  cases b with
  | true => exact ⟨_, fun σ' H' ⟨p', l⟩ => ⟨_, l, rfl, p'⟩, q1 H1 q⟩
  | false => exact q2 H1 q
/-- the slot's int, as a measure -/
def slotN (i : Nat) (σ : L2.St) : Nat := match σ[i]? with
  | some (some (.int k)) => k.toNat
  | _ => 0
theorem Stay.mut {a l : Addr} {H H' : Hp} {o : HO} (s : Stay a H H') (hl : H l = Option.none) (hla : l ≠ a) : Stay a H (upd H' l o) := by
  obtain ⟨⟨x, y, e1, e2⟩, h⟩ := s
  refine ⟨⟨x, y, by rw [upd_ne (Ne.symm hla)]; exact e1, e2⟩, fun b u n e => ?_⟩
  rw [upd_ne (ne_of_none e hl)]
  exact h b u n e
theorem map_last {ps : List Int} (hn : ps ≠ []) : ps.map V.int = ps.dropLast.map V.int ++ [.int (ps.getLast hn)] := by
  conv => lhs; rw [← List.dropLast_concat_getLast hn]
  simp
theorem patB_iff (ns : List Int) : patB ns = true ↔ (∀ s ∈ ns, 2 ≤ s) ∧ ∀ p ∈ ns.zip (ns.drop 1), p.2 ≤ p.1 := by
  unfold patB
  rw [Bool.and_eq_true]
  simp
theorem zip_tail_append (a : Int) : ∀ (l : List Int) (x : Int), ((l ++ [a]) ++ [x]).zip (((l ++ [a]) ++ [x]).drop 1) = (l ++ [a]).zip ((l ++ [a]).drop 1) ++ [(a, x)]
  | [], x => rfl
  | [b], x => rfl
  | b :: c :: l, x => by
    have ih := zip_tail_append a (c :: l) x
    simp only [List.cons_append, List.drop_succ_cons, List.drop_zero, List.zip_cons_cons] at ih ⊢
    rw [ih]
theorem patB_app {ns : List Int} {x : Int} (h : patB ns = true) (hx : 2 ≤ x) (hl : ∀ y, ns.getLast? = some y → x ≤ y) : patB (ns ++ [x]) = true := by
  rw [patB_iff] at h ⊢
  obtain ⟨h1, h2⟩ := h
  refine ⟨fun s hs => ?_, fun p hp => ?_⟩
  · rcases List.mem_append.mp hs with h | h
    · exact h1 s h
    · simp at h
      omega
  · by_cases hn : ns = []
    · subst hn
      simp at hp
    · obtain ⟨l, a, rfl⟩ : ∃ l a, ns = l ++ [a] := ⟨ns.dropLast, ns.getLast hn, (List.dropLast_concat_getLast hn).symm⟩
      rw [zip_tail_append] at hp
      rcases List.mem_append.mp hp with h | h
      · exact h2 p h
      · simp at h
        subst h
        exact hl a (by simp)
theorem patB_nil : patB [] = true := rfl
theorem patB_ge {ns : List Int} (h : patB ns = true) : ∀ s ∈ ns, 2 ≤ s := ((patB_iff ns).mp h).1
theorem len_le_sum : ∀ {ns : List Int}, (∀ s ∈ ns, 2 ≤ s) → 2 * (ns.length : Int) ≤ ns.sum
  | [], _ => by simp
  | n :: r, h => by
    have ih := len_le_sum (ns := r) fun s hs => h s (List.mem_cons_of_mem _ hs)
    have h1 := h n List.mem_cons_self
    simp
    omega
end DL
set_option Elab.async false
set_option linter.all false
set_option maxRecDepth 100000
set_option maxHeartbeats 2000000
/-! tuples kept; the drawn calendar's mathematics -/
namespace DL
open PySem PySem.Spec PyProof.Rows L2 RZ
/-- every tuple is as it was -/
def TK (H H' : Hp) : Prop := ∀ (b : Addr) (xs : List V), (H b = some (.tup xs) → H' b = some (.tup xs)) ∧ ∀ o, H b = some (.frz o (.tup xs)) → H' b = some (.frz o (.tup xs))
theorem TK.refl (H : Hp) : TK H H := fun _ _ => ⟨fun e => e, fun _ e => e⟩
theorem TK.trans {H H1 H2 : Hp} (x : TK H H1) (y : TK H1 H2) : TK H H2 := fun b xs => ⟨fun e => (y b xs).1 ((x b xs).1 e), fun o e => (y b xs).2 o ((x b xs).2 o e)⟩
theorem TK.same {H H' : Hp} (s : Same H H') : TK H H' := fun _ _ => ⟨fun e => s _ _ e, fun _ e => s _ _ e⟩
theorem TK.stay {a : Addr} {H H' : Hp} (r : Src a H) (s : Stay a H H') : TK H H' := fun b xs => ⟨fun e => s.2 b _ (src_ne_t r e fun _ _ z => by cases z) e, fun o e => s.2 b _ (src_ne_t r e fun _ _ z => by cases z) e⟩
theorem TK.lst {H : Hp} {l : Addr} {xs : List V} {o : HO} (h : H l = some (.lst xs)) : TK H (upd H l o) := fun b ys => ⟨fun e => by rw [upd_ne (ne_of e h (fun z => by cases z))]; exact e, fun u e => by rw [upd_ne (ne_of e h (fun z => by cases z))]; exact e⟩
theorem TK.new {H : Hp} {l : Addr} {o : HO} (h : H l = none) : TK H (upd H l o) := TK.same (Same.new h)
theorem TK.seqT {K : PySem.W.Frag} {H H' : Hp} {a : Addr} {xs : List V} (e : TK H H') (h : SqT K H a xs) : SqT K H' a xs := by
  rcases h with (h | ⟨o, h⟩) | h
  · exact .inl (.inl ((e _ _).1 h))
  · exact .inl (.inr ⟨o, (e _ _).2 o h⟩)
  · exact .inr h
theorem TupI.tk {K : PySem.W.Frag} {H H' : Hp} {a : Addr} {ns : List Int} (h : TupI K H a ns) (e : TK H H') : TupI K H' a ns := TK.seqT e h
theorem TupD.tk {H H' : Hp} {p : Addr} {xs : List V} (h : TupD H p xs) (e : TK H H') : TupD H' p xs := by
  obtain ⟨its, n, h1⟩ := h
  exact ⟨its, n, (e _ _).2 _ h1⟩
/-! drawn calendars -/
structure Pre (ws : List Int) (ds : List (List Int)) : Prop where
  pat : ∀ p ∈ ds, patB p = true ∧ p ≠ [] ∧ p.length ≤ 1000
  fit : ∀ (i : Nat) (p : List Int), ds[i]? = some p → p.sum ≤ aliveAt ws ds i
theorem lessI_nn {p : List Int} (h : patB p = true) : 0 ≤ lessI p := by
  have := len_le_sum (patB_ge h)
  unfold lessI
  omega
theorem sum_nn {ds : List (List Int)} (h : ∀ p ∈ ds, 0 ≤ lessI p) : 0 ≤ (ds.map lessI).sum := by
  induction ds with
  | nil => simp
  | cons p r ih =>
    have h1 := h p List.mem_cons_self
    have h2 := ih fun q hq => h q (List.mem_cons_of_mem _ hq)
    simp
    omega
theorem aliveAt_app {ws : List Int} {ds : List (List Int)} {p : List Int} {i : Nat} (h : i ≤ ds.length) : aliveAt ws (ds ++ [p]) i = aliveAt ws ds i := by
  unfold aliveAt
  rw [List.take_append_of_le_length h]
theorem alive_le {ws : List Int} {ds : List (List Int)} (h : Pre ws ds) (i : Nat) : aliveAt ws ds i ≤ (ws.length : Int) := by
  have h1 := List.length_filter_le (fun b => decide (b ≤ (i : Int))) ws
  have h2 : 0 ≤ ((ds.take i).map lessI).sum := sum_nn fun p hp => lessI_nn (h.pat p (List.mem_of_mem_take hp)).1
  unfold aliveAt
  omega
theorem filt_next (ws : List Int) (m : Nat) : (ws.filter fun b => decide (b ≤ ((m + 1 : Nat) : Int))).length = (ws.filter fun b => decide (b ≤ (m : Int))).length + ws.count ((m + 1 : Nat) : Int) := by
  have h1 := filt_add ((m + 1 : Nat) : Int) ws
  have h2 := filt_succ m ws
  omega
theorem alive_next {ws : List Int} {ds : List (List Int)} {p : List Int} : aliveAt ws (ds ++ [p]) (ds.length + 1) = aliveAt ws ds ds.length - p.sum + (p.length : Int) + (ws.count ((ds.length + 1 : Nat) : Int) : Nat) := by
  unfold aliveAt
  have e : (ds ++ [p]).take (ds.length + 1) = ds ++ [p] := List.take_of_length_le (by simp)
  rw [e, List.take_length, List.map_append, List.sum_append, filt_next]
  have e2 : (List.map lessI [p]).sum = p.sum - (p.length : Int) := by simp [lessI]
  rw [e2]
  omega
theorem Pre.app {ws : List Int} {ds : List (List Int)} {p : List Int} (h : Pre ws ds) (h1 : patB p = true) (h2 : p ≠ []) (h3 : p.length ≤ 1000) (h4 : p.sum ≤ aliveAt ws ds ds.length) : Pre ws (ds ++ [p]) := by
  refine ⟨fun q hq => ?_, fun i q hq => ?_⟩
  · rcases List.mem_append.mp hq with z | z
    · exact h.pat q z
    · simp at z
      subst z
      exact ⟨h1, h2, h3⟩
  · by_cases hi : i < ds.length
    · rw [List.getElem?_append_left hi] at hq
      rw [aliveAt_app (by omega)]
      exact h.fit i q hq
    · have hi2 : i = ds.length := by
        have := (List.getElem?_eq_some_iff.mp hq).1
        simp at this
        omega
      subst hi2
      simp at hq
      subst hq
      rw [aliveAt_app (Nat.le_refl _)]
      exact h4
def capB (m : Int) (w : Int) : Int := if m < w then m else w
theorem Pre.cal {ws : List Int} {ds : List (List Int)} (h : Pre ws ds) (hw : ∀ w ∈ ws, 0 ≤ w) (n1 : 1 ≤ ws.length) (n2 : ws.length ≤ 12) (m : ds.length ≤ 11) : CalOk (ws.map (capB (ds.length : Int))) ds := by
  refine ⟨by simpa using n1, by simpa using n2, m, h.pat, fun b hb => ?_, fun i p hp => ?_⟩
  · obtain ⟨w, h1, rfl⟩ := List.mem_map.mp hb
    have := hw w h1
    unfold capB
    split <;> omega
  · have hi : i < ds.length := (List.getElem?_eq_some_iff.mp hp).1
    have e : aliveAt (ws.map (capB (ds.length : Int))) ds i = aliveAt ws ds i := by
      unfold aliveAt
      rw [List.filter_map, List.length_map]
      congr 3
      apply List.filter_congr
      intro w _
      unfold capB
      simp only [Function.comp]
      split
      · simp
        omega
      · rfl
    rw [e]
    exact h.fit i p hp
end DL
set_option Elab.async false
set_option linter.all false
set_option maxRecDepth 100000
set_option maxHeartbeats 2000000
/-! the state of a calendar that is drawn -/
namespace DL
open PySem PySem.Spec PyProof.Rows L2 RZ
theorem TupTD.tk {H H' : Hp} {a : Addr} {nss : List (List Int)} (h : TupTD H a nss) (e : TK H H') : TupTD H' a nss := by
  obtain ⟨qs, h1, h2, h3⟩ := h
  exact ⟨qs, h1.tk e, h2, fun i q ns a b => (h3 i q ns a b).tk e⟩
structure Apart (a W B D : Addr) : Prop where
  wa : W ≠ a
  ba : B ≠ a
  da : D ≠ a
  wb : W ≠ B
  wd : W ≠ D
  bd : B ≠ D
structure CalSt (K : PySem.W.Frag) (a : Addr) (H0 : Hp) (W B D : Addr) (ws nb : List Int) (ds : List (List Int)) (qs : List Addr) (H : Hp) : Prop where
  st : Stay a H0 H
  tk : TK H0 H
  nw : H0 W = Option.none
  nb0 : H0 B = Option.none
  nd : H0 D = Option.none
  hw : H W = some (.lst (ws.map V.int))
  hb : H B = some (.lst (nb.map V.int))
  hd : H D = some (.lst (qs.map V.ref))
  len : qs.length = ds.length
  tup : ∀ (i : Nat) (q : Addr) (ps : List Int), qs[i]? = some q → ds[i]? = some ps → TupD H q (ps.map V.int)
section
variable {K : PySem.W.Frag} {a : Addr} {H0 H H' : Hp} {W B D : Addr} {ws nb : List Int} {ds : List (List Int)} {qs : List Addr}
theorem CalSt.stay (c : CalSt K a H0 W B D ws nb ds qs H) (x : Apart a W B D) (s : Stay a H H') : CalSt K a H0 W B D ws nb ds qs H' :=
  ⟨c.st.trans s, c.tk.trans (TK.stay c.st.1 s), c.nw, c.nb0, c.nd, s.2 _ _ x.wa c.hw, s.2 _ _ x.ba c.hb, s.2 _ _ x.da c.hd, c.len, fun i q ps h1 h2 => (c.tup i q ps h1 h2).tk (TK.stay c.st.1 s)⟩
theorem CalSt.same (c : CalSt K a H0 W B D ws nb ds qs H) (s : Same H H') : CalSt K a H0 W B D ws nb ds qs H' :=
  ⟨c.st.same s, c.tk.trans (TK.same s), c.nw, c.nb0, c.nd, s _ _ c.hw, s _ _ c.hb, s _ _ c.hd, c.len, fun i q ps h1 h2 => (c.tup i q ps h1 h2).same s⟩
theorem CalSt.push (c : CalSt K a H0 W B D ws nb ds qs H) (x : Apart a W B D) {q : Addr} {p : List Int} (h : TupD H q (p.map V.int)) : CalSt K a H0 W B D ws nb (ds ++ [p]) (qs ++ [q]) (upd H D (.lst (qs.map V.ref ++ [.ref q]))) := by
  have tk : TK H (upd H D (.lst (qs.map V.ref ++ [.ref q]))) := TK.lst c.hd
  refine ⟨c.st.mut c.nd x.da, c.tk.trans tk, c.nw, c.nb0, c.nd, by rw [upd_ne x.wd]; exact c.hw, by rw [upd_ne x.bd]; exact c.hb, by rw [upd_same, List.map_append]; rfl, by simp [c.len], fun i r ps h1 h2 => ?_⟩
  by_cases hi : i < ds.length
  · rw [List.getElem?_append_left (by rw [c.len]; exact hi)] at h1
    rw [List.getElem?_append_left hi] at h2
    exact (c.tup i r ps h1 h2).tk tk
  · have hi2 : i = ds.length := by
      have := (List.getElem?_eq_some_iff.mp h2).1
      simp at this
      omega
    subst hi2
    rw [← c.len] at h1
    simp at h1
    simp at h2
    subst h1 h2
    exact h.tk tk
theorem CalSt.setB (c : CalSt K a H0 W B D ws nb ds qs H) (x : Apart a W B D) (nb' : List Int) : CalSt K a H0 W B D ws nb' ds qs (upd H B (.lst (nb'.map V.int))) :=
  ⟨c.st.mut c.nb0 x.ba, c.tk.trans (TK.lst c.hb), c.nw, c.nb0, c.nd, by rw [upd_ne x.wb]; exact c.hw, upd_same, by rw [upd_ne (Ne.symm x.bd)]; exact c.hd, c.len, fun i q ps h1 h2 => (c.tup i q ps h1 h2).tk (TK.lst c.hb)⟩
end
theorem TupTI.tk {K : PySem.W.Frag} {H H' : Hp} {a : Addr} {nss : List (List Int)} (h : TupTI K H a nss) (e : TK H H') : TupTI K H' a nss := by
  obtain ⟨qs, h1, h2, h3⟩ := h
  exact ⟨qs, TK.seqT e h1, h2, fun i q ns a b => (h3 i q ns a b).tk e⟩
theorem CalAt.stay {K : PySem.W.Frag} {C a : Addr} {H H' : Hp} {c : Addr} {bs : List Int} {ds : List (List Int)} (h : CalAt K C H c bs ds) (r : Src a H) (e : Stay a H H') : CalAt K C H' c bs ds := by
  obtain ⟨dx, b, d, fs, h1, h2, h3, h4, h5⟩ := h
  exact ⟨dx, b, d, fs, e.2 _ _ (src_ne_t r h1 fun _ _ z => by cases z) h1, h2, h3, h4.tk (TK.stay r e), h5.tk (TK.stay r e)⟩
theorem filt0 {ws : List Int} (h : ∀ w ∈ ws, 0 ≤ w) : ((ws.filter fun z => decide (V.int z = V.int 0)).length : Int) = aliveAt ws [] 0 := by
  unfold aliveAt
  simp only [List.take_nil, List.map_nil, List.sum_nil, Int.sub_zero]
  congr 2
  apply List.filter_congr
  intro w hw
  have := h w hw
  simp
  omega
theorem count_filt (ws : List Int) (m : Int) : (ws.filter fun z => decide (V.int z = V.int m)).length = ws.count m := by
  rw [List.count_eq_length_filter]
  congr 1
  apply List.filter_congr
  intro w _
  by_cases h : w = m <;> simp [h]
end DL
set_option Elab.async false
set_option linter.all false
set_option maxRecDepth 100000
set_option maxHeartbeats 2000000
/-! what the head tells, by defs and classes -/
namespace DL
open PySem PySem.Spec PyProof.Rows L2 RZ
structure Df (K : PySem.W.Frag) (x : Str) (st : Stmt) : Prop where
  ex : ∃ (f : Addr) (oc : Value) (od : Option Addr) (osl : Array (Option Value)) (kV doc pm : Value) (an : Option Addr) (cdv ct : Value),
    PySem.W.nsIn K mainGlobals x = some (some (.ref f)) ∧ K.lookup f = some ⟨oc, od, .func (PySem.W.fnOf x x (defArgs st) (defBody st) (defScope st) .none kV doc pm an cdv ct), osl⟩ ∧ PySem.W.codeIn K cdv x = true ∧ PySem.W.keepIn K (.ref f) = true
theorem Df.up {K : PySem.W.Frag} {h : Heap} {mg : Str → Option Value} {x : Str} {st : Stmt} (d : Df K x st) (X : K.In h) (G : h.Ns mainGlobals mg) : Up K mg x st := by
  obtain ⟨f, oc, od, osl, kV, doc, pm, an, cdv, ct, h1, h2, h3, h4⟩ := d.ex
  exact ⟨f, _, fun_mk h2 h3 h4, PySem.W.mg_of X G h1⟩
/-- an error class over ValueError, its __init__ the def st of the name q -/
structure DEr (K : PySem.W.Frag) (x q : Str) (st : Stmt) : Prop where
  ex : ∃ (C f : Addr) (nm q2 : Str) (N : Addr) (bs bm : List Value) (sn : List Str) (sub : List Value) (ab : Bool) (col : Option Bool) (dd : Option Addr) (m0 m1 m2 m3 m5 : Option Value) (oc : Value) (od : Option Addr) (osl : Array (Option Value)) (kV doc pm : Value) (an : Option Addr) (cdv ct : Value),
    PySem.W.nsIn K mainGlobals x = some (some (.ref C)) ∧ K.lookup C = some (excClassObj nm q2 C N bs bm true sn sub ab col dd m0 m1 m2 m3 m5 "ValueError.__new__") ∧ PySem.HandSPX.refsVE bm = true ∧
    PySem.W.findIn K (.ref C) "__setattr__" = some (some (.builtin "object.__setattr__")) ∧ PySem.W.subIn K (.ref C) (.type "BaseException") = some true ∧ PySem.W.typeIn K (.ref C) = some (.type "type") ∧ PySem.W.keepIn K (.ref C) = true ∧
    PySem.W.findIn K (.ref C) "__init__" = some (some (.ref f)) ∧ PySem.W.typeIn K (.ref f) = some (.type "function") ∧ PySem.W.findIn K (.ref C) "__getattribute__" = some (some (.builtin "BaseException.__getattribute__")) ∧ PySem.W.findIn K (.ref C) "__getattr__" = some none ∧
    PySem.W.hasDictIn K C = true ∧ PySem.W.findIn K (.ref C) "what" = some none ∧ PySem.W.isClsIn K C = true ∧ PySem.W.subIn K (.ref C) (.ref C) = some true ∧
    K.lookup f = some ⟨oc, od, .func (PySem.W.fnOf "__init__" q (defArgs st) (defBody st) (defScope st) .none kV doc pm an cdv ct), osl⟩ ∧ PySem.W.codeIn K cdv q = true ∧ PySem.W.keepIn K (.ref f) = true
theorem DEr.er {K : PySem.W.Frag} {h : Heap} {mg : Str → Option Value} {x q : Str} {st : Stmt} (d : DEr K x q st) (X : K.In h) (G : h.Ns mainGlobals mg) : ∃ (C f : Addr) (fd : FuncData), Er K mg x C f ∧ Fun K "__init__" q st f fd := by
  obtain ⟨C, f, nm, q2, N, bs, bm, sn, sub, ab, col, dd, m0, m1, m2, m3, m5, oc, od, osl, kV, doc, pm, an, cdv, ct, h1, h2, h3, h4, h5, h6, h7, h8, h9, h10, h11, h12, h13, h14, h15, h16, h17, h18⟩ := d.ex
  exact ⟨C, f, _, ⟨PySem.W.mg_of X G h1, ⟨⟨nm, q2, N, bs, bm, sn, sub, ab, col, dd, m0, m1, m2, m3, m5, h2, h3⟩, h4, h5, h6, h7⟩, h8, h9, ⟨h10, h11, h5, h12⟩, h13, exm_self h5 h14 h6 h15⟩, fun_mk h16 h17 h18⟩
/-- the class Calendar -/
structure DCal (K : PySem.W.Frag) (st : Stmt) : Prop where
  ex : ∃ (C f : Addr) (oc : Value) (od : Option Addr) (osl : Array (Option Value)) (kV doc pm : Value) (an : Option Addr) (cdv ct : Value),
    PySem.W.nsIn K mainGlobals "Calendar" = some (some (.ref C)) ∧ PySem.W.plainGet K C Str.empty = true ∧ PySem.W.hasDictIn K C = true ∧ PySem.W.plainOver K C = true ∧ PySem.W.findIn K (.ref C) "__setattr__" = some (some (.builtin "object.__setattr__")) ∧
    PySem.W.makesIn K C = true ∧ PySem.W.keepIn K (.ref C) = true ∧ PySem.W.findIn K (.ref C) "born" = some none ∧ PySem.W.findIn K (.ref C) "days" = some none ∧ PySem.W.findIn K (.ref C) "__init__" = some (some (.ref f)) ∧ PySem.W.isFn K (.ref f) = true ∧
    K.lookup f = some ⟨oc, od, .func (PySem.W.fnOf "__init__" "Calendar.__init__" (defArgs st) (defBody st) (defScope st) .none kV doc pm an cdv ct), osl⟩ ∧ PySem.W.codeIn K cdv "Calendar.__init__" = true ∧ PySem.W.keepIn K (.ref f) = true
theorem DCal.cl {K : PySem.W.Frag} {h : Heap} {mg : Str → Option Value} {st : Stmt} (d : DCal K st) (X : K.In h) (G : h.Ns mainGlobals mg) : ∃ (C f : Addr) (fd : FuncData), ClC K mg C f ∧ Fun K "__init__" "Calendar.__init__" st f fd := by
  obtain ⟨C, f, oc, od, osl, kV, doc, pm, an, cdv, ct, h1, h2, h3, h4, h5, h6, h7, h8, h9, h10, h11, h12, h13, h14⟩ := d.ex
  exact ⟨C, f, _, ⟨⟨h2, h3, h4, h5⟩, h8, h9, PySem.W.mg_of X G h1, ⟨h6, h10, h11, h7⟩⟩, fun_mk h12 h13 h14⟩
/-- built-in names that the module does not bind -/
structure DBl (K : PySem.W.Frag) : Prop where
  ex : PySem.W.nsIn K mainGlobals "len" = some none ∧ PySem.W.nsIn K mainGlobals "sum" = some none ∧ PySem.W.nsIn K mainGlobals "min" = some none ∧ PySem.W.nsIn K mainGlobals "max" = some none ∧ PySem.W.nsIn K mainGlobals "int" = some none ∧ PySem.W.nsIn K mainGlobals "tuple" = some none ∧
    PySem.W.nsIn K mainGlobals "isinstance" = some none ∧ PySem.W.nsIn K mainGlobals "all" = some none ∧ PySem.W.nsIn K mainGlobals "range" = some none ∧ PySem.W.nsIn K mainGlobals "enumerate" = some none ∧ PySem.W.nsIn K mainGlobals "zip" = some none ∧ PySem.W.nsIn K mainGlobals "bool" = some none ∧ PySem.W.nsIn K mainGlobals "list" = some none
theorem DBl.bl {K : PySem.W.Frag} {h : Heap} {mg : Str → Option Value} (d : DBl K) (X : K.In h) (G : h.Ns mainGlobals mg) : Bl mg := by
  obtain ⟨h1, h2, h3, h4, h5, h6, h7, h8, h9, h10, h11, h12, h13⟩ := d.ex
  exact ⟨PySem.W.mg_none_of X G h1, PySem.W.mg_none_of X G h2, PySem.W.mg_none_of X G h3, PySem.W.mg_none_of X G h4, PySem.W.mg_none_of X G h5, PySem.W.mg_none_of X G h6, PySem.W.mg_none_of X G h7, PySem.W.mg_none_of X G h8, PySem.W.mg_none_of X G h9, PySem.W.mg_none_of X G h10, PySem.W.mg_none_of X G h11, PySem.W.mg_none_of X G h12, PySem.W.mg_none_of X G h13⟩
/-- a number of the module -/
structure DKn (K : PySem.W.Frag) (x : Str) (n : Int) : Prop where
  ex : ∃ t, PySem.W.nsIn K mainGlobals x = some (some (.int n t))
theorem DKn.kn {K : PySem.W.Frag} {h : Heap} {mg : Str → Option Value} {x : Str} {n : Int} (d : DKn K x n) (X : K.In h) (G : h.Ns mainGlobals mg) : ∃ t, mg x = some (.int n t) := by
  obtain ⟨t, e⟩ := d.ex
  exact ⟨t, PySem.W.mg_of X G e⟩
/-- two defs of different names stand apart -/
theorem fun_ne {K : PySem.W.Frag} {x y : Str} {st st2 : Stmt} {f g : Addr} {fd fd2 : FuncData} (F : Fun K x x st f fd) (G : Fun K y y st2 g fd2) (h : x ≠ y) : f ≠ g := by
  intro e
  subst e
  obtain ⟨oc, od, kV, doc, pm, an, cdv, ct, osl, rfl, lk, _⟩ := F.ex
  obtain ⟨oc2, od2, kV2, doc2, pm2, an2, cdv2, ct2, osl2, rfl, lk2, _⟩ := G.ex
  rw [lk] at lk2
  have e1 := Option.some.inj lk2
  injection e1 with _ _ e2 _
  injection e2 with e3
  have e4 := congrArg FuncData.name e3
  exact h e4
theorem Df.of {K : PySem.W.Frag} {x : Str} {st : Stmt} {f : Addr} {oc : Value} {od : Option Addr} {osl : Array (Option Value)} {kV doc pm : Value} {an : Option Addr} {cdv ct : Value} (h1 : PySem.W.nsIn K mainGlobals x = some (some (.ref f))) (h2 : K.lookup f = some ⟨oc, od, .func (PySem.W.fnOf x x (defArgs st) (defBody st) (defScope st) .none kV doc pm an cdv ct), osl⟩) (h3 : PySem.W.codeIn K cdv x = true) (h4 : PySem.W.keepIn K (.ref f) = true) : Df K x st := ⟨⟨f, oc, od, osl, kV, doc, pm, an, cdv, ct, h1, h2, h3, h4⟩⟩
theorem DEr.of {K : PySem.W.Frag} {x q : Str} {st : Stmt} {C f : Addr} {nm q2 : Str} {N : Addr} {bs bm : List Value} {sn : List Str} {sub : List Value} {ab : Bool} {col : Option Bool} {dd : Option Addr} {m0 m1 m2 m3 m5 : Option Value} {oc : Value} {od : Option Addr} {osl : Array (Option Value)} {kV doc pm : Value} {an : Option Addr} {cdv ct : Value} (h1 : PySem.W.nsIn K mainGlobals x = some (some (.ref C))) (h2 : K.lookup C = some (excClassObj nm q2 C N bs bm true sn sub ab col dd m0 m1 m2 m3 m5 "ValueError.__new__")) (h3 : PySem.HandSPX.refsVE bm = true) (h4 : PySem.W.findIn K (.ref C) "__setattr__" = some (some (.builtin "object.__setattr__"))) (h5 : PySem.W.subIn K (.ref C) (.type "BaseException") = some true) (h6 : PySem.W.typeIn K (.ref C) = some (.type "type")) (h7 : PySem.W.keepIn K (.ref C) = true) (h8 : PySem.W.findIn K (.ref C) "__init__" = some (some (.ref f))) (h9 : PySem.W.typeIn K (.ref f) = some (.type "function")) (h10 : PySem.W.findIn K (.ref C) "__getattribute__" = some (some (.builtin "BaseException.__getattribute__"))) (h11 : PySem.W.findIn K (.ref C) "__getattr__" = some none) (h12 : PySem.W.hasDictIn K C = true) (h13 : PySem.W.findIn K (.ref C) "what" = some none) (h14 : PySem.W.isClsIn K C = true) (h15 : PySem.W.subIn K (.ref C) (.ref C) = some true) (h16 : K.lookup f = some ⟨oc, od, .func (PySem.W.fnOf "__init__" q (defArgs st) (defBody st) (defScope st) .none kV doc pm an cdv ct), osl⟩) (h17 : PySem.W.codeIn K cdv q = true) (h18 : PySem.W.keepIn K (.ref f) = true) : DEr K x q st := ⟨⟨C, f, nm, q2, N, bs, bm, sn, sub, ab, col, dd, m0, m1, m2, m3, m5, oc, od, osl, kV, doc, pm, an, cdv, ct, h1, h2, h3, h4, h5, h6, h7, h8, h9, h10, h11, h12, h13, h14, h15, h16, h17, h18⟩⟩
theorem DCal.of {K : PySem.W.Frag} {st : Stmt} {C f : Addr} {oc : Value} {od : Option Addr} {osl : Array (Option Value)} {kV doc pm : Value} {an : Option Addr} {cdv ct : Value} (h1 : PySem.W.nsIn K mainGlobals "Calendar" = some (some (.ref C))) (h2 : PySem.W.plainGet K C Str.empty = true) (h3 : PySem.W.hasDictIn K C = true) (h4 : PySem.W.plainOver K C = true) (h5 : PySem.W.findIn K (.ref C) "__setattr__" = some (some (.builtin "object.__setattr__"))) (h6 : PySem.W.makesIn K C = true) (h7 : PySem.W.keepIn K (.ref C) = true) (h8 : PySem.W.findIn K (.ref C) "born" = some none) (h9 : PySem.W.findIn K (.ref C) "days" = some none) (h10 : PySem.W.findIn K (.ref C) "__init__" = some (some (.ref f))) (h11 : PySem.W.isFn K (.ref f) = true) (h12 : K.lookup f = some ⟨oc, od, .func (PySem.W.fnOf "__init__" "Calendar.__init__" (defArgs st) (defBody st) (defScope st) .none kV doc pm an cdv ct), osl⟩) (h13 : PySem.W.codeIn K cdv "Calendar.__init__" = true) (h14 : PySem.W.keepIn K (.ref f) = true) : DCal K st := ⟨⟨C, f, oc, od, osl, kV, doc, pm, an, cdv, ct, h1, h2, h3, h4, h5, h6, h7, h8, h9, h10, h11, h12, h13, h14⟩⟩
theorem DKn.of {K : PySem.W.Frag} {x : Str} {n : Int} {t : Tok} (h : PySem.W.nsIn K mainGlobals x = some (some (.int n t))) : DKn K x n := ⟨⟨t, h⟩⟩
end DL
set_option Elab.async false
set_option linter.all false
set_option maxRecDepth 100000
set_option maxHeartbeats 4000000
/-! tuples whose object is known: displays, sums, products, slices -/
namespace DL
open PySem PySem.Spec PyProof.Rows L2 RZ
section
variable {X : Cx} {es : List Expr} {t : TA} {pos : Pos}
def tTupD (t : TA) : TE := fun σ H Q => t σ H fun xs H1 => xs.length ≤ sizeLine ∧ NewT xs H1 Q
theorem pe_tupD {x1} (h : PA X es t) : PE X (.Tuple es x1 pos) (tTupD t) := by
  refine ⟨fun pins s σ H Q I hq => ?_⟩
  refine wpAny_Tuple_spliced (thn (h.run pos pins s σ H _ I hq) fun us s1 ⟨xs, H1, I1, r, z, q⟩ => ⟨by rw [← r.length]; exact z, ?_⟩)
  obtain ⟨H', I', s', d'⟩ := laidD (t := s1.toks) I1 z r
  exact ⟨.ref s1.heap.objs.size, H', I', rfl, q _ _ s' d'⟩
def rCatD : R2 := fun x y H Q => ∃ a b xs ys, x = .ref a ∧ y = .ref b ∧ TupD H a xs ∧ TupD H b ys ∧ xs.length + ys.length ≤ sizeLine ∧ NewT (xs ++ ys) H Q
theorem op_catD : OpR X (binaryOp .Add) rCatD := by
  intro pins s σ H x y v u Q I rx ry h
  obtain ⟨a, b, xs, ys, rfl, rfl, ha, hb, hz, q⟩ := h
  cases rx
  cases ry
  obtain ⟨its, r1, p1, _⟩ := I.tuple (ha.sq (K := X.K))
  obtain ⟨its2, r2, p2, _⟩ := I.tuple (hb.sq (K := X.K))
  by_cases hx : xs = []
  · subst hx
    cases r1
    exact cat_tup0 p1 p2 ⟨.ref b, H, I, rfl, q b H (Same.refl H) hb⟩
  · refine HT.cat_tup p1 p2 (fun z => hx (r1.nil_iff.mp z)) (fun z => ⟨.ref a, H, I, rfl, q a H (Same.refl H) ?_⟩) (fun z => ?_) (by rw [← r1.length, ← r2.length]; exact hz)
    · have e : ys = [] := r2.nil_iff.mp z
      rw [e, List.append_nil]
      exact ha
    · obtain ⟨H', I', s', d'⟩ := laidD (t := s.toks) I (by rw [List.length_append]; exact hz) (r1.append r2)
      exact ⟨.ref s.heap.objs.size, H', I', rfl, q _ _ s' d'⟩
def rSlD : V → Option Int → Option Int → Hp → VK → Prop := fun x lo hi H Q => ∃ a xs, x = .ref a ∧ TupD H a xs ∧ NewT (cutV xs lo hi) H Q
theorem sl_tupD : SlR X rSlD := by
  intro pins s σ H x v vl vu lo hi sl Q I rx hs pl pu h
  obtain ⟨a, xs, rfl, hx, q⟩ := h
  cases rx
  obtain ⟨its, r, ht, hz⟩ := I.tuple (hx.sq (K := X.K))
  have hlen : its.toArray.size = xs.length := by rw [List.size_toArray]; exact r.length.symm
  refine ⟨"tuple", _, PyProof.Rows.slot_tuple_getitem.lookup, ht.typeIs, ?_⟩
  by_cases hw : HT.sIx xs.length 0 lo = 0 ∧ HT.sIx xs.length xs.length hi = xs.length
  · refine getItem_tuple_whole ht hs pl pu (by rw [hlen]; exact hw) ⟨.ref a, H, I, rfl, q a H (Same.refl H) ?_⟩
    have e : cutV xs lo hi = xs := by
      unfold cutV
      rw [hw.1, hw.2]
      simp
    rw [e]
    exact hx
  · refine HT.getItem_tuple_cut ht hs pl pu (by rw [hlen]; exact hw) ?_ (by rw [hlen]; exact hz)
    rw [hlen]
    obtain ⟨H', I', s', d'⟩ := laidD (t := s.toks) I (Nat.le_trans (cutV_length xs lo hi) hz) ((r.drop (HT.sIx xs.length 0 lo)).take (HT.sIx xs.length xs.length hi - HT.sIx xs.length 0 lo))
    exact ⟨.ref s.heap.objs.size, H', I', rfl, q _ _ s' d'⟩
end
theorem tuple_mul1 (l : Addr) (items : Array Value) (n : Nat) (dd : Option Addr) (sl : Array (Option Value)) (x : Int) (u : Tok) (c0 : (decide (x < -(2 ^ 63)) || decide (x ≥ 2 ^ 63)) = false) (c1 : (items.isEmpty || x == 1) = true) :
    Meets (Builtin.«tuple.__mul__» ⟨[.ref l, .int x u], []⟩) (fun _ R s => s.heap.get? l = some { cls := .type "tuple", dict := dd, data := .seq items n, slots := sl } ∧ R (.ok (.ret (Value.ref l))) s) :=
  .of_wp fun prog w A R s h => by
    obtain ⟨hp, g, d, tk, os⟩ := s
    obtain ⟨hl, h⟩ := h
    have f1 := AutoSeq1.idx_int
    wp_walk using wpAny_loadPart' hl
    repeat (first
      | (refine wpAny_ite_false (decide_eq_false (by rw [c0]; exact Bool.false_ne_true)) ?_; wp_walk using wpAny_loadPart' hl)
      | (refine wpAny_ite_true (decide_eq_true (by rw [c1])) ?_; wp_walk using wpAny_loadPart' hl))
    exact ⟨_, rfl, h⟩
theorem tuple_mul0 (l : Addr) (items : Array Value) (n : Nat) (dd : Option Addr) (sl : Array (Option Value)) (x : Int) (u : Tok) (c0 : (decide (x < -(2 ^ 63)) || decide (x ≥ 2 ^ 63)) = false) (c1 : (items.isEmpty || x == 1) = false) (c2 : (decide (x ≤ 0) || items.isEmpty) = true) :
    Meets (Builtin.«tuple.__mul__» ⟨[.ref l, .int x u], []⟩) (fun _ R s => s.heap.get? l = some { cls := .type "tuple", dict := dd, data := .seq items n, slots := sl } ∧
      R (.ok (.ret (Value.ref s.heap.objs.size))) { s with heap := s.heap.push { cls := Value.type "tuple", data := Data.seq #[] }, toks := s.toks }) :=
  .of_wp fun prog w A R s h => by
    obtain ⟨hp, g, d, tk, os⟩ := s
    obtain ⟨hl, h⟩ := h
    have f1 := AutoSeq1.idx_int
    wp_walk using wpAny_loadPart' hl
    repeat (first
      | (refine wpAny_ite_false (decide_eq_false (by rw [c0]; exact Bool.false_ne_true)) ?_; wp_walk using wpAny_loadPart' hl)
      | (refine wpAny_ite_false (decide_eq_false (by rw [c1]; exact Bool.false_ne_true)) ?_; wp_walk using wpAny_loadPart' hl)
      | (refine wpAny_ite_true (decide_eq_true (by rw [c2])) ?_; wp_walk using wpAny_loadPart' hl))
    exact ⟨_, rfl, h⟩
def rRepD : R2 := fun x y H Q => ∃ l k xs, x = .ref l ∧ y = .int k ∧ TupD H l xs ∧ -1000 ≤ k ∧ k ≤ 1000 ∧ xs.length ≤ 1000 ∧ NewT (List.replicate k.toNat xs).flatten H Q
section
variable {X : Cx}
theorem op_repD : OpR X (binaryOp .Mult) rRepD := by
  intro pins s σ H x y v u Q I rx ry h
  obtain ⟨l, k, xs, rfl, rfl, hT, h1, h2, hz, q⟩ := h
  cases rx
  obtain ⟨t, rfl⟩ := ry
  obtain ⟨its, r, ⟨⟨cls, dd, data, sl⟩, ho, hc, n, hd⟩, hs⟩ := I.tuple (hT.sq (K := X.K))
  simp only at hc hd
  subst hc hd
  have hle : its.length = xs.length := r.length.symm
  have hsz0 : its.toArray.size = xs.length := by rw [List.size_toArray, hle]
  have c0 : (decide (k < -(2 ^ 63)) || decide (k ≥ 2 ^ 63)) = false := by
    rw [decide_eq_false (by omega), decide_eq_false (by omega)] <;> rfl
  by_cases e1 : (its.toArray.isEmpty || k == 1) = true
  · have ex : (List.replicate k.toNat xs).flatten = xs := by
      rcases (Bool.or_eq_true_iff.mp e1) with h | h
      · have hx : xs = [] := by
          have : its = [] := by simpa using h
          rw [this] at hle
          exact List.eq_nil_of_length_eq_zero hle.symm
        subst hx
        simp
      · have hk : k = 1 := by simpa using h
        subst hk
        simp
    refine wpAny_binaryOp_repeat_ref (T := "tuple") (U := "int") (by decide) ⟨_, ho, rfl⟩ (fun s' => typeIs_int s' k t) noFill_tuple_mul F.fills_int_mul F.slot_int_rmul repeat_tuple F.slot_int_index.lookup
      (call_meets F.slot_int_rmul (typeIs_int s k t) F.entry_int_rmul (F.args_int_rmul_2 _ _) (int_rmul_tuple k t l its.toArray n dd sl)
        ⟨ho, rfl, ⟨_, ho, rfl⟩, call_meets F.slot_tuple_mul ⟨_, ho, rfl⟩ F.entry_tuple_mul (F.args_tuple_mul_2 _ _) (tuple_mul1 l its.toArray n dd sl k t c0 e1) ⟨ho, ?_⟩⟩)
    exact ⟨.ref l, H, I, rfl, q l H (Same.refl H) (by rw [ex]; exact hT)⟩
  · have c1 : (its.toArray.isEmpty || k == 1) = false := by simpa using e1
    have hne : its.toArray.isEmpty = false := (Bool.or_eq_false_iff.mp c1).1
    have hk1 : k ≠ 1 := by
      have := (Bool.or_eq_false_iff.mp c1).2
      simpa using this
    by_cases e2 : k ≤ 0
    · have c2 : (decide (k ≤ 0) || its.toArray.isEmpty) = true := by rw [decide_eq_true e2]; rfl
      refine wpAny_binaryOp_repeat_ref (T := "tuple") (U := "int") (by decide) ⟨_, ho, rfl⟩ (fun s' => typeIs_int s' k t) noFill_tuple_mul F.fills_int_mul F.slot_int_rmul repeat_tuple F.slot_int_index.lookup
        (call_meets F.slot_int_rmul (typeIs_int s k t) F.entry_int_rmul (F.args_int_rmul_2 _ _) (int_rmul_tuple k t l its.toArray n dd sl)
          ⟨ho, rfl, ⟨_, ho, rfl⟩, call_meets F.slot_tuple_mul ⟨_, ho, rfl⟩ F.entry_tuple_mul (F.args_tuple_mul_2 _ _) (tuple_mul0 l its.toArray n dd sl k t c0 c1 c2) ⟨ho, ?_⟩⟩)
      obtain ⟨H', I', s', d'⟩ := laidD (xs := []) (us := []) (t := s.toks) I (Nat.zero_le _) .nil
      refine ⟨.ref s.heap.objs.size, H', I', rfl, q _ _ s' ?_⟩
      rw [show k.toNat = 0 by omega]
      exact d'
    · have hm : ((its.toArray.size : Nat) : Int) * k ≤ 1000000 := by
        rw [hsz0]
        have a1 : ((xs.length : Nat) : Int) * k ≤ 1000 * k := Int.mul_le_mul_of_nonneg_right (by omega) (by omega)
        omega
      have flen : (List.replicate k.toNat its).flatten.length ≤ sizeLine := by
        rw [PyProof.Rows.lm_len_rep_flat, hle, sizeLine_eq]
        have a1 : k.toNat * xs.length ≤ 1000 * 1000 := Nat.mul_le_mul (by omega) hz
        omega
      have c2 : (decide (k ≤ 0) || its.toArray.isEmpty) = false := by
        rw [hne, Bool.or_false]
        exact decide_eq_false e2
      have c4 : Builtin.Tuple.tupleTooMany (((its.toArray.size : Nat) : Int) * k) = false := by
        unfold Builtin.Tuple.tupleTooMany
        rw [sizeLine_eq]
        exact decide_eq_false (by omega)
      refine wpAny_binaryOp_repeat_ref (T := "tuple") (U := "int") (by decide) ⟨_, ho, rfl⟩ (fun s' => typeIs_int s' k t) noFill_tuple_mul F.fills_int_mul F.slot_int_rmul repeat_tuple F.slot_int_index.lookup
        (call_meets F.slot_int_rmul (typeIs_int s k t) F.entry_int_rmul (F.args_int_rmul_2 _ _) (int_rmul_tuple k t l its.toArray n dd sl)
          ⟨ho, rfl, ⟨_, ho, rfl⟩, call_meets F.slot_tuple_mul ⟨_, ho, rfl⟩ F.entry_tuple_mul (F.args_tuple_mul_2 _ _) (tuple_mulW l its.toArray n dd sl k t c0 c1 c2 (by omega) c4 (by rw [size_rep, List.size_toArray]; exact flen)) ⟨ho, ?_⟩⟩)
      rw [size_rep]
      have hx : (List.replicate k.toNat xs).flatten.length ≤ sizeLine := by
        rw [PyProof.Rows.lm_len_rep_flat, ← hle, ← PyProof.Rows.lm_len_rep_flat]
        exact flen
      obtain ⟨H', I', s', d'⟩ := laidD (t := s.toks) I hx (r.rep k.toNat)
      exact ⟨.ref s.heap.objs.size, H', I', rfl, q _ _ s' d'⟩
end
end DL
set_option Elab.async false
set_option linter.all false
set_option maxRecDepth 100000
set_option maxHeartbeats 2000000
/-! deep equality of rows of rows -/
namespace DL
open PySem PySem.Spec PyProof.Rows L2 RZ
theorem eqv_map {α : Type} [DecidableEq α] {f : α → PyData} (h : ∀ x y, PyData.eqv (f x) (f y) = decide (x = y)) : ∀ a b : List α, PyData.eqvAll (a.map f) (b.map f) = decide (a = b)
  | [], [] => by simp [PyData.eqvAll]
  | [], _ :: _ => by simp [PyData.eqvAll]
  | _ :: _, [] => by simp [PyData.eqvAll]
  | x :: a, y :: b => by
    simp only [List.map_cons, PyData.eqvAll, h x y, eqv_map h a b]
    by_cases e : x = y
    · subst e
      simp
    · simp [e]
theorem lay_map {α : Type} {f : α → PyData} (h : ∀ x, (f x).canLay0 = true) : ∀ a : List α, PyData.canLayAll0 (a.map f) = true
  | [] => by simp [PyData.canLayAll0]
  | x :: a => by simp [PyData.canLayAll0, h x, lay_map h a]
theorem depth_map {α : Type} {f : α → PyData} {n : Nat} (h : ∀ x, (f x).depth ≤ n) : ∀ a : List α, PyData.depthAll (a.map f) ≤ n
  | [] => by simp [PyData.depthAll]
  | x :: a => by
    have h1 := h x
    have h2 := depth_map h a
    simp [PyData.depthAll]
    omega
theorem dp_map {α : Type} {f : α → PyData} {K : PySem.W.Frag} {H : Hp} : ∀ (qs : List Addr) (xs : List α), qs.length = xs.length → (∀ (i : Nat) (q : Addr) (x : α), qs[i]? = some q → xs[i]? = some x → Dp K H (.ref q) (f x)) → DpAll K H (qs.map V.ref) (xs.map f)
  | [], [], _, _ => .nil
  | [], _ :: _, e, _ => by cases e
  | _ :: _, [], e, _ => by cases e
  | q :: qs, x :: xs, e, h => .cons (h 0 q x rfl rfl) (dp_map qs xs (by simpa using e) fun i r y h1 h2 => h (i + 1) r y h1 h2)
def P1 (ns : List Int) : PyData := .tuple (ns.map PyData.int)
def P2 (nss : List (List Int)) : PyData := .tuple (nss.map P1)
def PL2 (nss : List (List Int)) : PyData := .list (nss.map P1)
theorem lay1 (ns : List Int) : (P1 ns).canLay0 = true := by simp [P1, PyData.canLay0, lay_ints]
theorem depth1 (ns : List Int) : (P1 ns).depth ≤ 1 := by simp [P1, PyData.depth, depth_ints]
theorem eqv1 (a b : List Int) : PyData.eqv (P1 a) (P1 b) = decide (a = b) := eqv_tup a b
theorem eqvL2 (a b : List (List Int)) : PyData.eqv (PL2 a) (PL2 b) = decide (a = b) := by
  unfold PL2
  simp only [PyData.eqv]
  exact eqv_map eqv1 a b
theorem eqv2 (a b : List (List Int)) : PyData.eqv (P2 a) (P2 b) = decide (a = b) := by
  unfold P2
  simp only [PyData.eqv]
  exact eqv_map eqv1 a b
theorem shapedL2 (a : List (List Int)) : SeqAt.shaped (PL2 a) = true := by
  have := depth_map depth1 a
  unfold SeqAt.shaped PL2
  simp [PyData.canLay0, lay_map lay1, PyData.depth]
  omega
theorem lay2 (a : List (List Int)) : (P2 a).canLay0 = true := by simp [P2, PyData.canLay0, lay_map lay1]
theorem depth2 (a : List (List Int)) : (P2 a).depth ≤ 2 := by
  have := depth_map depth1 a
  simp [P2, PyData.depth]
  omega
theorem dpL2 {K : PySem.W.Frag} {H : Hp} {a : Addr} {qs : List Addr} {nss : List (List Int)} (h : SqL K H a (qs.map V.ref)) (hl : qs.length = nss.length) (hq : ∀ (i : Nat) (q : Addr) (ns : List Int), qs[i]? = some q → nss[i]? = some ns → TupI K H q ns) : Dp K H (.ref a) (PL2 nss) :=
  .lst h (dp_map qs nss hl fun i q x h1 h2 => dp_tup (hq i q x h1 h2))
theorem dp2 {K : PySem.W.Frag} {H : Hp} {a : Addr} {nss : List (List Int)} (h : TupTI K H a nss) : Dp K H (.ref a) (P2 nss) := by
  obtain ⟨qs, h1, h2, h3⟩ := h
  exact .tup h1 (dp_map qs nss h2 fun i q x a b => dp_tup (h3 i q x a b))
/-- (births, days) -/
def P3 (bs : List Int) (ds : List (List Int)) : PyData := .tuple [P1 bs, P2 ds]
theorem shaped3 (bs : List Int) (ds : List (List Int)) : SeqAt.shaped (P3 bs ds) = true := by
  have h1 := depth1 bs
  have h2 := depth2 ds
  unfold SeqAt.shaped P3
  simp [PyData.canLay0, PyData.canLayAll0, lay1, lay2, PyData.depth, PyData.depthAll]
  omega
theorem eqv3 (bs bs' : List Int) (ds ds' : List (List Int)) : PyData.eqv (P3 bs ds) (P3 bs' ds') = (decide (bs = bs') && decide (ds = ds')) := by
  unfold P3
  simp [PyData.eqv, PyData.eqvAll, eqv1, eqv2]
theorem dp3 {K : PySem.W.Frag} {H : Hp} {a b d : Addr} {bs : List Int} {ds : List (List Int)} (h : SqT K H a [.ref b, .ref d]) (hb : TupI K H b bs) (hd : TupTI K H d ds) : Dp K H (.ref a) (P3 bs ds) :=
  .tup h (.cons (dp_tup hb) (.cons (dp2 hd) .nil))
end DL
namespace DL
open PySem PySem.Spec PyProof.Rows L2 RZ
theorem filt_nil {α : Type} (k : α → Bool) : ∀ l : List α, decide ((l.filter fun x => !k x).length = 0) = (l.map k).all id
  | [] => by simp
  | x :: r => by
    have ih := filt_nil k r
    cases h : k x
    · simp [h]
    · simp [h] at ih ⊢
      exact ih
theorem zip_filt_snd {α β : Type} (k : β → Bool) : ∀ (qs : List α) (ds : List β), qs.length = ds.length → ((qs.zip ds).filter fun p => k p.2).map Prod.snd = ds.filter k
  | [], [], _ => rfl
  | [], _ :: _, h => by cases h
  | _ :: _, [], h => by cases h
  | q :: qs, d :: ds, h => by
    have ih := zip_filt_snd k qs ds (by simpa using h)
    cases e : k d
    · simp [e, ih]
    · simp [e, ih]
theorem nil_dec {α : Type} [DecidableEq α] (l : List α) : decide (l = []) = decide (l.length = 0) := by
  cases l <;> simp
end DL
namespace DL
open PySem PySem.Spec PyProof.Rows L2 RZ
section
variable {X : Cx}
theorem call_reprB : CallR X (.builtin "repr") (fun xs H Q => ∃ b : Bool, xs = [.bl b] ∧ Q (.str (if b then "True" else "False")) H) := by
  intro pins s σ H xs us Q I r h
  obtain ⟨b, rfl, q⟩ := h
  obtain ⟨u, rfl, r1⟩ := vals1 r
  cases r1
  exact PySem.P.repr_of_bool ⟨.str _, H, I.tok _, ⟨_, rfl⟩, q⟩
end
structure BlR (mg : Str → Option Value) : Prop where
  repr : mg "repr" = none
end DL
set_option Elab.async false
set_option linter.all false
set_option maxRecDepth 100000
set_option maxHeartbeats 2000000
/-! plain and level calendars: the mathematics -/
namespace DL
open PySem PySem.Spec PyProof.Rows L2 RZ
def countsL (bs : List Int) (ds : List (List Int)) : List Int := (List.range (ds.length + 1)).map (aliveAt bs ds)
def plainB (bs : List Int) (ds : List (List Int)) : Bool := (bs.map fun b => decide (b = 0)).all id && ((ds.map fun p => decide (p = [2])).all id && decide ((ds.length : Int) = (bs.length : Int) - 1))
/-- the sizes of all days, in a row -/
def sizesL (ds : List (List Int)) : List Int := ds.flatten
def fullB (bs : List Int) (ds : List (List Int)) : Bool := (List.range ds.length).all fun i => decide ((ds.getD i []).sum = aliveAt bs ds i)
def alikeB (ns : List Int) : Bool := (ns.map fun s => decide (s = ns.headD 0)).all id
def levelB (bs : List Int) (ds : List (List Int)) : Bool := fullB bs ds && (alikeB (sizesL ds) && decide (aliveAt bs ds ds.length = 1))
theorem all_true {α : Type} {l : List α} {f : α → Bool} (h : (l.map f).all id = true) : ∀ x ∈ l, f x = true := by
  intro x hx
  rw [List.all_eq_true] at h
  exact h _ (List.mem_map_of_mem hx)
theorem sum_twos : ∀ {ds : List (List Int)}, (∀ p ∈ ds, p = [2]) → (ds.map lessI).sum = (ds.length : Int)
  | [], _ => rfl
  | p :: r, h => by
    have e := h p List.mem_cons_self
    subst e
    have ih := sum_twos (ds := r) fun q hq => h q (List.mem_cons_of_mem _ hq)
    rw [List.map_cons, List.sum_cons, ih]
    simp [lessI]
    omega
theorem plain_end {bs : List Int} {ds : List (List Int)} (h1 : (bs.map fun b => decide (b = 0)).all id = true) (h2 : (ds.map fun p => decide (p = [2])).all id = true) :
    decide (aliveAt bs ds ds.length = 1) = decide ((ds.length : Int) = (bs.length : Int) - 1) := by
  have a1 := all_true h1
  have a2 := all_true h2
  have e1 : (bs.filter fun b => decide (b ≤ (ds.length : Int))) = bs := by
    rw [List.filter_eq_self]
    intro b hb
    have := of_decide_eq_true (a1 b hb)
    simp
    omega
  have e2 : (ds.map lessI).sum = (ds.length : Int) := sum_twos fun p hp => of_decide_eq_true (a2 p hp)
  unfold aliveAt
  rw [e1, List.take_length, e2]
  congr 1
  apply propext
  constructor <;> intro h <;> omega
theorem sizes_len {ds : List (List Int)} (h : ∀ p ∈ ds, p.length ≤ 1000) : (sizesL ds).length ≤ 1000 * ds.length := by
  induction ds with
  | nil => simp [sizesL]
  | cons p r ih =>
    have h1 := h p List.mem_cons_self
    have h2 := ih fun q hq => h q (List.mem_cons_of_mem _ hq)
    simp only [sizesL, List.flatten_cons, List.length_append, List.length_cons] at h2 ⊢
    omega
theorem sizes_next {ds : List (List Int)} {i : Nat} {p : List Int} (h : ds[i]? = some p) : sizesL (ds.take (i + 1)) = sizesL (ds.take i) ++ p := by
  have e : ds.take (i + 1) = ds.take i ++ [p] := by rw [List.take_add_one, h] <;> rfl
  rw [e]
  simp [sizesL]
theorem full_of {bs : List Int} {ds : List (List Int)} (h : ∀ i p, ds[i]? = some p → p.sum = aliveAt bs ds i) : fullB bs ds = true := by
  unfold fullB
  rw [List.all_eq_true]
  intro i hi
  have hi' : i < ds.length := by simpa using hi
  have e : ds[i]? = some ds[i] := by simp
  rw [List.getD_eq_getElem?_getD, e]
  simp only [Option.getD_some]
  exact decide_eq_true (h i _ e)
theorem full_not {bs : List Int} {ds : List (List Int)} {i : Nat} {p : List Int} (h : ds[i]? = some p) (hn : p.sum ≠ aliveAt bs ds i) : fullB bs ds = false := by
  unfold fullB
  rw [List.all_eq_false]
  refine ⟨i, ?_, ?_⟩
  · have := (List.getElem?_eq_some_iff.mp h).1
    simpa using this
  · rw [List.getD_eq_getElem?_getD, h]
    simpa using hn
end DL
set_option Elab.async false
set_option linter.all false
set_option maxRecDepth 100000
set_option maxHeartbeats 2000000
/-! leaves at drawn depths: the mathematics -/
namespace DL
open PySem PySem.Spec PyProof.Rows L2 RZ
structure LevOk (r g : Int) (bs : List Int) (ds : List (List Int)) : Prop where
  g1 : 1 ≤ g
  room : (bs.length : Int) + g * r ≤ 12
  pat : ∀ p ∈ ds, patB p = true ∧ p ≠ [] ∧ p.length ≤ 1000
  born : ∀ b ∈ bs, 0 ≤ b ∧ b ≤ (ds.length : Int)
  fit : ∀ (i : Nat) (p : List Int), ds[i]? = some p → p.sum ≤ aliveAt (bs ++ List.replicate g.toNat 0) ds i
theorem patB_rep {r : Int} (hr : 2 ≤ r) : ∀ n : Nat, patB (List.replicate n r) = true
  | 0 => rfl
  | n + 1 => by
    rw [List.replicate_succ']
    refine patB_app (patB_rep hr n) hr fun y hy => ?_
    have := List.mem_of_getLast? hy
    have := List.eq_of_mem_replicate this
    omega
theorem sum_rep (n : Nat) (r : Int) : (List.replicate n r).sum = n * r := by
  induction n with
  | zero => simp
  | succ n ih =>
    rw [List.replicate_succ, List.sum_cons, ih]
    rw [Int.natCast_succ, Int.add_mul]
    omega
theorem filt_rep (n : Nat) {k : Int → Bool} (h : k 0 = true) : ((List.replicate n (0 : Int)).filter k).length = n := by
  rw [List.filter_eq_self.mpr]
  · simp
  · intro x hx
    rw [List.eq_of_mem_replicate hx, h]
section
variable {r g b c : Int} {bs : List Int} {ds : List (List Int)}
theorem up_filt (m : Nat) (bs : List Int) : ((bs.map (· + 1)).filter fun x => decide (x ≤ ((m + 1 : Nat) : Int))).length = (bs.filter fun x => decide (x ≤ (m : Int))).length := by
  rw [List.filter_map, List.length_map]
  congr 1
  apply List.filter_congr
  intro x _
  simp
theorem up_filt0 (h : ∀ x ∈ bs, 0 ≤ x) : ((bs.map (· + 1)).filter fun x => decide (x ≤ ((0 : Nat) : Int))).length = 0 := by
  rw [List.length_eq_zero_iff, List.filter_eq_nil_iff]
  intro x hx
  obtain ⟨y, hy, rfl⟩ := List.mem_map.mp hx
  have := h y hy
  simp
  omega
theorem lev_alive0 {p : List Int} (h : ∀ x ∈ bs, 0 ≤ x) (hb : 0 ≤ b) (hc : 0 ≤ c) : aliveAt ((bs.map (· + 1) ++ List.replicate c.toNat 0) ++ List.replicate b.toNat 0) (p :: ds) 0 = b + c := by
  unfold aliveAt
  rw [List.filter_append, List.filter_append, List.length_append, List.length_append, up_filt0 h, filt_rep _ (by simp), filt_rep _ (by simp)]
  simp
  omega
theorem lev_aliveS (hg : 1 ≤ g) (hb : 0 ≤ b) (hc : 0 ≤ c) (e : b + c = g * r) (i : Nat) : aliveAt ((bs.map (· + 1) ++ List.replicate c.toNat 0) ++ List.replicate b.toNat 0) (List.replicate g.toNat r :: ds) (i + 1) = aliveAt (bs ++ List.replicate g.toNat 0) ds i := by
  unfold aliveAt
  rw [List.filter_append, List.filter_append, List.length_append, List.length_append, up_filt, filt_rep _ (by simp; omega), filt_rep _ (by simp; omega), List.filter_append, List.length_append, filt_rep _ (by simp)]
  rw [List.take_succ_cons, List.map_cons, List.sum_cons]
  have e1 : lessI (List.replicate g.toNat r) = g * r - g := by
    unfold lessI
    rw [sum_rep, List.length_replicate, show ((g.toNat : Nat) : Int) = g by omega]
  rw [e1]
  omega
theorem LevOk.start {r : Int} (h : r ≤ 4) : LevOk r 1 [] [] := ⟨by omega, by simp; omega, fun p h => (nomatch h), fun b h => (nomatch h), fun i p h => by cases h⟩
theorem LevOk.pats (h : LevOk r g bs ds) (hr : 2 ≤ r) : ∀ p ∈ List.replicate g.toNat r :: ds, patB p = true ∧ p ≠ [] ∧ p.length ≤ 1000 := by
  intro p hp
  have h1 := h.g1
  have h2 := h.room
  rcases List.mem_cons.mp hp with rfl | hp
  · have h3 : g * 2 ≤ g * r := Int.mul_le_mul_of_nonneg_left hr (by omega)
    refine ⟨patB_rep hr _, ?_, ?_⟩
    · intro z
      have := congrArg List.length z
      simp at this
      omega
    · simp
      omega
  · exact h.pat p hp
theorem LevOk.borns (h : LevOk r g bs ds) {k : Nat} : ∀ x ∈ bs.map (· + 1) ++ List.replicate k 0, 0 ≤ x ∧ x ≤ (((List.replicate g.toNat r :: ds).length : Nat) : Int) := by
  intro x hx
  rcases List.mem_append.mp hx with hx | hx
  · obtain ⟨y, hy, rfl⟩ := List.mem_map.mp hx
    have := h.born y hy
    simp
    omega
  · rw [List.eq_of_mem_replicate hx]
    simp
    omega
theorem LevOk.fits (h : LevOk r g bs ds) (hb : 0 ≤ b) (hc : 0 ≤ c) (e : b + c = g * r) : ∀ (i : Nat) (p : List Int), (List.replicate g.toNat r :: ds)[i]? = some p → p.sum ≤ aliveAt ((bs.map (· + 1) ++ List.replicate c.toNat 0) ++ List.replicate b.toNat 0) (List.replicate g.toNat r :: ds) i := by
  intro i p hp
  have h1 := h.g1
  cases i with
  | zero =>
    cases hp
    rw [lev_alive0 (fun x hx => (h.born x hx).1) hb hc, sum_rep, show ((g.toNat : Nat) : Int) = g by omega]
    omega
  | succ i =>
    rw [lev_aliveS h1 hb hc e]
    exact h.fit i p hp
theorem LevOk.cut (h : LevOk r g bs ds) (hr : 2 ≤ r) (hb : 0 ≤ b) (hc : 0 ≤ c) (e : b + c = g * r) (hd : ds.length ≤ 10) : CalOk ((bs.map (· + 1) ++ List.replicate c.toNat 0) ++ List.replicate b.toNat 0) (List.replicate g.toNat r :: ds) := by
  have h1 := h.g1
  have h2 := h.room
  have h3 : g * 2 ≤ g * r := Int.mul_le_mul_of_nonneg_left hr (by omega)
  refine ⟨by simp; omega, by simp; omega, by simp; omega, h.pats hr, fun x hx => ?_, h.fits hb hc e⟩
  rcases List.mem_append.mp hx with hx | hx
  · exact h.borns x hx
  · rw [List.eq_of_mem_replicate hx]
    simp
    omega
theorem LevOk.next (h : LevOk r g bs ds) (hr : 2 ≤ r) (hb : 1 ≤ b) (hc : 0 ≤ c) (e : b + c = g * r) (hz : (((bs.map (· + 1) ++ List.replicate c.toNat 0).length : Nat) : Int) + b * r ≤ 12) : LevOk r b (bs.map (· + 1) ++ List.replicate c.toNat 0) (List.replicate g.toNat r :: ds) :=
  ⟨hb, hz, h.pats hr, h.borns, h.fits (by omega) hc e⟩
theorem LevOk.fin (h : LevOk r g bs ds) (hr : 2 ≤ r) (hd : ds.length ≤ 11) : CalOk (bs ++ List.replicate g.toNat 0) ds := by
  have h1 := h.g1
  have h2 := h.room
  have h3 : g * 2 ≤ g * r := Int.mul_le_mul_of_nonneg_left hr (by omega)
  refine ⟨by simp; omega, by simp; omega, hd, h.pat, fun x hx => ?_, h.fit⟩
  rcases List.mem_append.mp hx with hx | hx
  · exact h.born x hx
  · rw [List.eq_of_mem_replicate hx]
    omega
end
end DL
set_option Elab.async false
set_option linter.all false
set_option maxRecDepth 100000
set_option maxHeartbeats 2000000
/-! plain ones, stars, changed calendars: the mathematics; rows of tuples in parts -/
namespace DL
open PySem PySem.Spec PyProof.Rows L2 RZ
def zerosL (n : Int) : List Int := List.replicate n.toNat 0
def twosL (n : Int) : List (List Int) := List.replicate (n - 1).toNat [2]
def oneDay (n : Int) : List (List Int) := [[n]]
theorem less_twos (k : Nat) : ((List.replicate k [(2 : Int)]).map lessI).sum = k := by
  induction k with
  | zero => rfl
  | succ k ih =>
    rw [List.replicate_succ, List.map_cons, List.sum_cons, ih]
    simp [lessI]
    omega
theorem cal_plain {n : Int} (h1 : 1 ≤ n) (h2 : n ≤ 12) : CalOk (zerosL n) (twosL n) := by
  refine ⟨by simp [zerosL]; omega, by simp [zerosL]; omega, by simp [twosL]; omega, fun p hp => ?_, fun b hb => ?_, fun i p hp => ?_⟩
  · rw [List.eq_of_mem_replicate hp]
    exact ⟨rfl, by simp, by simp⟩
  · rw [List.eq_of_mem_replicate hb]
    omega
  · have hm := List.eq_of_mem_replicate (List.mem_of_getElem? hp)
    have hi := (List.getElem?_eq_some_iff.mp hp).1
    simp [twosL] at hi
    subst hm
    have e1 : (twosL n).take i = List.replicate i [2] := by
      unfold twosL
      rw [List.take_replicate, Nat.min_eq_left (by omega)]
    unfold aliveAt zerosL
    rw [filt_rep _ (by simp), e1, less_twos]
    simp
    omega
theorem cal_star {n : Int} (h1 : 2 ≤ n) (h2 : n ≤ 12) : CalOk (zerosL n) (oneDay n) := by
  refine ⟨by simp [zerosL]; omega, by simp [zerosL]; omega, by simp [oneDay], fun p hp => ?_, fun b hb => ?_, fun i p hp => ?_⟩
  · rw [List.mem_singleton.mp hp]
    exact ⟨by simp [patB, h1], by simp, by simp⟩
  · rw [List.eq_of_mem_replicate hb]
    omega
  · cases i with
    | zero =>
      cases hp
      unfold aliveAt zerosL
      rw [filt_rep _ (by simp)]
      simp
      omega
    | succ i => cases hp
theorem cal_one : CalOk [0] [] := ⟨by decide, by decide, by decide, fun p h => (nomatch h), fun b hb => by rw [List.mem_singleton.mp hb]; decide, fun i p h => by cases h⟩
/-- addresses of tuples that hold these rows -/
def RowsD (H : Hp) (qs : List Addr) (ds : List (List Int)) : Prop := qs.length = ds.length ∧ ∀ (i : Nat) (q : Addr) (ns : List Int), qs[i]? = some q → ds[i]? = some ns → TupD H q (ns.map V.int)
theorem TupTD.rows {H : Hp} {a : Addr} {ds : List (List Int)} (h : TupTD H a ds) : ∃ qs : List Addr, TupD H a (qs.map V.ref) ∧ RowsD H qs ds := by
  obtain ⟨qs, h1, h2, h3⟩ := h
  exact ⟨qs, h1, h2, h3⟩
theorem RowsD.td {H : Hp} {a : Addr} {qs : List Addr} {ds : List (List Int)} (h : RowsD H qs ds) (t : TupD H a (qs.map V.ref)) : TupTD H a ds := ⟨qs, t, h.1, h.2⟩
theorem RowsD.same {H H' : Hp} {qs : List Addr} {ds : List (List Int)} (h : RowsD H qs ds) (s : Same H H') : RowsD H' qs ds := ⟨h.1, fun i q ns a b => (h.2 i q ns a b).same s⟩
theorem RowsD.tk {H H' : Hp} {qs : List Addr} {ds : List (List Int)} (h : RowsD H qs ds) (s : TK H H') : RowsD H' qs ds := ⟨h.1, fun i q ns a b => (h.2 i q ns a b).tk s⟩
theorem RowsD.one {H : Hp} {q : Addr} {ns : List Int} (h : TupD H q (ns.map V.int)) : RowsD H [q] [ns] := ⟨rfl, fun i r ms h1 h2 => by
  cases i with
  | zero =>
    cases h1
    cases h2
    exact h
  | succ i => cases h1⟩
theorem RowsD.app {H : Hp} {qs qs' : List Addr} {ds ds' : List (List Int)} (h : RowsD H qs ds) (h' : RowsD H qs' ds') : RowsD H (qs ++ qs') (ds ++ ds') := by
  refine ⟨by rw [List.length_append, List.length_append, h.1, h'.1], fun i q ns h1 h2 => ?_⟩
  by_cases hi : i < qs.length
  · rw [List.getElem?_append_left hi] at h1
    rw [List.getElem?_append_left (by rw [← h.1]; exact hi)] at h2
    exact h.2 i q ns h1 h2
  · rw [List.getElem?_append_right (by omega)] at h1
    rw [List.getElem?_append_right (by rw [← h.1]; omega), ← h.1] at h2
    exact h'.2 _ q ns h1 h2
theorem RowsD.take {H : Hp} {qs : List Addr} {ds : List (List Int)} (h : RowsD H qs ds) (k : Nat) : RowsD H (qs.take k) (ds.take k) := by
  refine ⟨by rw [List.length_take, List.length_take, h.1], fun i q ns h1 h2 => ?_⟩
  by_cases hi : i < k
  · rw [List.getElem?_take_of_lt hi] at h1 h2
    exact h.2 i q ns h1 h2
  · rw [List.getElem?_take, if_neg hi] at h1
    cases h1
theorem RowsD.drop {H : Hp} {qs : List Addr} {ds : List (List Int)} (h : RowsD H qs ds) (k : Nat) : RowsD H (qs.drop k) (ds.drop k) := by
  refine ⟨by rw [List.length_drop, List.length_drop, h.1], fun i q ns h1 h2 => ?_⟩
  rw [List.getElem?_drop] at h1 h2
  exact h.2 _ q ns h1 h2
/-- what a change leaves: to be cut to a calendar -/
structure Rough (bs : List Int) (ds : List (List Int)) : Prop where
  n1 : 1 ≤ bs.length
  n12 : bs.length ≤ 12
  m12 : ds.length ≤ 12
  pat : ∀ p ∈ ds, patB p = true ∧ p ≠ [] ∧ p.length ≤ 1000
  nn : ∀ b ∈ bs, 0 ≤ b
theorem Rough.of {bs : List Int} {ds : List (List Int)} (h : CalOk bs ds) : Rough bs ds := ⟨h.n1, h.n12, by have := h.m11; omega, h.pat, fun b hb => (h.born b hb).1⟩
theorem Rough.cal {bs : List Int} {ds : List (List Int)} (h : Rough bs ds) (hm : ds.length < 12) (hf : ∀ (i : Nat) (p : List Int), ds[i]? = some p → p.sum ≤ aliveAt (bs.map (capB (ds.length : Int))) ds i) : CalOk (bs.map (capB (ds.length : Int))) ds := by
  refine ⟨by simpa using h.n1, by simpa using h.n12, by omega, h.pat, fun b hb => ?_, hf⟩
  obtain ⟨x, hx, rfl⟩ := List.mem_map.mp hb
  have := h.nn x hx
  unfold capB
  split <;> omega
theorem cap_min (m w : Int) : (if m < w then m else w) = capB m w := rfl
end DL
set_option Elab.async false
set_option linter.all false
set_option maxRecDepth 100000
set_option maxHeartbeats 2000000
namespace DK
open PySem PySem.Spec PyProof.Rows L2 RZ DL
def topS (i : Nat) : Stmt := PySem.Challenge.pw_datedlines_k07_plain_and_level_calendars.main.body.getD i (.Pass ⟨0, 0, 0, 0⟩)
abbrev s_is_number : Stmt := topS 9
abbrev N_is_number : List Str := ["thing"]
theorem sc_is_number : FnScope N_is_number ["thing"] (defScope s_is_number) := ⟨rfl, rfl, rfl, by decide +kernel, rfl, by decide +kernel, by decide +kernel⟩
theorem b_is_number : BindOk "is_number" s_is_number ["thing"] := fun _ _ _ _ _ _ us hl => match us, hl with | [_], _ => rfl

abbrev s_is_from_to : Stmt := topS 10
abbrev N_is_from_to : List Str := ["thing", "low", "high"]
theorem sc_is_from_to : FnScope N_is_from_to ["thing", "low", "high"] (defScope s_is_from_to) := ⟨rfl, rfl, rfl, by decide +kernel, rfl, by decide +kernel, by decide +kernel⟩
theorem b_is_from_to : BindOk "is_from_to" s_is_from_to ["thing", "low", "high"] := fun _ _ _ _ _ _ us hl => match us, hl with | [_, _, _], _ => rfl

abbrev s_ask_moment : Stmt := topS 13
abbrev N_ask_moment : List Str := ["d", "last"]
theorem sc_ask_moment : FnScope N_ask_moment ["d", "last"] (defScope s_ask_moment) := ⟨rfl, rfl, rfl, by decide +kernel, rfl, by decide +kernel, by decide +kernel⟩
theorem b_ask_moment : BindOk "ask_moment" s_ask_moment ["d", "last"] := fun _ _ _ _ _ _ us hl => match us, hl with | [_, _], _ => rfl

abbrev s_law_take : Stmt := topS 35
abbrev N_law_take : List Str := ["_law_source", "_law_top", "_law_drawn_here"]
theorem sc_law_take : FnScope N_law_take ["_law_source", "_law_top"] (defScope s_law_take) := ⟨rfl, rfl, rfl, by decide +kernel, rfl, by decide +kernel, by decide +kernel⟩
theorem b_law_take : BindOk "_law_take" s_law_take ["_law_source", "_law_top"] := fun _ _ _ _ _ _ us hl => match us, hl with | [_, _], _ => rfl

abbrev s_law_one : Stmt := topS 36
abbrev N_law_one : List Str := ["_law_source", "_law_things"]
theorem sc_law_one : FnScope N_law_one ["_law_source", "_law_things"] (defScope s_law_one) := ⟨rfl, rfl, rfl, by decide +kernel, rfl, by decide +kernel, by decide +kernel⟩
theorem b_law_one : BindOk "_law_one" s_law_one ["_law_source", "_law_things"] := fun _ _ _ _ _ _ us hl => match us, hl with | [_, _], _ => rfl

abbrev s_law_pool : Stmt := topS 34
abbrev N_law_pool : List Str := ["_law_script", "_law_k", "_law_cell", "_law_big", "_law_mixed"]
theorem sc_law_pool : FnScope N_law_pool ["_law_script", "_law_k"] (defScope s_law_pool) := ⟨rfl, rfl, rfl, by decide +kernel, rfl, by decide +kernel, by decide +kernel⟩
theorem b_law_pool : BindOk "_law_pool" s_law_pool ["_law_script", "_law_k"] := fun _ _ _ _ _ _ us hl => match us, hl with | [_, _], _ => rfl

local macro_rules | `(tactic| walk_at "r") => `(tactic| repeat' (first | (refine ⟨_, rfl, ?_⟩) | (refine ⟨_, _, rfl, rfl, ?_⟩) | (refine ⟨rfl, ?_⟩)))
section
variable {P : Program} {w : World} {K : PySem.W.Frag} {mg : Str → Option Value} {base : Heap}
def spNum : Sp := fun vs H Q _ => ∃ i : Int, vs = [.int i] ∧ Q (.bl true) H
theorem ca_is_number (B : Bl mg) (U : Up K mg "is_number" s_is_number) : Ca P w K mg base 1 "is_number" s_is_number ["thing"] spNum := by
  refine ca0 U sc_is_number (fun vs H Q E h => by obtain ⟨i, rfl, _⟩ := h; rfl) fun f cdv A outer s H vs Q E hr h => ?_
  obtain ⟨i, rfl, q⟩ := h
  refine ⟨_, (pss_one (ps_ret (pe_and (pe_callB (call_isiK' K rfl) (by rfl) B.isinstance (by decide +kernel) (pa_cons (pv 0) (pa_cons (pe_bltn (v := .ty "int") (u := .type "int") (by rfl) B.int (by decide +kernel) rfl) pa_nil))) (pe_one (pe_not (pe_callB (call_isiK' K rfl) (by rfl) B.isinstance (by decide +kernel) (pa_cons (pv 0) (pa_cons (pe_bltn (v := .ty "bool") (u := .type "bool") (by rfl) B.bool (by decide +kernel) rfl) pa_nil)))))))), ?_⟩
  refine ⟨_, rfl, _, _, _, _, _, rfl, .ty _, .base (.int i), kit_ty (r := true) (by decide +kernel), true, rfl, iteT ?_⟩
  refine ⟨_, rfl, _, _, _, _, _, rfl, .ty _, .base (.int i), kit_ty (r := false) (by decide +kernel), false, rfl, q⟩
def spFromTo : Sp := fun vs H Q _ => ∃ x lo hi : Int, vs = [.int x, .int lo, .int hi] ∧ Q (.bl (decide (lo ≤ x) && decide (x ≤ hi))) H
theorem ca_is_from_to (c_is_number : Ca P w K mg base 1 "is_number" s_is_number ["thing"] spNum) (U : Up K mg "is_from_to" s_is_from_to) : Ca P w K mg base 2 "is_from_to" s_is_from_to ["thing", "low", "high"] spFromTo := by
  refine ca0 U sc_is_from_to (fun vs H Q E h => by obtain ⟨x, lo, hi, rfl, _⟩ := h; rfl) fun f cdv A outer s H vs Q E hr h => ?_
  obtain ⟨x, lo, hi, rfl, q⟩ := h
  refine ⟨_, (pss_one (ps_ret (pe_and (pe_ca c_is_number b_is_number hr ps0 (pa_cons (pv 0) pa_nil)) (pe_one (pe_chain op_le op_le (pv 1) (pv 0) (pv 2)))))), ?_⟩
  refine ⟨_, rfl, x, rfl, true, rfl, iteT ?_⟩
  refine ⟨_, rfl, _, rfl, _, _, rfl, rfl, _, rfl, ?_⟩
  refine ite2 (fun h1 => ?_) (fun h1 => ?_)
  · refine ⟨_, rfl, _, _, rfl, rfl, ?_⟩
    rw [h1] at q
    exact q
  · have h2 : decide (lo ≤ x) = false := by simpa using h1
    rw [h2] at q
    exact q
def spAskMoment (C : Addr) : Sp := fun vs H Q E => ∃ d last : Int, vs = [.int d, .int last] ∧ (0 ≤ d ∧ d ≤ last → Q .non H) ∧ (¬ (0 ≤ d ∧ d ≤ last) → RaisesW C (.int d) H E)
theorem ca_ask_moment {C f0 : Addr} (c_is_from_to : Ca P w K mg base 2 "is_from_to" s_is_from_to ["thing", "low", "high"] spFromTo) (T_BadMoment : Er K mg "BadMoment" C f0) (F_Refused : ErI P w K mg base f0) (U : Up K mg "ask_moment" s_ask_moment) :
    Ca P w K mg base 3 "ask_moment" s_ask_moment ["d", "last"] (spAskMoment C) := by
  refine caX U sc_ask_moment (fun vs H Q E h => by obtain ⟨d, last, rfl, _⟩ := h; rfl) fun f cdv A outer s H vs Q E hr h => ?_
  obtain ⟨d, last, rfl, q1, q2⟩ := h
  refine ⟨_, (pss_one (ps_if (pt_not (pt_val (pe_ca c_is_from_to b_is_from_to hr ps0 (pa_cons (pv 0) (pa_cons pe_int (pa_cons (pv 1) pa_nil)))))) (pss_one (ps_raiseW T_BadMoment F_Refused rfl hr (takes_of rfl rfl rfl rfl) (pv 0)))
      pss_nil)), ?_⟩
  refine ⟨_, rfl, _, rfl, d, 0, last, rfl, _, rfl, ?_⟩
  refine ite2 (fun h1 => ?_) (fun h1 => ?_)
  · exact ⟨_, rfl, q2 (fun hh => by simp [hh.1, hh.2] at h1)⟩
  · exact q1 (by simpa using h1)
end
end DK
set_option Elab.async false
set_option linter.all false
set_option maxRecDepth 100000
set_option maxHeartbeats 2000000
namespace DK
open PySem PySem.Spec PyProof.Rows L2 RZ DL
section
variable {P : Program} {w : World} {K : PySem.W.Frag} {mg : Str → Option Value} {base : Heap}
theorem at0 {x : V} {xs : List V} : atI (x :: xs) 0 = some x := atI_nat (j := 0) rfl
theorem at1 {x y : V} {xs : List V} : atI (x :: y :: xs) 1 = some y := atI_nat (j := 1) rfl
def spTake : Sp := fun vs H Q _ => ∃ (a : Addr) (top : Int), vs = [.ref a, .int top] ∧ Src a H ∧ 0 < top ∧ top < 1073741824 ∧ ∀ r H', 0 ≤ r → r < top → Stay a H H' → Q (.int r) H'
theorem stay_upd {a : Addr} {H : Hp} {x y : Int} (v : SrcV x y) : Stay a H (upd H a (.lst [.int x, .int y])) := ⟨⟨x, y, upd_same, v⟩, fun b o n e => by rw [upd_ne n]; exact e⟩
theorem ca_take (B : Bl mg) (U : Up K mg "_law_take" s_law_take) : Ca P w K mg base 1 "_law_take" s_law_take ["_law_source", "_law_top"] spTake := by
  refine ca0 U sc_law_take (fun vs H Q E h => by obtain ⟨a, top, rfl, _⟩ := h; rfl) fun f cdv A outer s H vs Q E hr h => ?_
  obtain ⟨a, top, rfl, ⟨x, y, ha, v1, v2, v3⟩, t1, t2, q⟩ := h
  refine ⟨_, (pss_cons (ps_if (pt_cmpR op_gt (pe_ix (ix_listK K rfl) (pv 0) pe_int (fun _ _ => rfl)) pe_int (nomark _)) (pss_cons (ps_set (i := 2) sc_law_take.nd rfl (Or.inl rfl) (pe_op op_mod (pe_callTy call_int1 (by rfl) B.int (by decide +kernel) (pa_cons (pe_ix (ix_listK K rfl) (pv 0) pe_int (fun _ _ => rfl)) pa_nil)) (pv 1)))
      (pss_cons (ps_asg (pe_op op_fdiv (pe_ix (ix_listK K rfl) (pv 0) pe_int (fun _ _ => rfl)) (pv 1)) (pg_sub (pv 0) pe_int set_list))
      (pss_one (ps_ret (pv 2)))))
      pss_nil)
      (pss_cons (ps_asg (pe_op op_mod (pe_callTy call_int1 (by rfl) B.int (by decide +kernel) (pa_cons (pe_op op_add (pe_op op_mul (pe_ix (ix_listK K rfl) (pv 0) pe_int (fun _ _ => rfl)) pe_int) pe_int) pa_nil)) pe_int) (pg_sub (pv 0) pe_int set_list))
      (pss_one (ps_ret (pe_op op_mod (pe_callTy call_int1 (by rfl) B.int (by decide +kernel) (pa_cons (pe_op op_fdiv (pe_op op_mod (pe_callTy call_int1 (by rfl) B.int (by decide +kernel) (pa_cons (pe_op op_mul (pe_ix (ix_listK K rfl) (pv 0) pe_int (fun _ _ => rfl)) (pe_ix (ix_listK K rfl) (pv 0) pe_int (fun _ _ => rfl))) pa_nil)) pe_int) pe_int) pa_nil)) (pv 1)))))), ?_⟩
  refine ⟨_, rfl, a, _, _, _, rfl, rfl, SqL.of ha, at0, _, _, rfl, rfl, _, rfl, ?_⟩
  refine ite2 (fun h1 => ?_) (fun h1 => ?_)
  · refine ⟨_, rfl, a, _, _, _, rfl, rfl, SqL.of ha, at0, .inl ⟨_, rfl, _, rfl, _, _, rfl, rfl, t1, ?_⟩⟩
    refine ⟨_, rfl, a, _, _, _, rfl, rfl, SqL.of ha, at0, _, rfl, _, _, rfl, rfl, ⟨t1, t2⟩, _, rfl, ?_⟩
    refine ⟨a, _, _, 0, rfl, rfl, ha, rfl, _, rfl, ?_⟩
    refine q _ _ (Int.emod_nonneg _ (by omega)) (Int.emod_lt_of_pos _ t1) (stay_upd ⟨Int.ediv_nonneg v1 (by omega), v2, v3⟩)
  · refine ⟨_, rfl, a, _, _, _, rfl, rfl, SqL.of ha, at1, _, _, rfl, rfl, .inl ⟨by omega, by omega⟩, _, _, rfl, rfl, .inl ⟨_, rfl, _, _, rfl, rfl, (by show (0 : Int) < 2147483647; decide), ?_⟩⟩
    have w1 := Int.emod_nonneg (y * 39373 + 7) (show (2147483647 : Int) ≠ 0 by decide)
    have w2 := Int.emod_lt_of_pos (y * 39373 + 7) (show (0 : Int) < 2147483647 by decide)
    refine ⟨_, rfl, a, _, _, 1, rfl, rfl, ha, rfl, ?_⟩
    have ha2 : (upd H a (.lst (List.set [V.int x, V.int y] 1 (V.int ((y * 39373 + 7) % 2147483647))))) a = some (.lst [V.int x, V.int ((y * 39373 + 7) % 2147483647)]) := upd_same
    refine ⟨_, rfl, a, _, _, _, rfl, rfl, SqL.of ha2, at1, _, rfl, a, _, _, _, rfl, rfl, SqL.of ha2, at1, _, _, rfl, rfl, .inl ⟨by omega, by omega⟩, .inl ⟨_, rfl, _, _, rfl, rfl, (by show (0 : Int) < 2147483629; decide), ?_⟩⟩
    refine ⟨_, _, rfl, rfl, ⟨by decide, by decide⟩, .inl ⟨_, rfl, _, rfl, _, _, rfl, rfl, t1, ?_⟩⟩
    exact q _ _ (Int.emod_nonneg _ (by omega)) (Int.emod_lt_of_pos _ t1) (stay_upd ⟨v1, w1, w2⟩)
def spOne : Sp := fun vs H Q _ => ∃ (a p : Addr) (xs : List V), vs = [.ref a, .ref p] ∧ Src a H ∧ H p = some (.lst xs) ∧ p ≠ a ∧ 0 < xs.length ∧ xs.length < 1000 ∧ ∀ v H', v ∈ xs → Stay a H H' → Q v H'
theorem ca_one (B : Bl mg) (c_law_take : Ca P w K mg base 1 "_law_take" s_law_take ["_law_source", "_law_top"] spTake) (U : Up K mg "_law_one" s_law_one) : Ca P w K mg base 2 "_law_one" s_law_one ["_law_source", "_law_things"] spOne := by
  refine ca0 U sc_law_one (fun vs H Q E h => by obtain ⟨a, p, xs, rfl, _⟩ := h; rfl) fun f cdv A outer s H vs Q E hr h => ?_
  obtain ⟨a, p, xs, rfl, hs, hp, ne, l1, l2, q⟩ := h
  refine ⟨_, (pss_one (ps_ret (pe_ix (ix_listK K rfl) (pv 1) (pe_ca c_law_take b_law_take hr ps0 (pa_cons (pv 0) (pa_cons (pe_callB (call_lenK K rfl) (by rfl) B.len (by decide +kernel) (pa_cons (pv 1) pa_nil)) pa_nil))) (fun _ _ => rfl)))), ?_⟩
  refine ⟨_, rfl, _, rfl, _, rfl, p, xs, rfl, .inl (SqL.of hp), a, _, rfl, hs, by omega, by omega, fun r H' r0 r1 st => ?_⟩
  have hlt : r.toNat < xs.length := by omega
  have hr' : r = ((r.toNat : Nat) : Int) := by omega
  refine ⟨p, xs, _, _, rfl, rfl, SqL.of (st.2 p _ ne hp), at_of hr' (List.getElem?_eq_getElem hlt), ?_⟩
  exact q _ _ (List.getElem_mem hlt) st
def spPool (K : PySem.W.Frag) : Sp := fun vs H Q _ => ∃ (a : Addr) (ns : List Int) (k : Int), vs = [.ref a, .int k] ∧ SqL K H a (ns.map V.int) ∧ ns.length ≤ 63 ∧ 0 ≤ k ∧ k < 1000 ∧ ∀ p H', H p = none → Same H H' → Src p H' → Q (.ref p) H'
theorem ca_pool (B : Bl mg) (U : Up K mg "_law_pool" s_law_pool) : Ca P w K mg base 1 "_law_pool" s_law_pool ["_law_script", "_law_k"] (spPool K) := by
  refine ca0 U sc_law_pool (fun vs H Q E h => by obtain ⟨a, ns, k, rfl, _⟩ := h; rfl) fun f cdv A outer s H vs Q E hr h => ?_
  obtain ⟨a, ns, k, rfl, hs, l1, k0, k1, q⟩ := h
  refine ⟨_, (pss_cons (ps_set (i := 2) sc_law_pool.nd rfl (Or.inl rfl) pe_int)
      (Evl.pss_cut (ps_if (pt_cmpR op_lt (pv 1) (pe_callB (call_lenK K rfl) (by rfl) B.len (by decide +kernel) (pa_cons (pv 0) pa_nil)) (nomark _)) (pss_one (ps_set (i := 2) sc_law_pool.nd rfl (Or.inl rfl) (pe_ix (ix_listK K rfl) (pv 0) (pv 1) (fun _ _ => rfl))))
      (pss_one (ps_if (pt_truth (pv 0) (by intro _; rfl)) (pss_one (ps_set (i := 2) sc_law_pool.nd rfl (Or.inl rfl) (pe_ix (ix_listK K rfl) (pv 0) pe_int (fun _ _ => rfl))))
      pss_nil)))
      (pss_cons (ps_set (i := 3) sc_law_pool.nd rfl (Or.inl rfl) (pe_callB (call_max2 rfl) (by rfl) B.max (by decide +kernel) (pa_cons (pe_callTy call_int1 (by rfl) B.int (by decide +kernel) (pa_cons (pv 2) pa_nil)) (pa_cons (pe_callTy call_int1 (by rfl) B.int (by decide +kernel) (pa_cons (pe_op op_sub (pe_un un_neg pe_int) (pv 2)) pa_nil)) pa_nil))))
      (pss_cons (ps_set (i := 4) sc_law_pool.nd rfl (Or.inl rfl) (pe_op op_mod (pe_callTy call_int1 (by rfl) B.int (by decide +kernel) (pa_cons (pe_op op_mul (pe_op op_add (pe_op op_add (pe_op op_add (pe_op op_mod (pe_callTy call_int1 (by rfl) B.int (by decide +kernel) (pa_cons (pv 3) pa_nil)) pe_int) (pe_op op_mul (pe_op op_mul pe_int (pv 1)) (pv 1))) (pe_op op_mul pe_int (pv 1))) pe_int) pe_int) pa_nil)) pe_int))
      (pss_one (ps_ret (pe_lst (pa_cons (pe_op op_mul (pv 3) (pe_callTy call_int1 (by rfl) B.int (by decide +kernel) (pa_cons (pe_cmpR op_ge (pv 3) (pe_op op_pow pe_int pe_int) (nomark _)) pa_nil))) (pa_cons (pv 4) pa_nil))))))))), ?_⟩
  refine ⟨fun σ' H' => H' = H ∧ ∃ c : Int, σ' = [some (.ref a), some (.int k), some (.int c), none, none], ?_, ?_⟩
  · refine ⟨_, rfl, _, rfl, a, _, rfl, .inl hs, _, _, rfl, rfl, _, rfl, ?_⟩
    rw [List.length_map]
    have hz : ∀ (j : Nat) (hj : j < ns.length), atI (ns.map V.int) (j : Int) = some (.int ns[j]) := fun j hj => atI_nat (by simp [hj])
    refine ite2 (fun h1 => ?_) (fun h1 => ?_)
    · have hk : k.toNat < ns.length := by
        have := of_decide_eq_true h1
        omega
      have e := hz k.toNat hk
      rw [show ((k.toNat : Nat) : Int) = k by omega] at e
      exact ⟨_, rfl, _, rfl, a, _, _, _, rfl, rfl, hs, e, rfl, _, rfl⟩
    · refine ⟨_, rfl, !(ns.map V.int).isEmpty, .inl ⟨_, hs, rfl⟩, ?_⟩
      cases hn : ns with
      | nil => exact ⟨rfl, 0, rfl⟩
      | cons n r =>
        have e : atI (ns.map V.int) 0 = some (.int n) := by rw [hn]; exact at0
        exact iteT ⟨_, rfl, a, _, _, _, rfl, rfl, hs, e, rfl, _, rfl⟩
  · rintro σ' H' ⟨rfl, c, rfl⟩
    refine ⟨_, rfl, .inl ⟨_, rfl, _, rfl, _, rfl, _, _, rfl, rfl, .inl ⟨_, rfl, _, _, rfl, ?_⟩⟩⟩
    have hb : ∃ b : Int, b = (if -1 - c > c then -1 - c else c) ∧ 0 ≤ b := by
      refine ⟨_, rfl, ?_⟩
      split <;> omega
    obtain ⟨b, eb, b0⟩ := hb
    refine ⟨_, rfl, .inl ⟨_, rfl, _, _, rfl, rfl, (by show (0 : Int) < 2147483629; decide), _, rfl, _, _, rfl, rfl, .inl ⟨by decide, by decide⟩, _, rfl, _, _, rfl, rfl, .inr ⟨by omega, by omega⟩, _, _, rfl, rfl, _, rfl, _, _, rfl, rfl, .inl ⟨by decide, by decide⟩, _, _, rfl, rfl, _, _, rfl, rfl, _, _, rfl, rfl, .inr ⟨by decide, by decide⟩, .inl ⟨_, rfl, _, _, rfl, rfl, (by show (0 : Int) < 2147483647; decide), ?_⟩⟩⟩
    refine ⟨_, rfl, _, rfl, _, _, rfl, rfl, ⟨by decide, by decide, by decide⟩, _, _, rfl, rfl, .inr ⟨_, rfl, _, _, rfl, rfl, .inr ?_, _, rfl, (by show 2 ≤ sizeLine; decide), fun p hp => ?_⟩⟩
    · have ht : ∀ t : Bool, -(2 ^ 64) < (if t = true then (1 : Int) else 0) ∧ (if t = true then (1 : Int) else 0) < 2 ^ 64 := by
        intro t
        cases t <;> decide
      exact ht _
    · refine q p _ hp (Same.new hp) ⟨_, _, upd_same, ?_, Int.emod_nonneg _ (by decide), Int.emod_lt_of_pos _ (by decide)⟩
      have ht : ∀ t : Bool, 0 ≤ (if t = true then (1 : Int) else 0) := by
        intro t
        cases t <;> decide
      rw [eb] at b0
      exact Int.mul_nonneg b0 (ht _)
end
end DK
set_option Elab.async false
set_option linter.all false
set_option maxRecDepth 100000
set_option maxHeartbeats 2000000
namespace DK
open PySem PySem.Spec PyProof.Rows L2 RZ DL
abbrev s_is_falling : Stmt := topS 11
abbrev N_is_falling : List Str := ["sizes", "one", "two"]
theorem sc_is_falling : FnScope N_is_falling ["sizes"] (defScope s_is_falling) := ⟨rfl, rfl, rfl, by decide +kernel, rfl, by decide +kernel, by decide +kernel⟩
theorem b_is_falling : BindOk "is_falling" s_is_falling ["sizes"] := fun _ _ _ _ _ _ us hl => match us, hl with | [_], _ => rfl

abbrev s_is_pattern : Stmt := topS 15
abbrev N_is_pattern : List Str := ["thing", "s"]
theorem sc_is_pattern : FnScope N_is_pattern ["thing"] (defScope s_is_pattern) := ⟨rfl, rfl, rfl, by decide +kernel, rfl, by decide +kernel, by decide +kernel⟩
theorem b_is_pattern : BindOk "is_pattern" s_is_pattern ["thing"] := fun _ _ _ _ _ _ us hl => match us, hl with | [_], _ => rfl

abbrev s_ask_pattern : Stmt := topS 16
abbrev N_ask_pattern : List Str := ["pattern"]
theorem sc_ask_pattern : FnScope N_ask_pattern ["pattern"] (defScope s_ask_pattern) := ⟨rfl, rfl, rfl, by decide +kernel, rfl, by decide +kernel, by decide +kernel⟩
theorem b_ask_pattern : BindOk "ask_pattern" s_ask_pattern ["pattern"] := fun _ _ _ _ _ _ us hl => match us, hl with | [_], _ => rfl

abbrev s_met : Stmt := topS 17
abbrev N_met : List Str := ["pattern"]
theorem sc_met : FnScope N_met ["pattern"] (defScope s_met) := ⟨rfl, rfl, rfl, by decide +kernel, rfl, by decide +kernel, by decide +kernel⟩
theorem b_met : BindOk "met" s_met ["pattern"] := fun _ _ _ _ _ _ us hl => match us, hl with | [_], _ => rfl

abbrev s_less : Stmt := topS 18
abbrev N_less : List Str := ["pattern"]
theorem sc_less : FnScope N_less ["pattern"] (defScope s_less) := ⟨rfl, rfl, rfl, by decide +kernel, rfl, by decide +kernel, by decide +kernel⟩
theorem b_less : BindOk "less" s_less ["pattern"] := fun _ _ _ _ _ _ us hl => match us, hl with | [_], _ => rfl

section
variable {P : Program} {w : World} {K : PySem.W.Frag} {mg : Str → Option Value} {base : Heap}
def fallB (ns : List Int) : Bool := ((ns.zip (ns.drop 1)).map fun p => decide (p.2 ≤ p.1)).all id
def spFall (K : PySem.W.Frag) : Sp := fun vs H Q _ => ∃ (a : Addr) (ns : List Int), vs = [.ref a] ∧ TupI K H a ns ∧ ns.length ≤ 1000 ∧ ∀ H', Same H H' → Q (.bl (fallB ns)) H'
theorem ca_is_falling (B : Bl mg) (U : Up K mg "is_falling" s_is_falling) : Ca P w K mg base 1 "is_falling" s_is_falling ["sizes"] (spFall K) := by
  refine ca0 U sc_is_falling (fun vs H Q E h => by obtain ⟨a, ns, rfl, _⟩ := h; rfl) fun f cdv A outer s H vs Q E hr h => ?_
  obtain ⟨a, ns, rfl, ht, hl, q⟩ := h
  refine ⟨_, (pss_one (ps_ret (pe_callB (cr_allK K rfl rfl) (by rfl) B.all (by decide +kernel) (pa_cons (pe_lc (own := [("one", 1), ("two", 2)]) (g := (gTup K 2 (gCons (gName 1) (gCons (gName 2) gNil)))) (by rfl) sc_is_falling.nd (pi_zipA (by rfl) B.zip (pa_cons (pv 0) (pa_cons (pe_slice sl_tupS (pv 0) (po_some pe_int) po_none) pa_nil))) (blkOk_by (N := N_is_falling) (own := [("one", 1), ("two", 2)]) (sc := defScope s_is_falling) (by decide +kernel)) (fun _ _ _ _ _ => pg_tup rfl (pgs_cons (pg_name (i := 1) sc_is_falling.nd rfl (Or.inl rfl)) (pgs_cons (pg_name (i := 2) sc_is_falling.nd rfl (Or.inl rfl)) pgs_nil))) (fun _ _ _ _ _ => pts_nil) (fun _ _ _ _ _ => (pe_cmpR op_ge (pv 1) (pv 2) (nomark _)))) pa_nil)))), ?_⟩
  refine ⟨_, rfl, _, rfl, 1, rfl, a, _, rfl, ht, fun b H2 s2 hb => ?_⟩
  have hb' : SqT K H2 b ((ns.drop 1).map V.int) := by
    have e1 := cut_from (ns.map V.int) 1
    rw [← List.map_drop] at e1
    rw [← e1]
    exact hb
  have ha' : SqT K H2 a (ns.map V.int) := Same.seqT s2 ht
  refine ⟨a, b, _, _, rfl, .inr ⟨ha', hb', fun D2 hD2 => lc_it (walk_zipT (n := (ns.zip (ns.drop 1)).length) (by simp)) (Cw H2 (fun _ => true) (fun i => V.bl (decide (((ns.zip (ns.drop 1)).getD i (0, 0)).2 ≤ ((ns.zip (ns.drop 1)).getD i (0, 0)).1))) D2) (cw0 hD2) (fun i H' _ p => ⟨Same.seqT p.2.1 ha', Same.seqT p.2.1 hb'⟩) ?_ ?_⟩⟩
  · rintro i x H' H'' hi p ⟨T, u, v, rfl, hT, rfl, hu, hv⟩
    obtain ⟨z, hz, rfl⟩ := map_of hu
    obtain ⟨z2, hz2, rfl⟩ := map_of hv
    have hzz : (ns.zip (ns.drop 1)).getD i (0, 0) = (z, z2) := getD_of (List.getElem?_zip_eq_some.mpr ⟨hz, hz2⟩)
    refine ⟨T, _, rfl, SqT.of upd_same, rfl, _, _, rfl, _, _, rfl, rfl, rfl, _, rfl, _, rfl, _, _, rfl, rfl, ?_⟩
    have hi' : i < 1000 := by
      have := (List.getElem?_eq_some_iff.mp hz).1
      omega
    exact cwY p (Same.new hT) (by omega) rfl (by rw [hzz])
  · rintro H3 ⟨r1, r2, r3⟩
    have e := givn_all (ns.zip (ns.drop 1)) (0, 0) (fun x => V.bl (decide (x.2 ≤ x.1)))
    rw [e] at r3
    refine ⟨D2, ((ns.zip (ns.drop 1)).map fun p => decide (p.2 ≤ p.1)), rfl, SqL.of (by rw [List.map_map]; exact r3), ?_⟩
    exact q _ (s2.trans r2)
def spPat (K : PySem.W.Frag) : Sp := fun vs H Q _ => ∃ (a : Addr) (ns : List Int), vs = [.ref a] ∧ TupI K H a ns ∧ ns.length ≤ 1000 ∧ ∀ H', Same H H' → Q (.bl (patB ns)) H'
theorem ca_is_pattern (B : Bl mg) (c_is_number : Ca P w K mg base 1 "is_number" s_is_number ["thing"] spNum) (c_is_falling : Ca P w K mg base 1 "is_falling" s_is_falling ["sizes"] (spFall K)) (U : Up K mg "is_pattern" s_is_pattern) : Ca P w K mg base 2 "is_pattern" s_is_pattern ["thing"] (spPat K) := by
  refine ca0 U sc_is_pattern (fun vs H Q E h => by obtain ⟨a, ns, rfl, _⟩ := h; rfl) fun f cdv A outer s H vs Q E hr h => ?_
  obtain ⟨a, ns, rfl, ht, hl, q⟩ := h
  refine ⟨_, (pss_cons (ps_if (pt_not (pt_val (pe_callB (call_isiK' K rfl) (by rfl) B.isinstance (by decide +kernel) (pa_cons (pv 0) (pa_cons (pe_bltn (v := .ty "tuple") (u := .type "tuple") (by rfl) B.tuple (by decide +kernel) rfl) pa_nil))))) (pss_one (ps_ret pe_bl))
      pss_nil)
      (pss_one (ps_ret (pe_and (pe_callB (cr_allK K rfl rfl) (by rfl) B.all (by decide +kernel) (pa_cons (pe_lc (own := [("s", 1)]) (g := (gName 1)) (by rfl) sc_is_pattern.nd (pi_tup (pv 0)) (blkOk_by (N := N_is_pattern) (own := [("s", 1)]) (sc := defScope s_is_pattern) (by decide +kernel)) (fun _ _ _ _ _ => pg_name (i := 1) sc_is_pattern.nd rfl (Or.inl rfl)) (fun _ _ _ _ _ => pts_nil) (fun _ _ _ _ _ => (pe_and (pe_ca c_is_number b_is_number hr ps0 (pa_cons (pv 1) pa_nil)) (pe_one (pe_cmpR op_ge (pv 1) pe_int (nomark _)))))) pa_nil)) (pe_one (pe_ca c_is_falling b_is_falling hr ps0 (pa_cons (pv 0) pa_nil))))))), ?_⟩
  refine ⟨_, rfl, _, _, _, _, _, rfl, .ty _, tyT ht, kit_ty (r := true) (by decide +kernel), true, rfl, iteF ?_⟩
  refine ⟨_, rfl, a, rfl, ⟨_, ht⟩, fun D hD => lc_it (walk_tup (xs := ns.map V.int)) (Cw H (fun _ => true) (fun i => V.bl (decide (2 ≤ ns.getD i 0))) D) (cw0 hD) (fun i H' _ p => Same.seqT p.2.1 ht) ?_ ?_⟩
  · rintro i x H' H'' hi p ⟨rfl, hx⟩
    obtain ⟨z, hz, rfl⟩ := map_of hx
    refine ⟨rfl, _, rfl, z, rfl, true, rfl, ?_⟩
    refine iteT ?_
    refine ⟨_, rfl, _, _, rfl, rfl, ?_⟩
    have hi' : i < ns.length := by simpa using hi
    exact cwY p (Same.refl _) (by omega) rfl (by rw [getD_of hz])
  · rintro H1 ⟨p1, p2, p3⟩
    have e := givn_all ns 0 (fun x => V.bl (decide (2 ≤ x)))
    rw [List.length_map] at p3
    rw [e] at p3
    refine ⟨D, (ns.map fun s => decide (2 ≤ s)), rfl, SqL.of (by rw [List.map_map]; exact p3), _, rfl, ?_⟩
    refine ite2 (fun h1 => ?_) (fun h1 => ?_)
    · have ht1 : (ns.map fun s => decide (2 ≤ s)).all id = true := by simpa using h1
      refine ⟨_, rfl, a, ns, rfl, Same.seqT p2 ht, hl, fun H2 s2 => ?_⟩
      have hf : patB ns = fallB ns := by
        unfold patB
        rw [ht1]
        rfl
      rw [hf] at q
      exact q _ (p2.trans s2)
    · have hf : patB ns = false := by
        unfold patB
        rw [show (ns.map fun s => decide (2 ≤ s)).all id = false by simpa using h1]
        rfl
      rw [hf] at q
      exact q _ p2
def spAskPat (K : PySem.W.Frag) : Sp := fun vs H Q _ => ∃ (a : Addr) (ns : List Int), vs = [.ref a] ∧ TupI K H a ns ∧ ns.length ≤ 1000 ∧ patB ns = true ∧ ∀ H', Same H H' → Q .non H'
theorem ca_ask_pattern (c_is_pattern : Ca P w K mg base 2 "is_pattern" s_is_pattern ["thing"] (spPat K)) (U : Up K mg "ask_pattern" s_ask_pattern) : Ca P w K mg base 3 "ask_pattern" s_ask_pattern ["pattern"] (spAskPat K) := by
  refine ca0 U sc_ask_pattern (fun vs H Q E h => by obtain ⟨a, ns, rfl, _⟩ := h; rfl) fun f cdv A outer s H vs Q E hr h => ?_
  obtain ⟨a, ns, rfl, ht, hl, hp, q⟩ := h
  refine ⟨_, (pss_one (ps_if (pt_not (pt_val (pe_ca c_is_pattern b_is_pattern hr ps0 (pa_cons (pv 0) pa_nil)))) (pss_one ps_never)
      pss_nil)), ?_⟩
  refine ⟨_, rfl, a, ns, rfl, ht, hl, fun H' s' => ⟨_, rfl, ?_⟩⟩
  rw [hp]
  exact iteF (q _ s')
def spMet (K : PySem.W.Frag) (g : List Int → Int) : Sp := fun vs H Q _ => ∃ (a : Addr) (ns : List Int), vs = [.ref a] ∧ TupI K H a ns ∧ ns.length ≤ 1000 ∧ patB ns = true ∧ ∀ H', Same H H' → Q (.int (g ns)) H'
theorem ca_met (B : Bl mg) (c_ask_pattern : Ca P w K mg base 3 "ask_pattern" s_ask_pattern ["pattern"] (spAskPat K)) (U : Up K mg "met" s_met) : Ca P w K mg base 4 "met" s_met ["pattern"] (spMet K List.sum) := by
  refine ca0 U sc_met (fun vs H Q E h => by obtain ⟨a, ns, rfl, _⟩ := h; rfl) fun f cdv A outer s H vs Q E hr h => ?_
  obtain ⟨a, ns, rfl, ht, hl, hp, q⟩ := h
  refine ⟨_, (pss_cons (ps_expr (pe_ca c_ask_pattern b_ask_pattern hr ps0 (pa_cons (pv 0) pa_nil)))
      (pss_one (ps_ret (pe_callB (cr_sumTK K rfl rfl) (by rfl) B.sum (by decide +kernel) (pa_cons (pv 0) pa_nil))))), ?_⟩
  exact ⟨_, rfl, a, ns, rfl, ht, hl, hp, fun H' s' => ⟨_, rfl, a, ns, rfl, ht.same s', q _ s'⟩⟩
theorem ca_less (B : Bl mg) (c_ask_pattern : Ca P w K mg base 3 "ask_pattern" s_ask_pattern ["pattern"] (spAskPat K)) (U : Up K mg "less" s_less) : Ca P w K mg base 4 "less" s_less ["pattern"] (spMet K lessI) := by
  refine ca0 U sc_less (fun vs H Q E h => by obtain ⟨a, ns, rfl, _⟩ := h; rfl) fun f cdv A outer s H vs Q E hr h => ?_
  obtain ⟨a, ns, rfl, ht, hl, hp, q⟩ := h
  refine ⟨_, (pss_cons (ps_expr (pe_ca c_ask_pattern b_ask_pattern hr ps0 (pa_cons (pv 0) pa_nil)))
      (pss_one (ps_ret (pe_op op_sub (pe_callB (cr_sumTK K rfl rfl) (by rfl) B.sum (by decide +kernel) (pa_cons (pv 0) pa_nil)) (pe_callB (call_lenK K rfl) (by rfl) B.len (by decide +kernel) (pa_cons (pv 0) pa_nil)))))), ?_⟩
  refine ⟨_, rfl, a, ns, rfl, ht, hl, hp, fun H' s' => ⟨_, rfl, a, ns, rfl, ht.same s', _, rfl, a, _, rfl, .inr (ht.same s'), _, _, rfl, rfl, ?_⟩⟩
  rw [List.length_map]
  exact q _ s'
end
end DK
set_option Elab.async false
set_option linter.all false
set_option maxRecDepth 100000
set_option maxHeartbeats 2000000
namespace DK
open PySem PySem.Spec PyProof.Rows L2 RZ DL
abbrev s_Calendar___init__ : Stmt := inClass (topS 21) 0
abbrev N_Calendar___init__ : List Str := ["self", "born", "days"]
theorem sc_Calendar___init__ : FnScope N_Calendar___init__ ["self", "born", "days"] (defScope s_Calendar___init__) := ⟨rfl, rfl, rfl, by decide +kernel, rfl, by decide +kernel, by decide +kernel⟩

abbrev s_days_many : Stmt := topS 24
abbrev N_days_many : List Str := ["calendar"]
theorem sc_days_many : FnScope N_days_many ["calendar"] (defScope s_days_many) := ⟨rfl, rfl, rfl, by decide +kernel, rfl, by decide +kernel, by decide +kernel⟩
theorem b_days_many : BindOk "days_many" s_days_many ["calendar"] := fun _ _ _ _ _ _ us hl => match us, hl with | [_], _ => rfl

abbrev s_alive : Stmt := topS 26
abbrev N_alive : List Str := ["calendar", "d", "born", "moment", "pattern"]
theorem sc_alive : FnScope N_alive ["calendar", "d"] (defScope s_alive) := ⟨rfl, rfl, rfl, by decide +kernel, rfl, by decide +kernel, by decide +kernel⟩
theorem b_alive : BindOk "alive" s_alive ["calendar", "d"] := fun _ _ _ _ _ _ us hl => match us, hl with | [_, _], _ => rfl

abbrev s_ends : Stmt := topS 27
abbrev N_ends : List Str := ["calendar"]
theorem sc_ends : FnScope N_ends ["calendar"] (defScope s_ends) := ⟨rfl, rfl, rfl, by decide +kernel, rfl, by decide +kernel, by decide +kernel⟩
theorem b_ends : BindOk "ends" s_ends ["calendar"] := fun _ _ _ _ _ _ us hl => match us, hl with | [_], _ => rfl

section
variable {P : Program} {w : World} {K : PySem.W.Frag} {mg : Str → Option Value} {base : Heap} {C f0 fC CM fR : Addr}
/-- Calendar.__init__ -/
def calF (b d : V) : List (Str × V) := putF "days" d (putF "born" b [])
theorem bd_ : ¬ (("born" : Str) = "days") := by decide +kernel
theorem calF_born (b d : V) : (calF b d).lookup ("born" : Str) = some b := by
  unfold calF
  rw [lookup_putF, if_neg bd_, lookup_putF, if_pos rfl]
theorem calF_days (b d : V) : (calF b d).lookup ("days" : Str) = some d := by
  unfold calF
  rw [lookup_putF, if_pos rfl]
def spInitC (C : Addr) : Sp := fun vs H Q _ => ∃ (c dx : Addr) (b d : V), vs = [.ref c, b, d] ∧ H c = some (.ins C dx []) ∧ Q .non (upd H c (.ins C dx (calF b d)))
theorem ok_init (T : ClC K mg C fC) {f : Addr} {fd : FuncData} (F : Fun K "__init__" "Calendar.__init__" s_Calendar___init__ f fd) : FnOk P w K mg base (L2.CX P w) 1 f fd ["self", "born", "days"] (spInitC C) := by
  refine fn_up (F.ok sc_Calendar___init__ (fun vs H Q E h => by obtain ⟨c, dx, b, d, rfl, _⟩ := h; rfl) fun cdv A outer s H vs Q E hr h => ?_)
  obtain ⟨c, dx, b, d, rfl, hc, q⟩ := h
  refine ⟨_, (pss_cons (ps_fld (pv 0) (pv 1) rfl)
      (pss_one (ps_fld (pv 0) (pv 2) rfl))), ?_⟩
  refine ⟨_, rfl, _, rfl, c, C, dx, _, rfl, hc, T.cl, T.nB, (by show 0 < 1000; decide), ?_⟩
  refine ⟨_, rfl, _, rfl, c, C, dx, _, rfl, upd_same, T.cl, T.nD, (by show 1 < 1000; decide), ?_⟩
  rw [upd_upd]
  exact q
def spLeaves (K : PySem.W.Frag) (C : Addr) (g : List Int → List (List Int) → Int) : Sp := fun vs H Q _ => ∃ (c : Addr) (bs : List Int) (ds : List (List Int)), vs = [.ref c] ∧ CalAt K C H c bs ds ∧ Q (.int (g bs ds)) H
theorem ca_days_many (B : Bl mg) (T : ClC K mg C fC) (U : Up K mg "days_many" s_days_many) : Ca P w K mg base 1 "days_many" s_days_many ["calendar"] (spLeaves K C fun _ ds => (ds.length : Int)) := by
  refine ca0 U sc_days_many (fun vs H Q E h => by obtain ⟨c, bs, ds, rfl, _⟩ := h; rfl) fun f cdv A outer s H vs Q E hr h => ?_
  obtain ⟨c, bs, ds, rfl, hcal, q⟩ := h
  obtain ⟨dx, b, d, fs, h1, h2, h3, h4, qs, h5, h6, h7⟩ := hcal.op
  refine ⟨_, (pss_one (ps_ret (pe_callB (call_lenK K rfl) (by rfl) B.len (by decide +kernel) (pa_cons (pe_fld (pv 0) rfl) pa_nil)))), ?_⟩
  refine ⟨_, rfl, c, C, dx, fs, _, rfl, h1, T.cl, T.nD, h3, d, _, rfl, .inr h5, ?_⟩
  rw [List.length_map, h6]
  exact q
/-- what a calendar's days are: patterns -/
def DaysOk (ds : List (List Int)) : Prop := ∀ p ∈ ds, patB p = true ∧ p.length ≤ 1000
def spAlive (K : PySem.W.Frag) (C CM : Addr) (last : List (List Int) → Int) (g : List Int → List (List Int) → Nat → Int) : Sp := fun vs H Q E => ∃ (c : Addr) (bs : List Int) (ds : List (List Int)) (d : Int), vs = [.ref c, .int d] ∧ CalAt K C H c bs ds ∧ DaysOk ds ∧ bs.length ≤ 1000 ∧ ds.length ≤ 1000 ∧
  (0 ≤ d ∧ d ≤ last ds → ∀ H', Same H H' → Q (.int (g bs ds d.toNat)) H') ∧ (¬ (0 ≤ d ∧ d ≤ last ds) → RaisesW CM (.int d) H E)
theorem ca_alive (B : Bl mg) (T : ClC K mg C fC) (c_ask_moment : Ca P w K mg base 3 "ask_moment" s_ask_moment ["d", "last"] (spAskMoment CM)) (c_days_many : Ca P w K mg base 1 "days_many" s_days_many ["calendar"] (spLeaves K C fun _ ds => (ds.length : Int)))
    (c_less : Ca P w K mg base 4 "less" s_less ["pattern"] (spMet K lessI)) (U : Up K mg "alive" s_alive) : Ca P w K mg base 5 "alive" s_alive ["calendar", "d"] (spAlive K C CM (fun ds => (ds.length : Int)) aliveAt) := by
  refine caX U sc_alive (fun vs H Q E h => by obtain ⟨c, bs, ds, d, rfl, _⟩ := h; rfl) fun f cdv A outer s H vs Q E hr h => ?_
  obtain ⟨c, bs, ds, d, rfl, hcal, hd, hz1, hz2, q1, q2⟩ := h
  refine ⟨_, (pss_cons (ps_expr (pe_ca c_ask_moment b_ask_moment hr (passAt (takes_of rfl rfl rfl rfl)) (pa_cons (pv 1) (pa_cons (pe_ca c_days_many b_days_many hr ps0 (pa_cons (pv 0) pa_nil)) pa_nil))))
      (pss_cons (ps_setLc (i := 2) (own := [("moment", 3)]) (g := (gName 3)) (by rfl) sc_alive.nd rfl rfl (sw_true rfl rfl rfl (by decide +kernel)) (pi_tup (pe_fld (pv 0) rfl)) (blkOk_by (N := N_alive) (own := [("moment", 3)]) (sc := defScope s_alive) (by decide +kernel)) (fun _ _ _ _ _ => pg_name (i := 3) sc_alive.nd rfl (Or.inl rfl)) (fun _ _ _ _ _ => (pts_one (pt_cmpR op_le (pv 3) (pv 1) (nomark _)))) (fun _ _ _ _ _ => (pv 3)))
      (pss_one (ps_ret (pe_op op_sub (pe_callB (call_lenK K rfl) (by rfl) B.len (by decide +kernel) (pa_cons (pv 2) pa_nil)) (pe_callB (cr_sumK K rfl rfl) (by rfl) B.sum (by decide +kernel) (pa_cons (pe_lc (own := [("pattern", 4)]) (g := (gName 4)) (by rfl) sc_alive.nd (pi_tup (pe_slice sl_tupS (pe_fld (pv 0) rfl) po_none (po_some (pv 1)))) (blkOk_by (N := N_alive) (own := [("pattern", 4)]) (sc := defScope s_alive) (by decide +kernel)) (fun _ _ _ _ _ => pg_name (i := 4) sc_alive.nd rfl (Or.inl rfl)) (fun _ _ _ _ _ => pts_nil) (fun _ _ _ _ _ => (pe_ca c_less b_less hr ps0 (pa_cons (pv 4) pa_nil)))) pa_nil))))))), ?_⟩
  have hcal' := hcal
  obtain ⟨dx, b, dd, fs, h1, h2, h3, h4, qs, h5, h6, h7⟩ := hcal.op
  refine ⟨_, rfl, _, rfl, c, bs, ds, rfl, hcal', d, _, rfl, fun hr1 => ?_, fun hr1 => q2 hr1⟩
  have q1' := q1 hr1
  have hr2 : 0 ≤ d ∧ d ≤ (ds.length : Int) := hr1
  refine ⟨_, rfl, c, C, dx, fs, _, rfl, h1, T.cl, T.nB, h2, b, rfl, ⟨_, h4⟩, fun D hD => lc_it (walk_tup (xs := bs.map V.int)) (Cw H (fun i => decide (bs.getD i 0 ≤ d)) (fun i => V.int (bs.getD i 0)) D) (cw0 hD) (fun i H' _ p => Same.seqT p.2.1 h4) ?_ ?_⟩
  · rintro i x H' H'' hi p ⟨rfl, hx⟩
    obtain ⟨z, hz, rfl⟩ := map_of hx
    have hi' : i < bs.length := by simpa using hi
    refine ⟨rfl, _, rfl, _, rfl, _, _, rfl, rfl, _, rfl, ?_⟩
    refine ite2 (fun h => ?_) (fun h => ?_)
    · exact ⟨_, rfl, cwY p (Same.refl _) (by omega) (by rw [getD_of hz]; exact h) (by rw [getD_of hz])⟩
    · exact cwN p (Same.refl _) (by rw [getD_of hz]; simpa using h)
  · rintro H1 ⟨p1, p2, p3⟩
    have e := givn_filter bs 0 (fun x => decide (x ≤ d)) V.int
    rw [List.length_map] at p3
    rw [e] at p3
    have hd' : d.toNat ≤ ds.length := by omega
    have hdd : d = ((d.toNat : Nat) : Int) := by omega
    refine ⟨_, rfl, D, _, rfl, .inl (SqL.of p3), _, rfl, c, C, dx, fs, _, rfl, p2 _ _ h1, T.cl, T.nD, h3, _, rfl, d, rfl, dd, _, rfl, Same.seqT p2 h5, fun p H4 s4 hp => ?_⟩
    have hp' : SqT K H4 p ((qs.take d.toNat).map V.ref) := by
      rw [hdd, cut_to, ← List.map_take] at hp
      exact hp
    refine ⟨p, rfl, ⟨_, hp'⟩, fun D2 hD2 => lc_it (walk_tup (xs := (qs.take d.toNat).map V.ref)) (Cw H4 (fun _ => true) (fun i => V.int (lessI ((ds.take d.toNat).getD i []))) D2) (cw0 hD2) (fun i H' _ p => Same.seqT p.2.1 hp') ?_ ?_⟩
    · rintro i x H' H'' hi p ⟨rfl, hx⟩
      obtain ⟨z, hz, rfl⟩ := map_of hx
      have hi' : i < d.toNat := by
        simp at hi
        omega
      have hzq : qs[i]? = some z := by
        rw [List.getElem?_take_of_lt hi'] at hz
        exact hz
      have hds : ds[i]? = some ds[i] := by simp
      have hds2 : (ds.take d.toNat)[i]? = some ds[i] := by rw [List.getElem?_take_of_lt hi', hds]
      have hps := hd ds[i] (List.getElem_mem _)
      refine ⟨rfl, _, rfl, z, ds[i], rfl, (h7 i z _ hzq hds).same ((p2.trans s4).trans p.2.1), hps.2, hps.1, fun H5 s5 => ?_⟩
      exact cwY p s5 (by omega) rfl (by rw [getD_of hds2])
    · rintro H5 ⟨r1, r2, r3⟩
      have e2 := givn_all (ds.take d.toNat) [] (fun x => V.int (lessI x))
      have e3 : ((qs.take d.toNat).map V.ref).length = (ds.take d.toNat).length := by simp [h6]
      rw [e3, e2] at r3
      refine ⟨D2, (ds.take d.toNat).map lessI, rfl, SqL.of (by rw [List.map_map]; exact r3), _, _, rfl, rfl, ?_⟩
      have q3 := q1' _ ((p2.trans s4).trans r2)
      unfold aliveAt at q3
      rw [← hdd] at q3
      rw [List.length_map]
      exact q3
def spEnds (K : PySem.W.Frag) (C : Addr) : Sp := fun vs H Q _ => ∃ (c : Addr) (bs : List Int) (ds : List (List Int)), vs = [.ref c] ∧ CalAt K C H c bs ds ∧ DaysOk ds ∧ bs.length ≤ 1000 ∧ ds.length ≤ 1000 ∧ ∀ H', Same H H' → Q (.int (aliveAt bs ds ds.length)) H'
theorem ca_ends (c_days_many : Ca P w K mg base 1 "days_many" s_days_many ["calendar"] (spLeaves K C fun _ ds => (ds.length : Int)))
    (c_alive : Ca P w K mg base 5 "alive" s_alive ["calendar", "d"] (spAlive K C CM (fun ds => (ds.length : Int)) aliveAt)) (U : Up K mg "ends" s_ends) : Ca P w K mg base 6 "ends" s_ends ["calendar"] (spEnds K C) := by
  refine ca0 U sc_ends (fun vs H Q E h => by obtain ⟨c, bs, ds, rfl, _⟩ := h; rfl) fun f cdv A outer s H vs Q E hr h => ?_
  obtain ⟨c, bs, ds, rfl, hcal, hd, hz1, hz2, q⟩ := h
  refine ⟨_, (pss_one (ps_ret (pe_ca c_alive b_alive hr ps0 (pa_cons (pv 0) (pa_cons (pe_ca c_days_many b_days_many hr ps0 (pa_cons (pv 0) pa_nil)) pa_nil))))), ?_⟩
  refine ⟨_, rfl, _, rfl, c, bs, ds, rfl, hcal, c, bs, ds, _, rfl, hcal, hd, hz1, hz2, fun _ H1 s1 => ?_, fun hn => absurd (show 0 ≤ (ds.length : Int) ∧ (ds.length : Int) ≤ (ds.length : Int) by omega) hn⟩
  have q3 := q _ s1
  rw [Int.toNat_natCast]
  exact q3
end
end DK
set_option Elab.async false
set_option linter.all false
set_option maxRecDepth 100000
set_option maxHeartbeats 2000000
namespace DK
open PySem PySem.Spec PyProof.Rows L2 RZ DL
abbrev s_ask_lines : Stmt := topS 23
abbrev N_ask_lines : List Str := ["born", "days", "k", "d", "pattern"]
theorem sc_ask_lines : FnScope N_ask_lines ["born", "days"] (defScope s_ask_lines) := ⟨rfl, rfl, rfl, by decide +kernel, rfl, by decide +kernel, by decide +kernel⟩
theorem b_ask_lines : BindOk "_ask_lines" s_ask_lines ["born", "days"] := fun _ _ _ _ _ _ us hl => match us, hl with | [_, _], _ => rfl

abbrev s_made_calendar : Stmt := topS 22
abbrev N_made_calendar : List Str := ["born", "days", "d", "pattern", "x", "moment"]
theorem sc_made_calendar : FnScope N_made_calendar ["born", "days"] (defScope s_made_calendar) := ⟨rfl, rfl, rfl, by decide +kernel, rfl, by decide +kernel, by decide +kernel⟩
theorem b_made_calendar : BindOk "made_calendar" s_made_calendar ["born", "days"] := fun _ _ _ _ _ _ us hl => match us, hl with | [_, _], _ => rfl

section
variable {P : Program} {w : World} {K : PySem.W.Frag} {mg : Str → Option Value} {base : Heap} {C f0 fC CM fR : Addr}
def spAskLines (K : PySem.W.Frag) : Sp := fun vs H Q _ => ∃ (b dd : Addr) (bs : List Int) (ds : List (List Int)), vs = [.ref b, .ref dd] ∧ TupD H b (bs.map V.int) ∧ TupTI K H dd ds ∧ CalOk bs ds ∧ ∀ H', Same H H' → Q .non H'
theorem ca_ask_lines (B : Bl mg) (c_met : Ca P w K mg base 4 "met" s_met ["pattern"] (spMet K List.sum)) (c_less : Ca P w K mg base 4 "less" s_less ["pattern"] (spMet K lessI)) (U : Up K mg "_ask_lines" s_ask_lines) : Ca P w K mg base 5 "_ask_lines" s_ask_lines ["born", "days"] (spAskLines K) := by
  refine ca0 U sc_ask_lines (fun vs H Q E h => by obtain ⟨b, dd, bs, ds, rfl, _⟩ := h; rfl) fun f cdv A outer s H vs Q E hr h => ?_
  obtain ⟨b, dd, bs, ds, rfl, hb, ⟨qs, h5, h6, h7⟩, ok, q⟩ := h
  refine ⟨_, (pss_cons (ps_set (i := 2) sc_ask_lines.nd rfl (Or.inl rfl) pe_int)
      (pss_one (ps_for PassesOwn.never rfl (pi_enumT (by rfl) B.enumerate (pa_cons (pv 1) pa_nil)) (pg_tup rfl (pgs_cons (pg_name (i := 3) sc_ask_lines.nd rfl (Or.inl rfl)) (pgs_cons (pg_name (i := 4) sc_ask_lines.nd rfl (Or.inl rfl)) pgs_nil)))
      (pss_cons (ps_set (i := 2) sc_ask_lines.nd rfl (Or.inl rfl) (pe_op op_add (pv 2) (pe_bmD PySem.F.plainAttrs_tuple PySem.F.slot_tuple_count PySem.F.type_tuple_count mt_tcount (pv 0) (pa_cons (pv 3) pa_nil))))
      (pss_cons (ps_if (pt_cmpR op_gt (pe_ca c_met b_met hr ps0 (pa_cons (pv 4) pa_nil)) (pv 2) (nomark _)) (pss_one ps_never)
      pss_nil)
      (pss_one (ps_set (i := 2) sc_ask_lines.nd rfl (Or.inl rfl) (pe_op op_sub (pv 2) (pe_ca c_less b_less hr ps0 (pa_cons (pv 4) pa_nil)))))))))), ?_⟩
  refine ⟨_, rfl, dd, _, rfl, h5, for_it (walk_enumT (xs := qs.map V.ref)) (fun i σ H' => Same H H' ∧ ∃ k x y, k = kAt bs ds i ∧ σ = [some (.ref b), some (.ref dd), some (.int k), x, y]) ⟨Same.refl _, 0, none, none, ?_, rfl⟩ (fun i σ H' _ p => Same.seqT p.1 h5) ?_ ?_⟩
  · have h0 : bs.filter (fun b => decide (b < ((0 : Nat) : Int))) = [] := by
      rw [List.filter_eq_nil_iff]
      intro x hx
      have := (ok.born x hx).1
      simp
      omega
    unfold kAt bornB
    rw [h0]
    simp
  · rintro i x σ H1 H2 hi ⟨s1, k, x', y', ek, rfl⟩ ⟨T, u, v, rfl, hT, rfl, hu, hv⟩
    cases hu
    obtain ⟨z, hz, rfl⟩ := map_of hv
    have hi' : i < ds.length := by
      have := (List.getElem?_eq_some_iff.mp hz).1
      omega
    have hds : ds[i]? = some ds[i] := by simp
    have hp := ok.pat ds[i] (List.getElem_mem _)
    have s2 : Same H (upd H1 T (.tup [.int (i : Nat), .ref z])) := Same.mut s1 (same_back s1 hT)
    refine ⟨T, _, rfl, SqT.of upd_same, rfl, _, _, rfl, _, _, rfl, rfl, ?_⟩
    refine ⟨_, rfl, _, rfl, ⟨b, _, rfl, hb.same s2⟩, _, rfl, b, bs, _, rfl, rfl, (hb.same s2).sq, _, _, rfl, rfl, ?_⟩
    have ek2 : k + (bs.count ((i : Nat) : Int) : Nat) = aliveAt bs ds i := by rw [ek, kAt_count]
    refine ⟨_, rfl, z, ds[i], rfl, (h7 i z _ hz hds).same s2, hp.2.2, hp.1, fun H3 s3 => ⟨_, rfl, _, _, rfl, rfl, _, rfl, ?_⟩⟩
    have hfit := ok.fit i _ hds
    have hdec : decide (k + (bs.count ((i : Nat) : Int) : Nat) < ds[i].sum) = false := by
      rw [ek2]
      simpa using hfit
    refine iteFd hdec ⟨_, rfl, _, rfl, z, ds[i], rfl, (h7 i z _ hz hds).same (s2.trans s3), hp.2.2, hp.1, fun H4 s4 => ⟨_, _, rfl, rfl, (s2.trans s3).trans s4, _, _, _, by rw [← kAt_less hds, ← ek2], rfl⟩⟩
  · rintro σ H' ⟨s1, _⟩
    exact q _ s1
structure Kn (mg : Str → Option Value) : Prop where
  MOST_LEAVES : ∃ t, mg "MOST_LEAVES" = some (.int 12 t)
  MOST_DAYS : ∃ t, mg "MOST_DAYS" = some (.int 11 t)
def spMade (K : PySem.W.Frag) (C : Addr) : Sp := fun vs H Q _ => ∃ (b dd : Addr) (bs : List Int) (ds : List (List Int)), vs = [.ref b, .ref dd] ∧ TupD H b (bs.map V.int) ∧ TupTD H dd ds ∧ CalOk bs ds ∧ ∀ c H', H c = none → Same H H' → CalAt K C H' c bs ds → Q (.ref c) H'
theorem ca_made_calendar (B : Bl mg) (Kc : Kn mg) (T : ClC K mg C fC) {fd : FuncData} (G_Calendar : FnOk P w K mg base (L2.CX P w) 1 fC fd ["self", "born", "days"] (spInitC C)) (Bi_Calendar : Binds K fd ["self", "born", "days"] [])
    (c_is_pattern : Ca P w K mg base 2 "is_pattern" s_is_pattern ["thing"] (spPat K)) (c_is_from_to : Ca P w K mg base 2 "is_from_to" s_is_from_to ["thing", "low", "high"] spFromTo) (c_ask_lines : Ca P w K mg base 5 "_ask_lines" s_ask_lines ["born", "days"] (spAskLines K))
    (U : Up K mg "made_calendar" s_made_calendar) : Ca P w K mg base 6 "made_calendar" s_made_calendar ["born", "days"] (spMade K C) := by
  refine ca0 U sc_made_calendar (fun vs H Q E h => by obtain ⟨b, dd, bs, ds, rfl, _⟩ := h; rfl) fun f cdv A outer s H vs Q E hr h => ?_
  obtain ⟨b, dd, bs, ds, rfl, hb, hdd, ok, q⟩ := h
  have hu64 := hr.units
  obtain ⟨qs, h5, h6, h7⟩ := hdd.ti (K := K)
  refine ⟨_, (pss_cons (ps_if (pt_not (pt_chain op_le op_le pe_int (pe_callB (call_lenK K rfl) (by rfl) B.len (by decide +kernel) (pa_cons (pv 0) pa_nil)) (pe_gI Kc.MOST_LEAVES))) (pss_one ps_never)
      pss_nil)
      (pss_cons (ps_if (pt_cmpR op_gt (pe_callB (call_lenK K rfl) (by rfl) B.len (by decide +kernel) (pa_cons (pv 1) pa_nil)) (pe_gI Kc.MOST_DAYS) (nomark _)) (pss_one ps_never)
      pss_nil)
      (pss_cons (ps_for PassesOwn.never rfl (pi_enumT (by rfl) B.enumerate (pa_cons (pv 1) pa_nil)) (pg_tup rfl (pgs_cons (pg_name (i := 2) sc_made_calendar.nd rfl (Or.inl rfl)) (pgs_cons (pg_name (i := 3) sc_made_calendar.nd rfl (Or.inl rfl)) pgs_nil)))
      (pss_one (ps_if (PW.pt (pw_or (pt_cmpR (op_eqDK K rfl hu64) (pv 3) (pe_tup pa_nil) (nomark _)) (pw_or1 (pt_not (pt_val (pe_ca c_is_pattern b_is_pattern hr ps0 (pa_cons (pv 3) pa_nil))))))) (pss_one ps_never)
      pss_nil)))
      (pss_cons (ps_for PassesOwn.never rfl (pi_enumT (by rfl) B.enumerate (pa_cons (pv 0) pa_nil)) (pg_tup rfl (pgs_cons (pg_name (i := 4) sc_made_calendar.nd rfl (Or.inl rfl)) (pgs_cons (pg_name (i := 5) sc_made_calendar.nd rfl (Or.inl rfl)) pgs_nil)))
      (pss_one (ps_if (pt_not (pt_val (pe_ca c_is_from_to b_is_from_to hr ps0 (pa_cons (pv 5) (pa_cons pe_int (pa_cons (pe_callB (call_lenK K rfl) (by rfl) B.len (by decide +kernel) (pa_cons (pv 1) pa_nil)) pa_nil)))))) (pss_one ps_never)
      pss_nil)))
      (pss_cons (ps_expr (pe_ca c_ask_lines b_ask_lines hr ps0 (pa_cons (pv 0) (pa_cons (pv 1) pa_nil))))
      (pss_one (ps_ret (pe_make T.mkC G_Calendar (hr.mono (by decide)) (by rfl) T.mgC Bi_Calendar .nil passL (pa_cons (pv 0) (pa_cons (pv 1) pa_nil)))))))))), ?_⟩
  have n1 := ok.n1
  have n12 := ok.n12
  have m11 := ok.m11
  refine ⟨_, rfl, b, _, rfl, .inr hb.sq, _, _, rfl, rfl, _, rfl, ?_⟩
  refine iteTd (c := decide ((1 : Int) ≤ ((bs.map V.int).length : Nat))) (by simp; omega) ⟨_, _, rfl, rfl, _, rfl, ?_⟩
  refine iteFd (c := !decide ((((bs.map V.int).length : Nat) : Int) ≤ 12)) (by simp; omega) ?_
  refine ⟨_, rfl, dd, _, rfl, .inr h5, _, _, rfl, rfl, _, rfl, ?_⟩
  refine iteFd (c := decide ((11 : Int) < ((qs.map V.ref).length : Nat))) (by simp; omega) ?_
  refine ⟨_, rfl, dd, _, rfl, h5, for_it (walk_enumT (xs := qs.map V.ref)) (fun i σ H' => Same H H' ∧ ∃ x y z u, σ = [some (.ref b), some (.ref dd), x, y, z, u]) ⟨Same.refl _, none, none, none, none, rfl⟩ (fun i σ H' _ p => Same.seqT p.1 h5) ?_ ?_⟩
  · rintro i x σ H1 H2 hi ⟨s1, x', y', z', u', rfl⟩ ⟨T0, u, v, rfl, hT, rfl, hu, hv⟩
    cases hu
    obtain ⟨z, hz, rfl⟩ := map_of hv
    have hi' : i < ds.length := by
      have := (List.getElem?_eq_some_iff.mp hz).1
      omega
    have hds : ds[i]? = some ds[i] := by simp
    have hp := ok.pat ds[i] (List.getElem_mem _)
    have s2 : Same H (upd H1 T0 (.tup [.int (i : Nat), .ref z])) := Same.mut s1 (same_back s1 hT)
    refine ⟨T0, _, rfl, SqT.of upd_same, rfl, _, _, rfl, _, _, rfl, rfl, ?_⟩
    refine ⟨_, rfl, Nat.zero_le _, fun p hp0 => ?_⟩
    have s3 := s2.trans (Same.new (o := .tup []) hp0)
    refine ⟨_, _, dp_tup ((h7 i z _ hz hds).same s3), .tup (SqT.of upd_same) .nil, shaped_tup _, shaped_tup [], _, rfl, ?_⟩
    refine iteFd (by rw [show (PyData.tuple []) = .tuple (([] : List Int).map PyData.int) from rfl, eqv_tup]; exact decide_eq_false hp.2.1) ?_
    refine ⟨_, rfl, z, ds[i], rfl, (h7 i z _ hz hds).same s3, hp.2.2, fun H4 s4 => ⟨_, rfl, ?_⟩⟩
    exact iteFd (by rw [hp.1]; rfl) ⟨s3.trans s4, _, _, _, _, rfl⟩
  · rintro σ H1 ⟨s1, x', y', z', u', rfl⟩
    refine ⟨_, rfl, b, _, rfl, Same.seqT s1 hb.sq, for_it (walk_enumT (xs := bs.map V.int)) (fun i σ H' => Same H H' ∧ ∃ x y z u, σ = [some (.ref b), some (.ref dd), x, y, z, u]) ⟨s1, _, _, _, _, rfl⟩ (fun i σ H' _ p => Same.seqT p.1 hb.sq) ?_ ?_⟩
    · rintro i x σ H1 H2 hi ⟨s1, x', y', z', u', rfl⟩ ⟨T0, u, v, rfl, hT, rfl, hu, hv⟩
      cases hu
      obtain ⟨z, hz, rfl⟩ := map_of hv
      have hz2 := ok.born z (List.mem_of_getElem? hz)
      have s2 : Same H (upd H1 T0 (.tup [.int (i : Nat), .int z])) := Same.mut s1 (same_back s1 hT)
      refine ⟨T0, _, rfl, SqT.of upd_same, rfl, _, _, rfl, _, _, rfl, rfl, ?_⟩
      refine ⟨_, rfl, _, rfl, dd, _, rfl, .inr (Same.seqT s2 h5), z, 0, _, rfl, _, rfl, ?_⟩
      exact iteFd (by simp; omega) ⟨s2, _, _, _, _, rfl⟩
    · rintro σ H2 ⟨s2, x', y', z', u', rfl⟩
      refine ⟨_, rfl, _, rfl, b, dd, bs, ds, rfl, hb.same s2, (hdd.same s2).ti, ok, fun H3 s3 => ?_⟩
      refine ⟨_, rfl, _, rfl, fun x dx hx hdx hne => ⟨x, dx, .ref b, .ref dd, rfl, upd_same, rfl, ?_⟩⟩
      have s4 := s2.trans s3
      have s5 : Same H (upd (upd (upd H3 dx (.own x)) x (.ins C dx [])) x (.ins C dx (calF (.ref b) (.ref dd)))) := Same.mut (Same.mut (Same.mut s4 (same_back s4 hdx)) (same_back s4 hx)) (same_back s4 hx)
      exact q x _ (same_back s4 hx) s5 ⟨dx, b, dd, _, upd_same, calF_born _ _, calF_days _ _, hb.same s5, hdd.same s5⟩
end
end DK
set_option Elab.async false
set_option linter.all false
set_option maxRecDepth 100000
set_option maxHeartbeats 2000000
namespace DK
open PySem PySem.Spec PyProof.Rows L2 RZ DL
abbrev s_law_pattern : Stmt := topS 38
abbrev N_law_pattern : List Str := ["_law_source", "_law_k", "_law_found", "_law_left", "_law_most"]
theorem sc_law_pattern : FnScope N_law_pattern ["_law_source", "_law_k"] (defScope s_law_pattern) := ⟨rfl, rfl, rfl, by decide +kernel, rfl, by decide +kernel, by decide +kernel⟩
theorem b_law_pattern : BindOk "_law_pattern" s_law_pattern ["_law_source", "_law_k"] := fun _ _ _ _ _ _ us hl => match us, hl with | [_, _], _ => rfl

section
variable {P : Program} {w : World} {K : PySem.W.Frag} {mg : Str → Option Value} {base : Heap} {C f0 fC CM fR : Addr}
def spPattern (K : PySem.W.Frag) : Sp := fun vs H Q _ => ∃ (a : Addr) (k : Int), vs = [.ref a, .int k] ∧ Src a H ∧ 2 ≤ k ∧ k ≤ 1000 ∧ ∀ q ps H', Stay a H H' → TupD H' q (ps.map V.int) → patB ps = true → ps ≠ [] → ps.sum ≤ k → Q (.ref q) H'
theorem ca_pattern (B : Bl mg) (c_law_take : Ca P w K mg base 1 "_law_take" s_law_take ["_law_source", "_law_top"] spTake) (U : Up K mg "_law_pattern" s_law_pattern) : Ca P w K mg base 2 "_law_pattern" s_law_pattern ["_law_source", "_law_k"] (spPattern K) := by
  refine ca0 U sc_law_pattern (fun vs H Q E h => by obtain ⟨a, k, rfl, _⟩ := h; rfl) fun f cdv A outer s H vs Q E hr h => ?_
  obtain ⟨a, k, rfl, hs, k1, k2, q⟩ := h
  have hu64 := hr.units
  refine ⟨_, (pss_cons (ps_par (i := 2) (j := 3) (by rfl) sc_law_pattern.nd rfl rfl (by decide) rfl rfl (pa_cons (pe_lst pa_nil) (pa_cons (pv 1) pa_nil)) (by rfl))
      (pss_cons (ps_while PassesOwn.never (pt_mono (PW.pt (pw_and (pt_cmpR op_ge (pv 3) pe_int (nomark _)) (pw_and1 (PW.pt (pw_or (pt_cmpR (op_eqDK K rfl hu64) (pv 2) (pe_lst pa_nil) (nomark _)) (pw_or1 (pt_cmpR op_eq (pe_ca c_law_take b_law_take hr ps0 (pa_cons (pv 0) (pa_cons pe_int pa_nil))) pe_int (nomark _))))))))) (Evl.pss_cut (ps_set (i := 4) sc_law_pattern.nd rfl (Or.inl rfl) (pe_ifExp (pt_cmpR (op_neDK K rfl hu64) (pv 2) (pe_lst pa_nil) (nomark _)) (pe_callB (call_min2 rfl) (by rfl) B.min (by decide +kernel) (pa_cons (pv 3) (pa_cons (pe_ix (ix_listK K rfl) (pv 2) (pe_un un_neg pe_int) (fun _ _ => rfl)) pa_nil))) (pv 3)))
      (Evl.pss_cut (ps_expr (pe_bm PySem.F.plainAttrs_list PySem.F.slot_list_append PySem.F.type_list_append mt_append (pv 2) (pa_cons (pe_ifExp (pt_cmpR op_eq (pe_ca c_law_take b_law_take hr ps0 (pa_cons (pv 0) (pa_cons pe_int pa_nil))) pe_int (nomark _)) pe_int (pe_op op_add pe_int (pe_ca c_law_take b_law_take hr ps0 (pa_cons (pv 0) (pa_cons (pe_op op_sub (pv 4) pe_int) pa_nil))))) pa_nil)))
      (pss_one (ps_set (i := 3) sc_law_pattern.nd rfl (Or.inl rfl) (pe_op op_sub (pv 3) (pe_ix (ix_listK K rfl) (pv 2) (pe_un un_neg pe_int) (fun _ _ => rfl))))))))
      (pss_one (ps_ret (pe_callTy call_tuple_D (by rfl) B.tuple (by decide +kernel) (pa_cons (pv 2) pa_nil)))))), ?_⟩
  refine ⟨Nat.zero_le _, fun l hl => ⟨_, rfl, _, _, rfl, ?_⟩⟩
  refine while_m (fun σ H' => ∃ (left : Int) (ps : List Int) (m : Option V), σ = [some (.ref a), some (.int k), some (.ref l), some (.int left), m] ∧ Stay a H H' ∧ H' l = some (.lst (ps.map V.int)) ∧ patB ps = true ∧ ps.sum + left = k ∧ 0 ≤ left) (slotN 3) ⟨k, [], none, rfl, Stay.of_same hs (Same.new hl), upd_same, rfl, by simp, by omega⟩ ?_
  rintro σ H1 ⟨left, ps, m, rfl, st, hL, hp, hsum, h0⟩
  have hla : l ≠ a := hs.ne_none hl
  refine ⟨fun b H2 => Stay a H1 H2 ∧ (b = true → 2 ≤ left) ∧ (b = false → ps ≠ []), ?_, ?_, ?_⟩
  · refine ⟨_, rfl, _, _, rfl, rfl, _, rfl, ?_⟩
    refine ite2 (fun h1 => ?_) (fun h1 => ?_)
    · have h1' : 2 ≤ left := of_decide_eq_true h1
      refine ⟨_, rfl, Nat.zero_le _, fun p2 hp2 => ?_⟩
      have s2 := Same.new (o := .lst []) hp2
      refine ⟨_, _, dp_lst (SqL.of (s2 _ _ hL)), .lst (SqL.of upd_same) .nil, shaped_lst _, shaped_lst [], _, rfl, ?_⟩
      have e0 : PyData.eqv (.list (ps.map PyData.int)) (.list []) = decide (ps = []) := eqv_lst ps []
      by_cases hn : ps = []
      · exact iteTd (by rw [e0]; exact decide_eq_true hn) ⟨Stay.of_same st.1 s2, fun _ => h1', fun z => nomatch z⟩
      · refine iteFd (by rw [e0]; exact decide_eq_false hn) ⟨_, rfl, a, 3, rfl, st.1.same s2, by decide, by decide, fun r H3 r0 r1 st3 => ⟨rfl, _, rfl, (Stay.of_same st.1 s2).trans st3, fun _ => h1', fun _ => hn⟩⟩
    · have h1' : ¬ 2 ≤ left := fun z => h1 (decide_eq_true z)
      refine ⟨Stay.refl st.1, fun z => (nomatch z), fun _ hn => ?_⟩
      subst hn
      simp at hsum
      omega
  · rintro H2 ⟨st2, b1, _⟩
    have h2 : 2 ≤ left := b1 rfl
    have hL2 : H2 l = some (.lst (ps.map V.int)) := st2.2 _ _ hla hL
    refine ⟨fun σ' H' => ∃ most : Int, σ' = [some (.ref a), some (.int k), some (.ref l), some (.int left), some (.int most)] ∧ Same H2 H' ∧ 2 ≤ most ∧ most ≤ left ∧ (∀ y, ps.getLast? = some y → most ≤ y), ?_, ?_⟩
    · refine ⟨_, rfl, Nat.zero_le _, fun p2 hp2 => ?_⟩
      have s2 := Same.new (o := .lst []) hp2
      refine ⟨_, _, dp_lst (SqL.of (s2 _ _ hL2)), .lst (SqL.of upd_same) .nil, shaped_lst _, shaped_lst [], _, rfl, ?_⟩
      have e0 : PyData.eqv (.list (ps.map PyData.int)) (.list []) = decide (ps = []) := eqv_lst ps []
      by_cases hn : ps = []
      · refine iteFd (by rw [e0]; simp [hn]) ⟨_, rfl, left, rfl, s2, h2, Int.le_refl _, fun y hy => ?_⟩
        rw [hn] at hy
        cases hy
      · have hgl : ps.getLast? = some (ps.getLast hn) := List.getLast?_eq_some_getLast hn
        have hpos : 0 < ps.length := List.length_pos_iff.mpr hn
        refine iteTd (by rw [e0]; simp [hn]) ⟨_, rfl, _, rfl, 1, rfl, l, _, _, .int (ps.getLast hn), rfl, rfl, SqL.of (s2 _ _ hL2), ?_, left, ps.getLast hn, rfl, _, rfl, s2, ?_, ?_, ?_⟩
        · have e1 : ps.map V.int = ps.dropLast.map V.int ++ [.int (ps.getLast hn)] := by
            conv => lhs; rw [← List.dropLast_concat_getLast hn]
            simp
          rw [e1]
          exact atI_last _ _
        · have := patB_ge hp _ (List.getLast_mem hn)
          split <;> omega
        · split <;> omega
        · intro y hy
          rw [hgl] at hy
          cases hy
          split <;> omega
    · rintro σ' H3 ⟨most, rfl, s3, m1, m2, m3⟩
      have st3 := st2.same s3
      have hL3 := s3 _ _ hL2
      have hlen : ps.length < 100000 := by
        have := len_le_sum (patB_ge hp)
        omega
      have hln : (ps.map V.int).length < sizeLine := by
        rw [List.length_map]
        exact Nat.lt_of_lt_of_le hlen (by decide)
      have stH : Stay a H H3 := st.trans st3
      have hs0 : 0 ≤ ps.sum := by
        have := len_le_sum (patB_ge hp)
        omega
      refine ⟨fun σ' H' => ∃ x : Int, σ' = [some (.ref a), some (.int k), some (.ref l), some (.int left), some (.int most)] ∧ Stay a H H' ∧ 2 ≤ x ∧ x ≤ most ∧ H' l = some (.lst ((ps ++ [x]).map V.int)), ?_, ?_⟩
      · refine ⟨_, rfl, .inl ⟨rfl, _, SqL.of hL3⟩, _, rfl, a, 2, rfl, stH.1, by decide, by decide, fun r H4 r0 r1 st4 => ⟨rfl, _, rfl, ?_⟩⟩
        have hL4 : H4 l = some (.lst (ps.map V.int)) := st4.2 _ _ hla hL3
        have stH4 := stH.trans st4
        refine ite2 (fun hc => ?_) (fun hc => ?_)
        · exact ⟨l, _, _, rfl, rfl, hL4, hln, 2, rfl, stH4.mut hl hla, by omega, by omega, by rw [upd_same, List.map_append]; rfl⟩
        · refine ⟨_, rfl, _, rfl, _, _, rfl, rfl, a, _, rfl, stH4.1, by omega, by omega, fun r2 H5 r20 r21 st5 => ⟨_, _, rfl, rfl, ?_⟩⟩
          have hL5 : H5 l = some (.lst (ps.map V.int)) := st5.2 _ _ hla hL4
          exact ⟨l, _, _, rfl, rfl, hL5, hln, 2 + r2, rfl, (stH4.trans st5).mut hl hla, by omega, by omega, by rw [upd_same, List.map_append]; rfl⟩
      · rintro σ' H4 ⟨x, rfl, st4, x1, x2, hL4⟩
        have e1 : (ps ++ [x]).map V.int = ps.map V.int ++ [.int x] := by simp
        refine ⟨_, rfl, _, rfl, 1, rfl, l, _, _, .int x, rfl, rfl, SqL.of hL4, by rw [e1]; exact atI_last _ _, _, _, rfl, rfl, ⟨left - x, ps ++ [x], _, rfl, st4, hL4, patB_app hp x1 (fun y hy => Int.le_trans x2 (m3 y hy)), ?_, by omega⟩, ?_⟩
        · simp
          omega
        · show (left - x).toNat < left.toNat
          omega
  · rintro H2 ⟨st2, _, b1⟩
    have hn := b1 rfl
    have hL2 : H2 l = some (.lst (ps.map V.int)) := st2.2 _ _ hla hL
    exact ⟨_, rfl, l, _, rfl, SqL.of hL2, fun t H3 s3 ht => q t ps H3 ((st.trans st2).same s3) ht hp hn (by omega)⟩
end
end DK
set_option Elab.async false
set_option linter.all false
set_option maxRecDepth 100000
set_option maxHeartbeats 4000000
namespace DK
open PySem PySem.Spec PyProof.Rows L2 RZ DL
abbrev s_law_calendar : Stmt := topS 39
abbrev N_law_calendar : List Str := ["_law_source", "_law_menu", "_law_n", "_law_late", "_law_waits", "_law_leaf", "_law_born", "_law_days", "_law_now", "_law_turn", "_law_pattern_here", "_law_wait"]
theorem sc_law_calendar : FnScope N_law_calendar ["_law_source", "_law_menu"] (defScope s_law_calendar) := ⟨rfl, rfl, rfl, by decide +kernel, rfl, by decide +kernel, by decide +kernel⟩
theorem b_law_calendar : BindOk "_law_calendar" s_law_calendar ["_law_source", "_law_menu"] := fun _ _ _ _ _ _ us hl => match us, hl with | [_, _], _ => rfl

section
variable {P : Program} {w : World} {K : PySem.W.Frag} {mg : Str → Option Value} {base : Heap} {C f0 fC CM fR : Addr}
def spCalendar (K : PySem.W.Frag) : Sp := fun vs H Q _ => ∃ (a p : Addr) (menu : List Int), vs = [.ref a, .ref p] ∧ Src a H ∧ H p = some (.lst (menu.map V.int)) ∧ p ≠ a ∧ 0 < menu.length ∧ menu.length < 1000 ∧ (∀ n ∈ menu, 1 ≤ n ∧ n ≤ 12) ∧
  ∀ t b d bs ds H', Stay a H H' → TK H H' → H' t = some (.tup [.ref b, .ref d]) → TupD H' b (bs.map V.int) → TupTD H' d ds → CalOk bs ds → Q (.ref t) H'
theorem ca_calendar (B : Bl mg) (c_law_take : Ca P w K mg base 1 "_law_take" s_law_take ["_law_source", "_law_top"] spTake) (c_law_one : Ca P w K mg base 2 "_law_one" s_law_one ["_law_source", "_law_things"] spOne)
    (c_law_pattern : Ca P w K mg base 2 "_law_pattern" s_law_pattern ["_law_source", "_law_k"] (spPattern K)) (U : Up K mg "_law_calendar" s_law_calendar) : Ca P w K mg base 3 "_law_calendar" s_law_calendar ["_law_source", "_law_menu"] (spCalendar K) := by
  refine ca0 U sc_law_calendar (fun vs H Q E h => by obtain ⟨a, p, menu, rfl, _⟩ := h; rfl) fun f cdv A outer s H vs Q E hr h => ?_
  obtain ⟨a, p, menu, rfl, hs, hm, hpa, m1, m2, m3, q⟩ := h
  refine ⟨_, (pss_cons (ps_asg (pe_tup (pa_cons (pe_ca c_law_one b_law_one hr ps0 (pa_cons (pv 0) (pa_cons (pv 1) pa_nil))) (pa_cons (pe_ca c_law_take b_law_take hr ps0 (pa_cons (pv 0) (pa_cons pe_int pa_nil))) pa_nil))) (pg_tup rfl (pgs_cons (pg_name (i := 2) sc_law_calendar.nd rfl (Or.inl rfl)) (pgs_cons (pg_name (i := 3) sc_law_calendar.nd rfl (Or.inr rfl)) pgs_nil))))
      (pss_cons (ps_setLc (i := 4) (own := [("_law_leaf", 5)]) (g := (gName 5)) (by rfl) sc_law_calendar.nd rfl rfl (sw_true rfl rfl rfl (by decide +kernel)) (pi_range1 (by rfl) B.range (pa_cons (pv 2) pa_nil)) (blkOk_by (N := N_law_calendar) (own := [("_law_leaf", 5)]) (sc := defScope s_law_calendar) (by decide +kernel)) (fun _ _ _ _ _ => pg_name (i := 5) sc_law_calendar.nd rfl (Or.inl rfl)) (fun _ _ _ _ _ => pts_nil) (fun _ _ _ _ _ => (pe_ifExp (pt_cmpR op_eq (pv 3) pe_int (nomark _)) (pe_ca c_law_one b_law_one hr ps0 (pa_cons (pv 0) (pa_cons (pe_lst (pa_cons pe_int (pa_cons pe_int (pa_cons pe_int (pa_cons pe_int pa_nil))))) pa_nil))) pe_int)))
      (pss_cons (ps_asg (pe_tup (pa_cons (pe_op op_rep (pe_lst (pa_cons pe_int pa_nil)) (pv 2)) (pa_cons (pe_lst pa_nil) (pa_cons (pe_callB (call_lenK K rfl) (by rfl) B.len (by decide +kernel) (pa_cons (pe_lc (own := [("_law_wait", 11)]) (g := (gName 11)) (by rfl) sc_law_calendar.nd (pi_list (pv 4)) (blkOk_by (N := N_law_calendar) (own := [("_law_wait", 11)]) (sc := defScope s_law_calendar) (by decide +kernel)) (fun _ _ _ _ _ => pg_name (i := 11) sc_law_calendar.nd rfl (Or.inl rfl)) (fun _ _ _ _ _ => (pts_one (pt_cmpR op_eq (pv 11) pe_int (nomark _)))) (fun _ _ _ _ _ => (pv 11))) pa_nil)) pa_nil)))) (pg_tup rfl (pgs_cons (pg_name (i := 6) sc_law_calendar.nd rfl (Or.inl rfl)) (pgs_cons (pg_name (i := 7) sc_law_calendar.nd rfl (Or.inr rfl)) (pgs_cons (pg_name (i := 8) sc_law_calendar.nd rfl (Or.inl rfl)) pgs_nil)))))
      (pss_cons (ps_for PassesOwn.never rfl (pi_range1 (by rfl) B.range (pa_cons pe_int pa_nil)) (pg_name (i := 9) sc_law_calendar.nd rfl (Or.inl rfl))
      (pss_one (ps_if (PW.pt (pw_and (pt_cmpR op_ge (pv 8) pe_int (nomark _)) (pw_and1 (pt_cmpR op_gt (pe_ca c_law_take b_law_take hr ps0 (pa_cons (pv 0) (pa_cons pe_int pa_nil))) pe_int (nomark _))))) (pss_cons (ps_set (i := 10) sc_law_calendar.nd rfl (Or.inl rfl) (pe_ca c_law_pattern b_law_pattern hr ps0 (pa_cons (pv 0) (pa_cons (pv 8) pa_nil))))
      (pss_cons (ps_expr (pe_bm PySem.F.plainAttrs_list PySem.F.slot_list_append PySem.F.type_list_append mt_append (pv 7) (pa_cons (pv 10) pa_nil)))
      (pss_one (ps_set (i := 8) sc_law_calendar.nd rfl (Or.inl rfl) (pe_op op_add (pe_op op_add (pe_op op_sub (pv 8) (pe_callB (cr_sumTK K rfl rfl) (by rfl) B.sum (by decide +kernel) (pa_cons (pv 10) pa_nil))) (pe_callB (call_lenK K rfl) (by rfl) B.len (by decide +kernel) (pa_cons (pv 10) pa_nil))) (pe_callB (call_lenK K rfl) (by rfl) B.len (by decide +kernel) (pa_cons (pe_lc (own := [("_law_wait", 11)]) (g := (gName 11)) (by rfl) sc_law_calendar.nd (pi_list (pv 4)) (blkOk_by (N := N_law_calendar) (own := [("_law_wait", 11)]) (sc := defScope s_law_calendar) (by decide +kernel)) (fun _ _ _ _ _ => pg_name (i := 11) sc_law_calendar.nd rfl (Or.inl rfl)) (fun _ _ _ _ _ => (pts_one (pt_cmpR op_eq (pv 11) (pe_callB (call_lenK K rfl) (by rfl) B.len (by decide +kernel) (pa_cons (pv 7) pa_nil)) (nomark _)))) (fun _ _ _ _ _ => (pv 11))) pa_nil)))))))
      pss_nil)))
      (pss_cons (ps_for PassesOwn.never rfl (pi_range1 (by rfl) B.range (pa_cons (pv 2) pa_nil)) (pg_name (i := 5) sc_law_calendar.nd rfl (Or.inl rfl))
      (pss_one (ps_asg (pe_callB (call_min2 rfl) (by rfl) B.min (by decide +kernel) (pa_cons (pe_ix (ix_listK K rfl) (pv 4) (pv 5) (fun _ _ => rfl)) (pa_cons (pe_callB (call_lenK K rfl) (by rfl) B.len (by decide +kernel) (pa_cons (pv 7) pa_nil)) pa_nil))) (pg_sub (pv 6) (pv 5) set_list))))
      (pss_one (ps_ret (pe_tup (pa_cons (pe_callTy call_tuple_D (by rfl) B.tuple (by decide +kernel) (pa_cons (pv 6) pa_nil)) (pa_cons (pe_callTy call_tuple_D (by rfl) B.tuple (by decide +kernel) (pa_cons (pv 7) pa_nil)) pa_nil)))))))))), ?_⟩
  refine ⟨_, rfl, _, rfl, a, p, _, rfl, hs, hm, hpa, by simpa using m1, by simpa using m2, fun v H1 hv st1 => ?_⟩
  obtain ⟨n, hn, rfl⟩ := List.mem_map.mp hv
  obtain ⟨n1, n2⟩ := m3 n hn
  refine ⟨_, rfl, a, 3, rfl, st1.1, by decide, by decide, fun late H2 la0 la1 st2 => ⟨(by show 2 ≤ sizeLine; decide), fun t0 ht0 => ?_⟩⟩
  have st3 : Stay a H (upd H2 t0 (.tup [.int n, .int late])) := (st1.trans st2).same (Same.new ht0)
  have tk3 : TK H (upd H2 t0 (.tup [.int n, .int late])) := TK.stay hs st3
  refine ⟨t0, _, rfl, SqT.of upd_same, rfl, _, _, rfl, _, _, rfl, rfl, ?_⟩
  generalize hH3 : upd H2 t0 (.tup [.int n, .int late]) = H3 at st3 tk3 ⊢
  -- waits
  refine ⟨_, rfl, n, rfl, by omega, by omega, fun W hW => lc_it (walk_range (lo := 0) (n := n.toNat)) (fun i H' => Stay a H3 H' ∧ ∃ ws : List Int, H' W = some (.lst (ws.map V.int)) ∧ ws.length = i ∧ ∀ w ∈ ws, 0 ≤ w ∧ w ≤ 2) ⟨Stay.of_same st3.1 (Same.new hW), [], upd_same, rfl, fun _ h => nomatch h⟩ (fun i H' _ _ => trivial) ?_ ?_⟩
  · rintro i x H4 H5 hi ⟨s4, ws, hw, hl, hb⟩ ⟨rfl, rfl⟩
    have hWa : W ≠ a := st3.1.ne_none hW
    refine ⟨rfl, ?_⟩
    have fin : ∀ (v : Int) (H6 : Hp), 0 ≤ v → v ≤ 2 → Stay a H5 H6 → ∃ acc, H6 W = some (.lst acc) ∧ acc.length < sizeLine ∧ (Stay a H3 (upd H6 W (.lst (acc ++ [.int v]))) ∧ ∃ ws : List Int, (upd H6 W (.lst (acc ++ [.int v]))) W = some (.lst (ws.map V.int)) ∧ ws.length = i + 1 ∧ ∀ w ∈ ws, 0 ≤ w ∧ w ≤ 2) := by
      intro v H6 v0 v2 s6
      refine ⟨_, s6.2 _ _ hWa hw, ?_, (s4.trans s6).mut hW hWa, ws ++ [v], by rw [upd_same, List.map_append]; rfl, by simp [hl], ?_⟩
      · rw [List.length_map, hl]
        exact Nat.lt_of_lt_of_le (show i < 100 by omega) (by decide)
      · intro w hw
        rcases List.mem_append.mp hw with h | h
        · exact hb w h
        · simp at h
          omega
    refine ⟨_, rfl, rfl, _, rfl, ?_⟩
    refine ite2 (fun hc => ?_) (fun hc => ?_)
    · refine ⟨_, rfl, (by show 4 ≤ sizeLine; decide), fun l4 hl4 => ⟨a, l4, _, rfl, s4.1.same (Same.new hl4), upd_same, s4.1.ne_none hl4, by decide, by decide, fun v H6 hv s6 => ?_⟩⟩
      have hv2 : ∃ z : Int, v = .int z ∧ 0 ≤ z ∧ z ≤ 2 := by
        simp at hv
        rcases hv with rfl | rfl | rfl
        · exact ⟨0, rfl, by decide, by decide⟩
        · exact ⟨1, rfl, by decide, by decide⟩
        · exact ⟨2, rfl, by decide, by decide⟩
      obtain ⟨z, rfl, z0, z2⟩ := hv2
      exact fin z H6 z0 z2 ((Stay.of_same s4.1 (Same.new hl4)).trans s6)
    · exact fin 0 H5 (by decide) (by decide) (Stay.refl s4.1)
  · rintro H4 ⟨s4, ws, hw, hl, hb⟩
    have hWa : W ≠ a := st3.1.ne_none hW
    have hlw : ws.length ≤ 12 := by omega
    have hlw1 : 1 ≤ ws.length := by omega
    -- born, days, now
    refine ⟨(by show 1 ≤ sizeLine; decide), fun l1 hl1 => ⟨_, rfl, l1, n, _, rfl, rfl, upd_same, by omega, by omega, ?_, fun Bn hBn => ⟨Nat.zero_le _, fun Dl hDl => ?_⟩⟩⟩
    · have h12 : [V.int 0].length * n.toNat ≤ 12 := by
        simp
        omega
      exact Nat.le_trans h12 (by decide)
    generalize hH5 : upd (upd (upd H4 l1 (.lst [.int 0])) Bn (.lst (List.replicate n.toNat [V.int 0]).flatten)) Dl (.lst []) = H5
    have e0 : (List.replicate n.toNat [V.int 0]).flatten = (List.replicate n.toNat (0 : Int)).map V.int := by
      generalize n.toNat = k
      induction k with
      | zero => rfl
      | succ k ih => simp_all [List.replicate_succ]
    have s45 : Same H4 (upd (upd H4 l1 (.lst [.int 0])) Bn (.lst (List.replicate n.toNat [V.int 0]).flatten)) := (Same.new hl1).trans (Same.new hBn)
    have s5 : Same H4 H5 := by
      rw [← hH5]
      exact s45.trans (Same.new hDl)
    have hBn4 : H4 Bn = none := same_back (Same.new hl1) hBn
    have hDl4 : H4 Dl = none := same_back s45 hDl
    have hBD : Bn ≠ Dl := fun z => by
      rw [← z, upd_same] at hDl
      cases hDl
    have ap : Apart a W Bn Dl := ⟨hWa, s4.1.ne_none hBn4, s4.1.ne_none hDl4, ne_of_none hw hBn4, ne_of_none hw hDl4, hBD⟩
    have c5 : CalSt K a H3 W Bn Dl ws (List.replicate n.toNat 0) [] [] H5 := by
      refine ⟨s4.same s5, TK.stay st3.1 (s4.same s5), hW, s4.none st3.1 hBn4, s4.none st3.1 hDl4, s5 _ _ hw, ?_, ?_, rfl, fun i q ps h => by cases h⟩
      · rw [← hH5, upd_ne hBD, upd_same, e0]
      · rw [← hH5, upd_same]
        rfl
    refine ⟨_, rfl, W, rfl, ⟨_, SqL.of c5.hw⟩, fun D2 hD2 => lc_it (walk_list (xs := ws.map V.int)) (Cw H5 (fun i => decide (V.int (ws.getD i 0) = V.int 0)) (fun i => V.int (ws.getD i 0)) D2) (cw0 hD2) (fun i H' _ p => SqL.of (p.2.1 _ _ c5.hw)) ?_ ?_⟩
    · rintro i x H' H'' hi p ⟨rfl, hx⟩
      obtain ⟨z, hz, rfl⟩ := map_of hx
      have hi' : i < ws.length := by simpa using hi
      refine ⟨rfl, _, rfl, rfl, _, rfl, ?_⟩
      refine ite2 (fun h => ?_) (fun h => ?_)
      · exact ⟨_, rfl, cwY p (Same.refl _) (by omega) (by rw [getD_of hz]; exact h) (by rw [getD_of hz])⟩
      · exact cwN p (Same.refl _) (by rw [getD_of hz]; simpa using h)
    · rintro H6 ⟨r1, r2, r3⟩
      have e := givn_filter ws 0 (fun z => decide (V.int z = V.int 0)) V.int
      rw [List.length_map] at r3
      rw [e] at r3
      refine ⟨D2, _, rfl, .inl (SqL.of r3), (by show 3 ≤ sizeLine; decide), fun t1 ht1 => ⟨t1, _, rfl, SqT.of upd_same, rfl, _, _, rfl, _, _, rfl, _, _, rfl, rfl, ?_⟩⟩
      have c7 := (c5.same r2).same (Same.new (o := .tup [.ref Bn, .ref Dl, .int (((ws.filter fun z => decide (V.int z = V.int 0)).map V.int).length : Nat)]) ht1)
      have hw0 : ∀ z ∈ ws, 0 ≤ z := fun z hz => (hb z hz).1
      refine ⟨11, rfl, by decide, by decide, for_range (lo := 0) (n := 11) (fun i σ H' => ∃ (ds : List (List Int)) (qs : List Addr) (now : Int) (x9 x10 : Option V), σ = [some (.ref a), some (.ref p), some (.int n), some (.int late), some (.ref W), none, some (.ref Bn), some (.ref Dl), some (.int now), x9, x10, none] ∧
        CalSt K a H3 W Bn Dl ws (List.replicate n.toNat 0) ds qs H' ∧ ds.length ≤ i ∧ Pre ws ds ∧ now = aliveAt ws ds ds.length) ⟨[], [], _, none, none, rfl, c7, Nat.zero_le _, ⟨fun p h => (nomatch h), fun i p h => by cases h⟩, by rw [List.length_map]; exact filt0 hw0⟩ ?_ ?_⟩
      · rintro i σ H8 hi ⟨ds, qs, now, x9, x10, rfl, c8, hdl, pre, hnow⟩
        have hnow12 : now ≤ 12 := by
          have := alive_le pre ds.length
          omega
        refine ⟨_, rfl, _, _, rfl, rfl, _, rfl, ?_⟩
        refine ite2 (fun h1 => ?_) (fun h1 => ?_)
        · have h1' : 2 ≤ now := of_decide_eq_true h1
          refine ⟨_, rfl, a, 12, rfl, c8.st.1, by decide, by decide, fun r H9 rr0 rr1 st9 => ⟨_, _, rfl, rfl, _, rfl, ?_⟩⟩
          have c9 := c8.stay ap st9
          refine ite2 (fun h2 => ?_) (fun h2 => ?_)
          · refine ⟨_, rfl, _, rfl, a, now, rfl, c9.st.1, h1', by omega, fun qa ps H10 st10 hps hpb hpn hpsum => ?_⟩
            have c10 := c9.stay ap st10
            have hplen : ps.length ≤ 12 := by
              have := len_le_sum (patB_ge hpb)
              omega
            refine ⟨_, rfl, .inl ⟨rfl, _, SqL.of c10.hd⟩, _, rfl, Dl, _, _, rfl, rfl, c10.hd, ?_, ?_⟩
            · rw [List.length_map, c10.len]
              exact Nat.lt_of_lt_of_le (show ds.length < 100 by omega) (by decide)
            have c11 := c10.push ap hps
            have hps11 : TupI K (upd H10 Dl (.lst (qs.map V.ref ++ [.ref qa]))) qa ps := (hps.tk (TK.lst c10.hd)).sq
            refine ⟨_, rfl, _, rfl, qa, ps, rfl, hps11, _, _, rfl, rfl, _, rfl, qa, _, rfl, .inr hps11, _, _, rfl, rfl, ?_⟩
            generalize hH11 : upd H10 Dl (.lst (qs.map V.ref ++ [.ref qa])) = H11 at c11 hps11
            refine ⟨_, rfl, W, rfl, ⟨_, SqL.of c11.hw⟩, fun D2 hD2 => lc_it (walk_list (xs := ws.map V.int)) (Cw H11 (fun i => decide (V.int (ws.getD i 0) = V.int ((((qs ++ [qa]).map V.ref).length : Nat) : Int))) (fun i => V.int (ws.getD i 0)) D2) (cw0 hD2) (fun i H' _ p => SqL.of (p.2.1 _ _ c11.hw)) ?_ ?_⟩
            · rintro i x H' H'' hi p ⟨rfl, hx⟩
              obtain ⟨z, hz, rfl⟩ := map_of hx
              have hi' : i < ws.length := by simpa using hi
              refine ⟨rfl, _, rfl, _, rfl, Dl, _, rfl, .inl (SqL.of (p.2.1 _ _ c11.hd)), rfl, _, rfl, ?_⟩
              refine ite2 (fun h => ?_) (fun h => ?_)
              · exact ⟨_, rfl, cwY p (Same.refl _) (by omega) (by rw [getD_of hz]; exact h) (by rw [getD_of hz])⟩
              · exact cwN p (Same.refl _) (by rw [getD_of hz]; simpa using h)
            · rintro H12 ⟨y1, y2, y3⟩
              have e2 := givn_filter ws 0 (fun z => decide (V.int z = V.int ((((qs ++ [qa]).map V.ref).length : Nat) : Int))) V.int
              rw [List.length_map] at y3
              rw [e2] at y3
              refine ⟨D2, _, rfl, .inl (SqL.of y3), _, _, rfl, rfl, ds ++ [ps], qs ++ [qa], _, _, _, rfl, c11.same y2, by simp; omega, pre.app hpb hpn (by omega) (by omega), ?_⟩
              have ea := alive_next (ws := ws) (ds := ds) (p := ps)
              have el : (ds ++ [ps]).length = ds.length + 1 := by simp
              have el2 : ((qs ++ [qa]).map V.ref).length = ds.length + 1 := by simp [c10.len]
              rw [el, ea, List.length_map, List.length_map, count_filt, el2, hnow]
          · exact ⟨ds, qs, now, _, _, rfl, c9, by omega, pre, hnow⟩
        · exact iteF ⟨ds, qs, now, _, _, rfl, c8, by omega, pre, hnow⟩
      · rintro σ H8 ⟨ds, qs, now, x9, x10, rfl, c8, hdl, pre, hnow⟩
        refine ⟨_, rfl, n, rfl, by omega, by omega, for_range (lo := 0) (n := n.toNat) (fun i σ H' => ∃ (x5 : Option V) (nb : List Int), σ = [some (.ref a), some (.ref p), some (.int n), some (.int late), some (.ref W), x5, some (.ref Bn), some (.ref Dl), some (.int now), x9, x10, none] ∧
          CalSt K a H3 W Bn Dl ws nb ds qs H' ∧ nb.length = n.toNat ∧ ∀ j, j < i → nb[j]? = (ws.map (capB (ds.length : Int)))[j]?) ⟨none, _, rfl, c8, by simp, fun j hj => by omega⟩ ?_ ?_⟩
        · rintro i σ H9 hi ⟨x5, nb, rfl, c9, hnb, hj⟩
          have hiw : i < ws.length := by omega
          have e0i : (0 : Int) + (i : Nat) = ((i : Nat) : Int) := by omega
          refine ⟨_, rfl, _, rfl, W, _, _, .int ws[i], rfl, rfl, SqL.of c9.hw, at_of e0i (by simp [hiw]), _, rfl, Dl, _, rfl, .inl (SqL.of c9.hd), _, _, rfl, ?_⟩
          refine ⟨_, rfl, _, rfl, Bn, _, _, i, rfl, rfl, c9.hb, ?_, ?_⟩
          · rw [e0i]
            exact Evl.ixN_nat (by rw [List.length_map]; omega)
          · have ev : (if (((qs.map V.ref).length : Nat) : Int) < ws[i] then (((qs.map V.ref).length : Nat) : Int) else ws[i]) = capB (ds.length : Int) ws[i] := by
              rw [List.length_map, c9.len]
              rfl
            have c10 := c9.setB ap (nb.set i (capB (ds.length : Int) ws[i]))
            refine ⟨_, nb.set i (capB (ds.length : Int) ws[i]), rfl, ?_, by simpa using hnb, fun j hj2 => ?_⟩
            · rw [List.map_set] at c10
              rw [ev]
              exact c10
            · by_cases hji : j = i
              · subst hji
                rw [List.getElem?_set_self (by omega)]
                simp [hiw]
              · rw [List.getElem?_set_ne (Ne.symm hji)]
                exact hj j (by omega)
        · rintro σ H9 ⟨x5, nb, rfl, c9, hnb, hj⟩
          have enb : nb = ws.map (capB (ds.length : Int)) := by
            apply List.ext_getElem?
            intro j
            by_cases hjn : j < n.toNat
            · exact hj j hjn
            · rw [List.getElem?_eq_none (by omega), List.getElem?_eq_none (by simp; omega)]
          refine ⟨_, rfl, Bn, _, rfl, SqL.of c9.hb, fun b G1 g1 hbD => ?_⟩
          refine ⟨_, rfl, Dl, _, rfl, SqL.of (g1 _ _ c9.hd), fun d G2 g2 hdD => ⟨(by show 2 ≤ sizeLine; decide), fun t ht => ?_⟩⟩
          have g3 : Same G2 (upd G2 t (.tup [.ref b, .ref d])) := Same.new ht
          have g := (g1.trans g2).trans g3
          refine q t b d nb ds _ (st3.trans (c9.st.same g)) (tk3.trans (c9.tk.trans (TK.same g))) upd_same ((hbD.same g2).same g3) ⟨qs, hdD.same g3, c9.len, fun i qq pp h1 h2 => (c9.tup i qq pp h1 h2).same g⟩ ?_
          rw [enb]
          exact pre.cal hw0 hlw1 hlw (by omega)
end
end DK
set_option Elab.async false
set_option linter.all false
set_option maxRecDepth 100000
set_option maxHeartbeats 4000000
namespace DK
open PySem PySem.Spec PyProof.Rows L2 RZ DL
abbrev s_is_plain : Stmt := topS 29
abbrev N_is_plain : List Str := ["calendar", "early", "moment", "pattern"]
theorem sc_is_plain : FnScope N_is_plain ["calendar"] (defScope s_is_plain) := ⟨rfl, rfl, rfl, by decide +kernel, rfl, by decide +kernel, by decide +kernel⟩
theorem b_is_plain : BindOk "is_plain" s_is_plain ["calendar"] := fun _ _ _ _ _ _ us hl => match us, hl with | [_], _ => rfl

abbrev s_is_level : Stmt := topS 30
abbrev N_is_level : List Str := ["calendar", "sizes", "d", "pattern", "s"]
theorem sc_is_level : FnScope N_is_level ["calendar"] (defScope s_is_level) := ⟨rfl, rfl, rfl, by decide +kernel, rfl, by decide +kernel, by decide +kernel⟩
theorem b_is_level : BindOk "is_level" s_is_level ["calendar"] := fun _ _ _ _ _ _ us hl => match us, hl with | [_], _ => rfl

section
variable {P : Program} {w : World} {K : PySem.W.Frag} {mg : Str → Option Value} {base : Heap} {C f0 fC CM fR : Addr}
/-- a calendar, and what is said of it -/
def CalP (K : PySem.W.Frag) (C : Addr) (H : Hp) (c : Addr) (bs : List Int) (ds : List (List Int)) : Prop := CalAt K C H c bs ds ∧ CalOk bs ds
def spLook (K : PySem.W.Frag) (C : Addr) (g : List Int → List (List Int) → Bool) : Sp := fun vs H Q _ => ∃ (c : Addr) (bs : List Int) (ds : List (List Int)), vs = [.ref c] ∧ CalAt K C H c bs ds ∧ CalOk bs ds ∧ ∀ H', Same H H' → Q (.bl (g bs ds)) H'
theorem daysOk {bs : List Int} {ds : List (List Int)} (ok : CalOk bs ds) : DaysOk ds := fun p hp => ⟨(ok.pat p hp).1, (ok.pat p hp).2.2⟩
theorem ca_is_plain (B : Bl mg) (T : ClC K mg C fC) (c_ends : Ca P w K mg base 6 "ends" s_ends ["calendar"] (spEnds K C)) (U : Up K mg "is_plain" s_is_plain) : Ca P w K mg base 7 "is_plain" s_is_plain ["calendar"] (spLook K C plainB) := by
  refine ca0 U sc_is_plain (fun vs H Q E h => by obtain ⟨c, bs, ds, rfl, _⟩ := h; rfl) fun f cdv A outer s H vs Q E hr h => ?_
  obtain ⟨c, bs, ds, rfl, hcal, ok, q⟩ := h
  have hu64 := hr.units
  refine ⟨_, (pss_cons (ps_set (i := 1) sc_is_plain.nd rfl (Or.inl rfl) (pe_callB (cr_allK K rfl rfl) (by rfl) B.all (by decide +kernel) (pa_cons (pe_lc (own := [("moment", 2)]) (g := (gName 2)) (by rfl) sc_is_plain.nd (pi_tup (pe_fld (pv 0) rfl)) (blkOk_by (N := N_is_plain) (own := [("moment", 2)]) (sc := defScope s_is_plain) (by decide +kernel)) (fun _ _ _ _ _ => pg_name (i := 2) sc_is_plain.nd rfl (Or.inl rfl)) (fun _ _ _ _ _ => pts_nil) (fun _ _ _ _ _ => (pe_cmpR op_eq (pv 2) pe_int (nomark _)))) pa_nil)))
      (pss_one (ps_ret (pe_and (pv 1) (pe_and (pe_callB (cr_allK K rfl rfl) (by rfl) B.all (by decide +kernel) (pa_cons (pe_lc (own := [("pattern", 3)]) (g := (gName 3)) (by rfl) sc_is_plain.nd (pi_tup (pe_fld (pv 0) rfl)) (blkOk_by (N := N_is_plain) (own := [("pattern", 3)]) (sc := defScope s_is_plain) (by decide +kernel)) (fun _ _ _ _ _ => pg_name (i := 3) sc_is_plain.nd rfl (Or.inl rfl)) (fun _ _ _ _ _ => pts_nil) (fun _ _ _ _ _ => (pe_cmpR (op_eqDK K rfl hu64) (pv 3) (pe_tupD (pa_cons pe_int pa_nil)) (nomark _)))) pa_nil)) (pe_one (pe_cmpR op_eq (pe_ca c_ends b_ends hr ps0 (pa_cons (pv 0) pa_nil)) pe_int (nomark _)))))))), ?_⟩
  have hcal' := hcal
  obtain ⟨dx, b, dd, fs, h1, h2, h3, h4, qs, h5, h6, h7⟩ := hcal.op
  have n12 := ok.n12
  have m11 := ok.m11
  refine ⟨_, rfl, c, C, dx, fs, _, rfl, h1, T.cl, T.nB, h2, b, rfl, ⟨_, h4⟩, fun D hD => lc_it (walk_tup (xs := bs.map V.int)) (Cw H (fun _ => true) (fun i => V.bl (decide (bs.getD i 0 = 0))) D) (cw0 hD) (fun i H' _ p => Same.seqT p.2.1 h4) ?_ ?_⟩
  · rintro i x H' H'' hi p ⟨rfl, hx⟩
    obtain ⟨z, hz, rfl⟩ := map_of hx
    have hi' : i < bs.length := by simpa using hi
    exact ⟨rfl, _, rfl, rfl, cwY p (Same.refl _) (by omega) rfl (by rw [getD_of hz]; simp)⟩
  · rintro H1 ⟨p1, p2, p3⟩
    have e := givn_all bs 0 (fun x => V.bl (decide (x = 0)))
    rw [List.length_map] at p3
    rw [e] at p3
    refine ⟨D, (bs.map fun s => decide (s = 0)), rfl, SqL.of (by rw [List.map_map]; exact p3), _, rfl, _, rfl, ?_⟩
    refine ite2 (fun g1 => ?_) (fun g1 => ?_)
    · refine ⟨_, rfl, c, C, dx, fs, _, rfl, p2 _ _ h1, T.cl, T.nD, h3, dd, rfl, ⟨_, Same.seqT p2 h5⟩, fun D2 hD2 => lc_it (walk_tup (xs := qs.map V.ref)) (Cw H1 (fun _ => true) (fun i => V.bl (decide (ds.getD i [] = [2]))) D2) (cw0 hD2) (fun i H' _ p => Same.seqT (p2.trans p.2.1) h5) ?_ ?_⟩
      · rintro i x H' H'' hi p ⟨rfl, hx⟩
        obtain ⟨z, hz, rfl⟩ := map_of hx
        have hi' : i < ds.length := by
          have := (List.getElem?_eq_some_iff.mp hz).1
          omega
        have hds : ds[i]? = some ds[i] := by simp
        refine ⟨rfl, _, rfl, (by show 1 ≤ sizeLine; decide), fun p0 H2 s2 hp0 => ?_⟩
        refine ⟨_, _, dp_tup ((h7 i z _ hz hds).same ((p2.trans p.2.1).trans s2)), dp_tup (ns := [2]) hp0.sq, shaped_tup _, shaped_tup [2], ?_⟩
        exact cwY p s2 (by omega) rfl (by rw [getD_of hds, eqv_tup])
      · rintro H2 ⟨r1, r2, r3⟩
        have e2 := givn_all ds [] (fun x => V.bl (decide (x = [2])))
        rw [List.length_map, h6, e2] at r3
        refine ⟨D2, (ds.map fun s => decide (s = [2])), rfl, SqL.of (by rw [List.map_map]; exact r3), _, rfl, ?_⟩
        refine ite2 (fun g2 => ?_) (fun g2 => ?_)
        · refine ⟨_, rfl, c, bs, ds, rfl, hcal'.same (p2.trans r2), daysOk ok, by omega, by omega, fun H3 s3 => ⟨rfl, ?_⟩⟩
          have e3 : plainB bs ds = decide (V.int (aliveAt bs ds ds.length) = V.int 1) := by
            unfold plainB
            rw [g1, g2, ← plain_end g1 g2]
            simp
          rw [e3] at q
          exact q _ ((p2.trans r2).trans s3)
        · have e3 : plainB bs ds = false := by
            unfold plainB
            rw [show (ds.map fun p => decide (p = [2])).all id = false by simpa using g2]
            simp
          rw [e3] at q
          exact q _ (p2.trans r2)
    · have e3 : plainB bs ds = false := by
        unfold plainB
        rw [show (bs.map fun p => decide (p = 0)).all id = false by simpa using g1]
        rfl
      rw [e3] at q
      exact q _ p2
theorem ca_is_level (B : Bl mg) (T : ClC K mg C fC) (c_met : Ca P w K mg base 4 "met" s_met ["pattern"] (spMet K List.sum)) (c_alive : Ca P w K mg base 5 "alive" s_alive ["calendar", "d"] (spAlive K C CM (fun ds => (ds.length : Int)) aliveAt))
    (c_ends : Ca P w K mg base 6 "ends" s_ends ["calendar"] (spEnds K C)) (U : Up K mg "is_level" s_is_level) : Ca P w K mg base 7 "is_level" s_is_level ["calendar"] (spLook K C levelB) := by
  refine ca0 U sc_is_level (fun vs H Q E h => by obtain ⟨c, bs, ds, rfl, _⟩ := h; rfl) fun f cdv A outer s H vs Q E hr h => ?_
  obtain ⟨c, bs, ds, rfl, hcal, ok, q⟩ := h
  refine ⟨_, (pss_cons (ps_set (i := 1) sc_is_level.nd rfl (Or.inr rfl) (pe_lst pa_nil))
      (pss_cons (ps_for PassesOwn.never rfl (pi_enumT (by rfl) B.enumerate (pa_cons (pe_fld (pv 0) rfl) pa_nil)) (pg_tup rfl (pgs_cons (pg_name (i := 2) sc_is_level.nd rfl (Or.inl rfl)) (pgs_cons (pg_name (i := 3) sc_is_level.nd rfl (Or.inl rfl)) pgs_nil)))
      (pss_cons (ps_if (pt_cmpR op_ne (pe_ca c_met b_met hr ps0 (pa_cons (pv 3) pa_nil)) (pe_ca c_alive b_alive hr ps0 (pa_cons (pv 0) (pa_cons (pv 2) pa_nil))) (nomark _)) (pss_one (ps_ret pe_bl))
      pss_nil)
      (pss_one (ps_expr (pe_bm PySem.F.plainAttrs_list PySem.F.slot_list_extend PySem.F.type_list_extend mt_extendT (pv 1) (pa_cons (pv 3) pa_nil))))))
      (pss_one (ps_ret (pe_and (pe_callB (cr_allK K rfl rfl) (by rfl) B.all (by decide +kernel) (pa_cons (pe_lc (own := [("s", 4)]) (g := (gName 4)) (by rfl) sc_is_level.nd (pi_list (pv 1)) (blkOk_by (N := N_is_level) (own := [("s", 4)]) (sc := defScope s_is_level) (by decide +kernel)) (fun _ _ _ _ _ => pg_name (i := 4) sc_is_level.nd rfl (Or.inl rfl)) (fun _ _ _ _ _ => pts_nil) (fun _ _ _ _ _ => (pe_cmpR op_eq (pv 4) (pe_ix (ix_listK K rfl) (pv 1) pe_int (fun _ _ => rfl)) (nomark _)))) pa_nil)) (pe_one (pe_cmpR op_eq (pe_ca c_ends b_ends hr ps0 (pa_cons (pv 0) pa_nil)) pe_int (nomark _)))))))), ?_⟩
  have hcal' := hcal
  obtain ⟨dx, b, dd, fs, h1, h2, h3, h4, qs, h5, h6, h7⟩ := hcal
  have n12 := ok.n12
  have m11 := ok.m11
  refine ⟨Nat.zero_le _, fun S hS => ?_⟩
  have s1 := Same.new (o := .lst []) hS
  refine ⟨_, rfl, c, C, dx, fs, _, rfl, s1 _ _ h1, T.cl, T.nD, h3, dd, _, rfl, (h5.same s1).sq, for_it (walk_enumT (xs := qs.map V.ref)) (fun i σ H' => ∃ x y, σ = [some (.ref c), some (.ref S), x, y, none] ∧ Same H H' ∧ H' S = some (.lst ((sizesL (ds.take i)).map V.int)) ∧ ∀ j p, j < i → ds[j]? = some p → p.sum = aliveAt bs ds j) ⟨none, none, rfl, s1, upd_same, fun j p h => by omega⟩ (fun i σ H' _ p => by obtain ⟨x, y, _, s2, _⟩ := p; exact (h5.same s2).sq) ?_ ?_⟩
  · rintro i x σ H1 H2 hi ⟨x', y', rfl, s2, hL, hfull⟩ ⟨T0, u, v, rfl, hT, rfl, hu, hv⟩
    cases hu
    obtain ⟨z, hz, rfl⟩ := map_of hv
    have hi' : i < ds.length := by
      have := (List.getElem?_eq_some_iff.mp hz).1
      omega
    have hds : ds[i]? = some ds[i] := by simp
    have hp := ok.pat ds[i] (List.getElem_mem _)
    have s2' : Same H1 (upd H1 T0 (.tup [.int (i : Nat), .ref z])) := Same.new hT
    have s3 : Same H (upd H1 T0 (.tup [.int (i : Nat), .ref z])) := s2.trans s2'
    refine ⟨T0, _, rfl, SqT.of upd_same, rfl, _, _, rfl, _, _, rfl, rfl, ?_⟩
    refine ⟨_, rfl, z, ds[i], rfl, ((h7 i z _ hz hds).same s3).sq, hp.2.2, hp.1, fun H3 s4 => ⟨_, rfl, _, rfl, c, bs, ds, _, rfl, hcal'.same (s3.trans s4), daysOk ok, by omega, by omega, fun _ H4 s5 => ⟨rfl, _, rfl, ?_⟩, fun hn => absurd (show (0 : Int) ≤ (i : Nat) ∧ ((i : Nat) : Int) ≤ (ds.length : Int) by omega) hn⟩⟩
    have s6 := (s3.trans s4).trans s5
    have hL4 : H4 S = some (.lst ((sizesL (ds.take i)).map V.int)) := s5 _ _ (s4 _ _ (s2' _ _ hL))
    refine ite2 (fun hc => ?_) (fun hc => ?_)
    · have hne : ds[i].sum ≠ aliveAt bs ds i := by
        intro e
        rw [e] at hc
        simp at hc
      have e3 : levelB bs ds = false := by
        unfold levelB
        rw [full_not hds hne]
        rfl
      rw [e3] at q
      exact q _ s6
    · have heq : ds[i].sum = aliveAt bs ds i := by
        simp at hc
        exact hc
      have hln := sizes_len (ds := ds.take i) fun p hp => (ok.pat p (List.mem_of_mem_take hp)).2.2
      have hlt : (ds.take i).length = i := by simp; omega
      refine ⟨_, rfl, .inl ⟨rfl, _, SqL.of hL4⟩, _, rfl, S, z, _, _, rfl, rfl, hL4, (h7 i z _ hz hds).same s6, ?_, _, _, rfl, Same.mut s6 hS, ?_, ?_⟩
      · rw [List.length_map, List.length_map]
        exact Nat.le_trans (show _ ≤ 12000 by omega) (by decide)
      · rw [upd_same, sizes_next hds, List.map_append]
      · intro j p hj hjp
        by_cases e : j = i
        · subst e
          rw [hds] at hjp
          cases hjp
          exact heq
        · exact hfull j p (by omega) hjp
  · rintro σ H1 ⟨x', y', rfl, s2, hL, hfull⟩
    have hlq : (qs.map V.ref).length = ds.length := by simp [h6]
    rw [hlq, List.take_length] at hL
    have hfu : fullB bs ds = true := full_of fun i p hp => hfull i p (by
      have := (List.getElem?_eq_some_iff.mp hp).1
      omega) hp
    have hln := sizes_len (ds := ds) fun p hp => (ok.pat p hp).2.2
    refine ⟨_, rfl, S, rfl, ⟨_, SqL.of hL⟩, fun D2 hD2 => lc_it (walk_list (xs := (sizesL ds).map V.int)) (Cw H1 (fun _ => true) (fun i => V.bl (decide ((sizesL ds).getD i 0 = (sizesL ds).headD 0))) D2) (cw0 hD2) (fun i H' _ p => SqL.of (p.2.1 _ _ hL)) ?_ ?_⟩
    · rintro i x H' H'' hi p ⟨rfl, hx⟩
      obtain ⟨z, hz, rfl⟩ := map_of hx
      have hi' : i < (sizesL ds).length := by simpa using hi
      have hat : atI ((sizesL ds).map V.int) 0 = some (.int ((sizesL ds).headD 0)) := by
        cases e : sizesL ds with
        | nil =>
          rw [e] at hi'
          simp at hi'
        | cons a r => exact at0
      exact ⟨rfl, _, rfl, _, rfl, S, _, _, _, rfl, rfl, SqL.of (p.2.1 _ _ hL), hat, rfl, cwY p (Same.refl _) (by omega) rfl (by rw [getD_of hz]; simp)⟩
    · rintro H2 ⟨r1, r2, r3⟩
      have e2 := givn_all (sizesL ds) 0 (fun x => V.bl (decide (x = (sizesL ds).headD 0)))
      rw [List.length_map, e2] at r3
      refine ⟨D2, ((sizesL ds).map fun s => decide (s = (sizesL ds).headD 0)), rfl, SqL.of (by rw [List.map_map]; exact r3), _, rfl, ?_⟩
      refine ite2 (fun g2 => ?_) (fun g2 => ?_)
      · refine ⟨_, rfl, c, bs, ds, rfl, hcal'.same (s2.trans r2), daysOk ok, by omega, by omega, fun H3 s3 => ⟨rfl, ?_⟩⟩
        have e3 : levelB bs ds = decide (V.int (aliveAt bs ds ds.length) = V.int 1) := by
          unfold levelB alikeB
          rw [hfu, g2]
          simp
        rw [e3] at q
        exact q _ ((s2.trans r2).trans s3)
      · have e3 : levelB bs ds = false := by
          unfold levelB alikeB
          rw [show ((sizesL ds).map fun s => decide (s = (sizesL ds).headD 0)).all id = false by simpa using g2]
          simp
        rw [e3] at q
        exact q _ (s2.trans r2)
end
end DK
set_option Elab.async false
set_option linter.all false
set_option maxRecDepth 100000
set_option maxHeartbeats 4000000
namespace DK
open PySem PySem.Spec PyProof.Rows L2 RZ DL
abbrev s_ask_leaves_many : Stmt := topS 12
abbrev N_ask_leaves_many : List Str := ["n"]
theorem sc_ask_leaves_many : FnScope N_ask_leaves_many ["n"] (defScope s_ask_leaves_many) := ⟨rfl, rfl, rfl, by decide +kernel, rfl, by decide +kernel, by decide +kernel⟩
theorem b_ask_leaves_many : BindOk "ask_leaves_many" s_ask_leaves_many ["n"] := fun _ _ _ _ _ _ us hl => match us, hl with | [_], _ => rfl

abbrev s_plain : Stmt := topS 31
abbrev N_plain : List Str := ["n"]
theorem sc_plain : FnScope N_plain ["n"] (defScope s_plain) := ⟨rfl, rfl, rfl, by decide +kernel, rfl, by decide +kernel, by decide +kernel⟩
theorem b_plain : BindOk "plain" s_plain ["n"] := fun _ _ _ _ _ _ us hl => match us, hl with | [_], _ => rfl

abbrev s_star : Stmt := topS 32
abbrev N_star : List Str := ["n"]
theorem sc_star : FnScope N_star ["n"] (defScope s_star) := ⟨rfl, rfl, rfl, by decide +kernel, rfl, by decide +kernel, by decide +kernel⟩
theorem b_star : BindOk "star" s_star ["n"] := fun _ _ _ _ _ _ us hl => match us, hl with | [_], _ => rfl

section
variable {P : Program} {w : World} {K : PySem.W.Frag} {mg : Str → Option Value} {base : Heap} {C f0 fC CM fR CS : Addr}
def spTold (K : PySem.W.Frag) (C CS : Addr) (lo : Int) (g : Int → List (List Int)) : Sp := fun vs H Q E => ∃ n : Int, vs = [.int n] ∧ (lo ≤ n ∧ n ≤ 12 → ∀ c H', H c = none → Same H H' → CalAt K C H' c (zerosL n) (g n) → Q (.ref c) H') ∧ (¬ (lo ≤ n ∧ n ≤ 12) → RaisesW CS (.int n) H E)
theorem rep0 (k : Nat) : (List.replicate k [V.int 0]).flatten = (List.replicate k (0 : Int)).map V.int := by
  induction k with
  | zero => rfl
  | succ k ih => simp_all [List.replicate_succ]
theorem repA (k : Nat) (x : V) : (List.replicate k [x]).flatten = List.replicate k x := by
  induction k with
  | zero => rfl
  | succ k ih => simp_all [List.replicate_succ]
def spAskN (CS : Addr) : Sp := fun vs H Q E => ∃ n : Int, vs = [.int n] ∧ (1 ≤ n ∧ n ≤ 12 → Q .non H) ∧ (¬ (1 ≤ n ∧ n ≤ 12) → RaisesW CS (.int n) H E)
theorem ca_ask_leaves_many (Kc : Kn mg) (T_BadSize : Er K mg "BadSize" CS fR) (F_Refused : ErI P w K mg base fR) (c_is_from_to : Ca P w K mg base 2 "is_from_to" s_is_from_to ["thing", "low", "high"] spFromTo) (U : Up K mg "ask_leaves_many" s_ask_leaves_many) :
    Ca P w K mg base 3 "ask_leaves_many" s_ask_leaves_many ["n"] (spAskN CS) := by
  refine caX U sc_ask_leaves_many (fun vs H Q E h => by obtain ⟨n, rfl, _⟩ := h; rfl) fun f cdv A outer s H vs Q E hr h => ?_
  obtain ⟨n, rfl, q1, q2⟩ := h
  refine ⟨_, (pss_one (ps_if (pt_not (pt_val (pe_ca c_is_from_to b_is_from_to hr ps0 (pa_cons (pv 0) (pa_cons pe_int (pa_cons (pe_gI Kc.MOST_LEAVES) pa_nil)))))) (pss_one (ps_raiseW T_BadSize F_Refused rfl hr (takes_of rfl rfl rfl rfl) (pv 0)))
      pss_nil)), ?_⟩
  refine ⟨_, rfl, n, 1, 12, rfl, _, rfl, ?_⟩
  refine ite2 (fun hc => ?_) (fun hc => ?_)
  · exact ⟨_, rfl, q2 fun h => by simp at hc; omega⟩
  · exact q1 (by
      simp at hc
      omega)
theorem ca_plain (T : ClC K mg C fC) {fd : FuncData} (G_Calendar : FnOk P w K mg base (L2.CX P w) 1 fC fd ["self", "born", "days"] (spInitC C)) (Bi_Calendar : Binds K fd ["self", "born", "days"] [])
    (c_ask_leaves_many : Ca P w K mg base 3 "ask_leaves_many" s_ask_leaves_many ["n"] (spAskN CS)) (U : Up K mg "plain" s_plain) :
    Ca P w K mg base 4 "plain" s_plain ["n"] (spTold K C CS 1 twosL) := by
  refine caX U sc_plain (fun vs H Q E h => by obtain ⟨n, rfl, _⟩ := h; rfl) fun f cdv A outer s H vs Q E hr h => ?_
  obtain ⟨n, rfl, q1, q2⟩ := h
  refine ⟨_, (pss_cons (ps_expr (pe_ca c_ask_leaves_many b_ask_leaves_many hr (passAt (takes_of rfl rfl rfl rfl)) (pa_cons (pv 0) pa_nil)))
      (pss_one (ps_ret (pe_make T.mkC G_Calendar (hr.mono (by decide)) (by rfl) T.mgC Bi_Calendar .nil passL (pa_cons (pe_op op_repD (pe_tupD (pa_cons pe_int pa_nil)) (pv 0)) (pa_cons (pe_op op_repD (pe_tupD (pa_cons (pe_tupD (pa_cons pe_int pa_nil)) pa_nil)) (pe_op op_sub (pv 0) pe_int)) pa_nil)))))), ?_⟩
  refine ⟨_, rfl, n, rfl, fun hn => ?_, fun h => q2 h⟩
  · skip
    refine ⟨by decide, fun a1 H1 s1 d1 => ⟨_, rfl, a1, n, _, rfl, rfl, d1, by omega, by omega, by decide, fun b H2 s2 db => ?_⟩⟩
    refine ⟨by decide, fun a2 H3 s3 d2 => ⟨(by show 1 ≤ sizeLine; decide), fun a3 H4 s4 d3 => ⟨_, rfl, _, _, rfl, rfl, a3, n - 1, _, rfl, rfl, d3, by omega, by omega, (by show 1 ≤ 1000; decide), fun dd H5 s5 hdd => ?_⟩⟩⟩
    refine fun x dx hx hdx hne => ⟨x, dx, .ref b, .ref dd, rfl, upd_same, rfl, ?_⟩
    have s := (((s1.trans s2).trans s3).trans s4).trans s5
    have s6 : Same H5 (upd (upd (upd H5 dx (.own x)) x (.ins C dx [])) x (.ins C dx (calF (.ref b) (.ref dd)))) := Same.mut (Same.mut (Same.mut (Same.refl _) hdx) hx) hx
    rw [rep0] at db
    rw [repA] at hdd
    refine q1 hn x _ (same_back s hx) (s.trans s6) ⟨dx, b, dd, _, upd_same, calF_born _ _, calF_days _ _, db.same ((s3.trans s4).trans (s5.trans s6)), List.replicate (n - 1).toNat a2, ?_, by simp [twosL], fun i q ns h1 h2 => ?_⟩
    · rw [List.map_replicate]
      exact hdd.same s6
    · have e1 : q = a2 := by
        rw [List.getElem?_replicate] at h1
        split at h1 <;> simp_all
      have e2 : ns = [2] := by
        unfold twosL at h2
        rw [List.getElem?_replicate] at h2
        split at h2 <;> simp_all
      rw [e1, e2]
      exact d2.same ((s4.trans s5).trans s6)
theorem ca_star (Kc : Kn mg) (T : ClC K mg C fC) {fd : FuncData} (G_Calendar : FnOk P w K mg base (L2.CX P w) 1 fC fd ["self", "born", "days"] (spInitC C)) (Bi_Calendar : Binds K fd ["self", "born", "days"] [])
    (T_BadSize : Er K mg "BadSize" CS fR) (F_Refused : ErI P w K mg base fR) (c_is_from_to : Ca P w K mg base 2 "is_from_to" s_is_from_to ["thing", "low", "high"] spFromTo) (U : Up K mg "star" s_star) :
    Ca P w K mg base 3 "star" s_star ["n"] (spTold K C CS 2 oneDay) := by
  refine caX U sc_star (fun vs H Q E h => by obtain ⟨n, rfl, _⟩ := h; rfl) fun f cdv A outer s H vs Q E hr h => ?_
  obtain ⟨n, rfl, q1, q2⟩ := h
  refine ⟨_, (pss_cons (ps_if (pt_not (pt_val (pe_ca c_is_from_to b_is_from_to hr ps0 (pa_cons (pv 0) (pa_cons pe_int (pa_cons (pe_gI Kc.MOST_LEAVES) pa_nil)))))) (pss_one (ps_raiseW T_BadSize F_Refused rfl hr (takes_of rfl rfl rfl rfl) (pv 0)))
      pss_nil)
      (pss_one (ps_ret (pe_make T.mkC G_Calendar (hr.mono (by decide)) (by rfl) T.mgC Bi_Calendar .nil passL (pa_cons (pe_op op_repD (pe_tupD (pa_cons pe_int pa_nil)) (pv 0)) (pa_cons (pe_tupD (pa_cons (pe_tupD (pa_cons (pv 0) pa_nil)) pa_nil)) pa_nil)))))), ?_⟩
  refine ⟨_, rfl, n, 2, 12, rfl, _, rfl, ?_⟩
  refine ite2 (fun hc => ?_) (fun hc => ?_)
  · exact ⟨_, rfl, q2 fun h => by simp at hc; omega⟩
  · have hn : 2 ≤ n ∧ n ≤ 12 := by
      simp at hc
      omega
    refine ⟨by decide, fun a1 H1 s1 d1 => ⟨_, rfl, a1, n, _, rfl, rfl, d1, by omega, by omega, by decide, fun b H2 s2 db => ?_⟩⟩
    refine ⟨_, rfl, (by show 1 ≤ sizeLine; decide), fun a2 H3 s3 d2 => ⟨(by show 1 ≤ sizeLine; decide), fun dd H4 s4 hdd => ?_⟩⟩
    refine fun x dx hx hdx hne => ⟨x, dx, .ref b, .ref dd, rfl, upd_same, rfl, ?_⟩
    have s := ((s1.trans s2).trans s3).trans s4
    have s6 : Same H4 (upd (upd (upd H4 dx (.own x)) x (.ins C dx [])) x (.ins C dx (calF (.ref b) (.ref dd)))) := Same.mut (Same.mut (Same.mut (Same.refl _) hdx) hx) hx
    rw [rep0] at db
    refine q1 hn x _ (same_back s hx) (s.trans s6) ⟨dx, b, dd, _, upd_same, calF_born _ _, calF_days _ _, db.same (s3.trans (s4.trans s6)), [a2], hdd.same s6, rfl, fun i q ns h1 h2 => ?_⟩
    cases i with
    | zero =>
      cases h1
      cases h2
      exact d2.same (s4.trans s6)
    | succ i => cases h1
end
end DK
set_option Elab.async false
set_option linter.all false
set_option maxRecDepth 100000
set_option maxHeartbeats 4000000
namespace DK
open PySem PySem.Spec PyProof.Rows L2 RZ DL
abbrev s_law_counts : Stmt := topS 37
abbrev N_law_counts : List Str := ["_law_born", "_law_days", "_law_found", "_law_now", "_law_d", "_law_day"]
theorem sc_law_counts : FnScope N_law_counts ["_law_born", "_law_days"] (defScope s_law_counts) := ⟨rfl, rfl, rfl, by decide +kernel, rfl, by decide +kernel, by decide +kernel⟩
theorem b_law_counts : BindOk "_law_counts" s_law_counts ["_law_born", "_law_days"] := fun _ _ _ _ _ _ us hl => match us, hl with | [_, _], _ => rfl

abbrev s_law_is_plain : Stmt := topS 40
abbrev N_law_is_plain : List Str := ["_law_born", "_law_days", "_law_birth", "_law_day"]
theorem sc_law_is_plain : FnScope N_law_is_plain ["_law_born", "_law_days"] (defScope s_law_is_plain) := ⟨rfl, rfl, rfl, by decide +kernel, rfl, by decide +kernel, by decide +kernel⟩
theorem b_law_is_plain : BindOk "_law_is_plain" s_law_is_plain ["_law_born", "_law_days"] := fun _ _ _ _ _ _ us hl => match us, hl with | [_, _], _ => rfl

abbrev s_law_is_level : Stmt := topS 41
abbrev N_law_is_level : List Str := ["_law_born", "_law_days", "_law_counts_here", "_law_sizes", "_law_d", "_law_day", "_law_size"]
theorem sc_law_is_level : FnScope N_law_is_level ["_law_born", "_law_days"] (defScope s_law_is_level) := ⟨rfl, rfl, rfl, by decide +kernel, rfl, by decide +kernel, by decide +kernel⟩
theorem b_law_is_level : BindOk "_law_is_level" s_law_is_level ["_law_born", "_law_days"] := fun _ _ _ _ _ _ us hl => match us, hl with | [_, _], _ => rfl

section
variable {P : Program} {w : World} {K : PySem.W.Frag} {mg : Str → Option Value} {base : Heap} {C f0 fC CM fR CS : Addr}
def spCounts (K : PySem.W.Frag) : Sp := fun vs H Q _ => ∃ (b dd : Addr) (bs : List Int) (ds : List (List Int)), vs = [.ref b, .ref dd] ∧ TupI K H b bs ∧ TupTI K H dd ds ∧ bs.length ≤ 1000 ∧ ds.length ≤ 1000 ∧ (∀ x ∈ bs, 0 ≤ x) ∧
  ∀ p H', H p = none → Same H H' → H' p = some (.lst ((countsL bs ds).map V.int)) → Q (.ref p) H'
theorem ca_counts (B : Bl mg) (U : Up K mg "_law_counts" s_law_counts) : Ca P w K mg base 1 "_law_counts" s_law_counts ["_law_born", "_law_days"] (spCounts K) := by
  refine ca0 U sc_law_counts (fun vs H Q E h => by obtain ⟨b, dd, bs, ds, rfl, _⟩ := h; rfl) fun f cdv A outer s H vs Q E hr h => ?_
  obtain ⟨b, dd, bs, ds, rfl, h4, ⟨qs, h5, h6, h7⟩, hz1, hz2, hnn, q⟩ := h
  refine ⟨_, (pss_cons (ps_par (i := 2) (j := 3) (by rfl) sc_law_counts.nd rfl rfl (by decide) rfl rfl (pa_cons (pe_lst pa_nil) (pa_cons pe_int pa_nil)) (by rfl))
      (pss_cons (ps_for PassesOwn.never rfl (pi_range1 (by rfl) B.range (pa_cons (pe_op op_add (pe_callB (call_lenK K rfl) (by rfl) B.len (by decide +kernel) (pa_cons (pv 1) pa_nil)) pe_int) pa_nil)) (pg_name (i := 4) sc_law_counts.nd rfl (Or.inr rfl))
      (pss_cons (ps_set (i := 3) sc_law_counts.nd rfl (Or.inl rfl) (pe_op op_add (pv 3) (pe_callB (call_lenK K rfl) (by rfl) B.len (by decide +kernel) (pa_cons (pe_lc (own := [("_law_day", 5)]) (g := (gName 5)) (by rfl) sc_law_counts.nd (pi_tup (pv 0)) (blkOk_by (N := N_law_counts) (own := [("_law_day", 5)]) (sc := defScope s_law_counts) (by decide +kernel)) (fun _ _ _ _ _ => pg_name (i := 5) sc_law_counts.nd rfl (Or.inl rfl)) (fun _ _ _ _ _ => (pts_one (pt_cmpR op_eq (pv 5) (pv 4) (nomark _)))) (fun _ _ _ _ _ => (pv 5))) pa_nil))))
      (pss_cons (ps_expr (pe_bm PySem.F.plainAttrs_list PySem.F.slot_list_append PySem.F.type_list_append mt_append (pv 2) (pa_cons (pv 3) pa_nil)))
      (pss_one (ps_if (pt_cmpR op_lt (pv 4) (pe_callB (call_lenK K rfl) (by rfl) B.len (by decide +kernel) (pa_cons (pv 1) pa_nil)) (nomark _)) (pss_one (ps_set (i := 3) sc_law_counts.nd rfl (Or.inl rfl) (pe_op op_add (pe_op op_sub (pv 3) (pe_callB (cr_sumTK K rfl rfl) (by rfl) B.sum (by decide +kernel) (pa_cons (pe_ix (ix_tupK K rfl) (pv 1) (pv 4) (fun _ _ => rfl)) pa_nil))) (pe_callB (call_lenK K rfl) (by rfl) B.len (by decide +kernel) (pa_cons (pe_ix (ix_tupK K rfl) (pv 1) (pv 4) (fun _ _ => rfl)) pa_nil)))))
      pss_nil)))))
      (pss_one (ps_ret (pv 2))))), ?_⟩
  have lq : (qs.map V.ref).length = ds.length := by simp [h6]
  refine ⟨Nat.zero_le _, fun F hF => ?_⟩
  refine ⟨_, _, rfl, _, rfl, dd, _, rfl, .inr (Same.seqT (Same.new hF) h5), _, _, rfl, rfl, _, rfl, by omega, by omega, for_range (lo := 0) (n := _) (fun i σ H' => H F = none ∧ Same H H' ∧ H' F = some (.lst (((List.range i).map (aliveAt bs ds)).map V.int)) ∧ ∃ (x4 : Option V) (now : Int), (i ≤ ds.length → now = kAt bs ds i) ∧ σ = [some (.ref b), some (.ref dd), some (.ref F), some (.int now), x4, none]) ⟨hF, Same.new hF, upd_same, none, 0, fun _ => ?_, rfl⟩ ?_ ?_⟩
  · have h0 : bs.filter (fun b => decide (b < ((0 : Nat) : Int))) = [] := by
      rw [List.filter_eq_nil_iff]
      intro x hx
      have := hnn x hx
      simp
      omega
    unfold kAt bornB
    rw [h0]
    simp
  · rintro i σ H1 hi ⟨hF, s1, hL, x4, now, hk, rfl⟩
    have hi' : i ≤ ds.length := by omega
    have hk' := hk hi'
    have e0i : (0 : Int) + (i : Nat) = ((i : Nat) : Int) := by omega
    refine ⟨_, rfl, _, rfl, b, rfl, ⟨_, Same.seqT s1 h4⟩, fun D hD => lc_it (walk_tup (xs := bs.map V.int)) (Cw H1 (fun j => decide (V.int (bs.getD j 0) = V.int (0 + (i : Nat)))) (fun j => V.int (bs.getD j 0)) D) (cw0 hD) (fun j H' _ p => Same.seqT (s1.trans p.2.1) h4) ?_ ?_⟩
    · rintro j x H' H'' hj p ⟨rfl, hx⟩
      obtain ⟨z, hz, rfl⟩ := map_of hx
      have hj' : j < bs.length := by simpa using hj
      refine ⟨rfl, _, rfl, _, rfl, rfl, _, rfl, ?_⟩
      refine ite2 (fun h => ?_) (fun h => ?_)
      · exact ⟨_, rfl, cwY p (Same.refl _) (by omega) (by rw [getD_of hz]; exact h) (by rw [getD_of hz])⟩
      · exact cwN p (Same.refl _) (by rw [getD_of hz]; simpa using h)
    · rintro H2 ⟨p1, p2, p3⟩
      have e := givn_filter bs 0 (fun z => decide (V.int z = V.int (0 + (i : Nat)))) V.int
      rw [List.length_map] at p3
      rw [e] at p3
      have ek : now + ((((bs.filter fun z => decide (V.int z = V.int (0 + (i : Nat)))).map V.int).length : Nat) : Int) = aliveAt bs ds i := by
        rw [List.length_map, count_filt, e0i, hk', kAt_count]
      refine ⟨D, _, rfl, .inl (SqL.of p3), _, _, rfl, rfl, ?_⟩
      dsimp only
      rw [ek]
      have hL2 : H2 F = some (.lst (((List.range i).map (aliveAt bs ds)).map V.int)) := p2 _ _ hL
      have sF : Same H (upd H2 F (.lst (((List.range i).map (aliveAt bs ds)).map V.int ++ [V.int (aliveAt bs ds i)]))) := Same.mut (s1.trans p2) hF
      have hL3 : (upd H2 F (.lst (((List.range i).map (aliveAt bs ds)).map V.int ++ [V.int (aliveAt bs ds i)]))) F = some (.lst (((List.range (i + 1)).map (aliveAt bs ds)).map V.int)) := by
        rw [upd_same, List.range_succ, List.map_append, List.map_append]
        rfl
      refine ⟨_, rfl, .inl ⟨rfl, _, SqL.of hL2⟩, _, rfl, F, _, _, rfl, rfl, hL2, ?_, ?_⟩
      · rw [List.length_map, List.length_map, List.length_range]
        exact Nat.lt_of_lt_of_le (show i < 10000 by omega) (by decide)
      refine ⟨_, rfl, _, rfl, dd, _, rfl, .inr (Same.seqT sF h5), _, _, rfl, rfl, _, rfl, ?_⟩
      refine ite2 (fun h1 => ?_) (fun h1 => ?_)
      · have h1' : i < ds.length := by
          have := of_decide_eq_true h1
          omega
        have hq : qs[i]? = some qs[i] := by simp
        have hp : ds[i]? = some ds[i] := by simp
        have hat : atI (qs.map V.ref) (0 + (i : Nat)) = some (.ref qs[i]) := at_of e0i (by simp)
        have hti := (h7 i _ _ hq hp).same sF
        refine ⟨_, rfl, _, rfl, _, rfl, dd, _, _, _, rfl, rfl, Same.seqT sF h5, hat, _, _, rfl, hti, _, _, rfl, rfl, _, rfl, _, rfl, dd, _, _, _, rfl, rfl, Same.seqT sF h5, hat, _, _, rfl, .inr hti, _, _, rfl, rfl, hF, sF, hL3, _, _, fun _ => ?_, rfl⟩
        rw [← kAt_less hp, List.length_map]
        unfold lessI
        omega
      · refine ⟨hF, sF, hL3, _, _, fun h => ?_, rfl⟩
        have := of_decide_eq_false (Bool.not_eq_true _ ▸ h1)
        omega
  · rintro σ H1 ⟨hF, s1, hL, x4, now, hk, rfl⟩
    have en : (((qs.map V.ref).length : Int) + 1).toNat = ds.length + 1 := by omega
    rw [en] at hL
    exact ⟨_, rfl, q F H1 hF s1 hL⟩
def spLawIs (K : PySem.W.Frag) (g : List Int → List (List Int) → Bool) : Sp := fun vs H Q _ => ∃ (b dd : Addr) (bs : List Int) (ds : List (List Int)), vs = [.ref b, .ref dd] ∧ TupI K H b bs ∧ TupTI K H dd ds ∧ CalOk bs ds ∧ ∀ H', Same H H' → Q (.bl (g bs ds)) H'
theorem ca_lis_plain (B : Bl mg) (U : Up K mg "_law_is_plain" s_law_is_plain) : Ca P w K mg base 1 "_law_is_plain" s_law_is_plain ["_law_born", "_law_days"] (spLawIs K plainB) := by
  refine ca0 U sc_law_is_plain (fun vs H Q E h => by obtain ⟨b, dd, bs, ds, rfl, _⟩ := h; rfl) fun f cdv A outer s H vs Q E hr h => ?_
  obtain ⟨b, dd, bs, ds, rfl, h4, ⟨qs, h5, h6, h7⟩, ok, q⟩ := h
  have hu64 := hr.units
  have n12 := ok.n12
  have m11 := ok.m11
  refine ⟨_, (pss_cons (ps_if (PW.pt (pw_or (pt_cmpR (op_neDK K rfl hu64) (pe_lc (own := [("_law_birth", 2)]) (g := (gName 2)) (by rfl) sc_law_is_plain.nd (pi_tup (pv 0)) (blkOk_by (N := N_law_is_plain) (own := [("_law_birth", 2)]) (sc := defScope s_law_is_plain) (by decide +kernel)) (fun _ _ _ _ _ => pg_name (i := 2) sc_law_is_plain.nd rfl (Or.inl rfl)) (fun _ _ _ _ _ => (pts_one (pt_cmpR op_ne (pv 2) pe_int (nomark _)))) (fun _ _ _ _ _ => (pv 2))) (pe_lst pa_nil) (nomark _)) (pw_or1 (pt_cmpR (op_neDK K rfl hu64) (pe_lc (own := [("_law_day", 3)]) (g := (gName 3)) (by rfl) sc_law_is_plain.nd (pi_tup (pv 1)) (blkOk_by (N := N_law_is_plain) (own := [("_law_day", 3)]) (sc := defScope s_law_is_plain) (by decide +kernel)) (fun _ _ _ _ _ => pg_name (i := 3) sc_law_is_plain.nd rfl (Or.inl rfl)) (fun _ _ _ _ _ => (pts_one (pt_cmpR (op_neDK K rfl hu64) (pv 3) (pe_tup (pa_cons pe_int pa_nil)) (nomark _)))) (fun _ _ _ _ _ => (pv 3))) (pe_lst pa_nil) (nomark _))))) (pss_one (ps_ret pe_bl))
      pss_nil)
      (pss_one (ps_ret (pe_cmpR op_eq (pe_callB (call_lenK K rfl) (by rfl) B.len (by decide +kernel) (pa_cons (pv 1) pa_nil)) (pe_op op_sub (pe_callB (call_lenK K rfl) (by rfl) B.len (by decide +kernel) (pa_cons (pv 0) pa_nil)) pe_int) (nomark _))))), ?_⟩
  refine ⟨_, rfl, b, rfl, ⟨_, h4⟩, fun D hD => lc_it (walk_tup (xs := bs.map V.int)) (Cw H (fun j => !decide (bs.getD j 0 = 0)) (fun j => V.int (bs.getD j 0)) D) (cw0 hD) (fun j H' _ p => Same.seqT p.2.1 h4) ?_ ?_⟩
  · rintro j x H' H'' hj p ⟨rfl, hx⟩
    obtain ⟨z, hz, rfl⟩ := map_of hx
    have hj' : j < bs.length := by simpa using hj
    refine ⟨rfl, _, rfl, rfl, _, rfl, ?_⟩
    refine ite2 (fun h => ?_) (fun h => ?_)
    · exact ⟨_, rfl, cwY p (Same.refl _) (by omega) (by rw [getD_of hz]; simpa using h) (by rw [getD_of hz])⟩
    · exact cwN p (Same.refl _) (by rw [getD_of hz]; simpa using h)
  · rintro H1 ⟨p1, p2, p3⟩
    have e := givn_filter bs 0 (fun z => !decide (z = 0)) V.int
    rw [List.length_map] at p3
    rw [e] at p3
    refine ⟨Nat.zero_le _, fun l hl => ?_⟩
    have s2 := p2.trans (Same.new (o := .lst []) hl)
    refine ⟨_, _, dp_lst (SqL.of (Same.new hl _ _ p3)), dp_lst (ns := []) (SqL.of upd_same), shaped_lst _, shaped_lst [], _, rfl, ?_⟩
    have e1 : (!PyData.eqv (.list ((bs.filter fun z => !decide (z = 0)).map PyData.int)) (.list (([] : List Int).map PyData.int))) = !((bs.map fun b => decide (b = 0)).all id) := by
      rw [eqv_lst, nil_dec, filt_nil]
    rw [e1]
    refine ite2 (fun g1 => ?_) (fun g1 => ?_)
    · refine iteT ?_
      have e3 : plainB bs ds = false := by
        unfold plainB
        rw [show (bs.map fun p => decide (p = 0)).all id = false by simpa using g1]
        rfl
      rw [e3] at q
      exact q _ s2
    · have g1' : (bs.map fun p => decide (p = 0)).all id = true := by simpa using g1
      refine ⟨_, rfl, dd, rfl, ⟨_, Same.seqT s2 h5⟩, fun D2 hD2 => lc_it (walk_tup (xs := qs.map V.ref)) (Cw (upd H1 l (.lst [])) (fun j => !decide (((qs.zip ds).getD j (0, [])).2 = [2])) (fun j => V.ref ((qs.zip ds).getD j (0, [])).1) D2) (cw0 hD2) (fun j H' _ p => Same.seqT (s2.trans p.2.1) h5) ?_ ?_⟩
      · rintro j x H' H'' hj p ⟨rfl, hx⟩
        obtain ⟨z, hz, rfl⟩ := map_of hx
        have hj' : j < ds.length := by
          have := (List.getElem?_eq_some_iff.mp hz).1
          omega
        have hds : ds[j]? = some ds[j] := by simp
        have hzz := zip_get hz hds
        refine ⟨rfl, _, rfl, (by show 1 ≤ sizeLine; decide), fun p0 hp0 => ?_⟩
        have sp := Same.new (o := .tup [V.int 2]) hp0
        refine ⟨_, _, dp_tup ((h7 j z _ hz hds).same ((s2.trans p.2.1).trans sp)), dp_tup (ns := [2]) (SqT.of upd_same), shaped_tup _, shaped_tup [2], _, rfl, ?_⟩
        refine ite2 (fun h => ?_) (fun h => ?_)
        · refine ⟨_, rfl, cwY p sp (by omega) ?_ (by rw [getD_of hzz])⟩
          rw [getD_of hzz]
          rw [eqv_tup] at h
          exact h
        · refine cwN p sp ?_
          rw [getD_of hzz]
          rw [eqv_tup] at h
          simpa using h
      · rintro H2 ⟨r1, r2, r3⟩
        have ez := givn_filter (qs.zip ds) ((0, []) : Addr × List Int) (fun p => !decide (p.2 = [2])) (fun p => V.ref p.1)
        have lz : (qs.zip ds).length = (qs.map V.ref).length := by simp [h6]
        rw [← lz, ez] at r3
        have ez2 : ((qs.zip ds).filter fun p => !decide (p.2 = [2])).map (fun p => V.ref p.1) = (((qs.zip ds).filter fun p => !decide (p.2 = [2])).map Prod.fst).map V.ref := by rw [List.map_map]; rfl
        rw [ez2] at r3
        refine ⟨Nat.zero_le _, fun l2 hl2 => ?_⟩
        have s3 := (s2.trans r2).trans (Same.new (o := .lst []) hl2)
        refine ⟨_, _, dpL2 (nss := ((qs.zip ds).filter fun p => !decide (p.2 = [2])).map Prod.snd) (SqL.of (Same.new hl2 _ _ r3)) (by simp) ?_, dp_lst (ns := []) (SqL.of upd_same), shapedL2 _, shaped_lst [], _, rfl, ?_⟩
        · intro i r ns hr1 hr2
          rw [List.getElem?_map] at hr1 hr2
          cases hf : ((qs.zip ds).filter fun p => !decide (p.2 = [2]))[i]? with
          | none =>
            rw [hf] at hr1
            cases hr1
          | some pr =>
            rw [hf] at hr1 hr2
            cases hr1
            cases hr2
            have hm := (List.mem_filter.mp (List.mem_of_getElem? hf)).1
            obtain ⟨j, hj1, hj2⟩ := List.getElem_of_mem hm
            have hj3 : (qs.zip ds)[j]? = some pr := by rw [← hj2]; exact List.getElem?_eq_getElem hj1
            rw [List.getElem?_zip_eq_some] at hj3
            exact (h7 j pr.1 pr.2 hj3.1 hj3.2).same s3
        · have e2 : (!PyData.eqv (PL2 (((qs.zip ds).filter fun p => !decide (p.2 = [2])).map Prod.snd)) (.list (([] : List Int).map PyData.int))) = !((ds.map fun p => decide (p = [2])).all id) := by
            rw [show (PyData.list (([] : List Int).map PyData.int)) = PL2 [] from rfl, eqvL2, zip_filt_snd (fun p => !decide (p = [2])) qs ds h6, nil_dec, filt_nil]
          rw [e2]
          refine ite2 (fun g2 => ?_) (fun g2 => ?_)
          · have e3 : plainB bs ds = false := by
              unfold plainB
              rw [show (ds.map fun p => decide (p = [2])).all id = false by simpa using g2]
              simp
            rw [e3] at q
            exact q _ s3
          · have g2' : (ds.map fun p => decide (p = [2])).all id = true := by simpa using g2
            refine ⟨_, rfl, dd, _, rfl, .inr (Same.seqT s3 h5), _, rfl, b, _, rfl, .inr (Same.seqT s3 h4), _, _, rfl, rfl, rfl, ?_⟩
            have e3 : plainB bs ds = decide (V.int ((qs.map V.ref).length : Nat) = V.int (((bs.map V.int).length : Nat) - 1)) := by
              unfold plainB
              rw [g1', g2', List.length_map, List.length_map, h6]
              simp
            rw [e3] at q
            exact q _ s3
theorem ca_lis_level (B : Bl mg) (c_law_counts : Ca P w K mg base 1 "_law_counts" s_law_counts ["_law_born", "_law_days"] (spCounts K)) (U : Up K mg "_law_is_level" s_law_is_level) : Ca P w K mg base 2 "_law_is_level" s_law_is_level ["_law_born", "_law_days"] (spLawIs K levelB) := by
  refine ca0 U sc_law_is_level (fun vs H Q E h => by obtain ⟨b, dd, bs, ds, rfl, _⟩ := h; rfl) fun f cdv A outer s H vs Q E hr h => ?_
  obtain ⟨b, dd, bs, ds, rfl, h4, ⟨qs, h5, h6, h7⟩, ok, q⟩ := h
  have hu64 := hr.units
  have n12 := ok.n12
  have m11 := ok.m11
  refine ⟨_, (pss_cons (ps_set (i := 2) sc_law_is_level.nd rfl (Or.inl rfl) (pe_ca c_law_counts b_law_counts hr ps0 (pa_cons (pv 0) (pa_cons (pv 1) pa_nil))))
      (pss_cons (ps_set (i := 3) sc_law_is_level.nd rfl (Or.inr rfl) (pe_lst pa_nil))
      (pss_cons (ps_for PassesOwn.never rfl (pi_enumT (by rfl) B.enumerate (pa_cons (pv 1) pa_nil)) (pg_tup rfl (pgs_cons (pg_name (i := 4) sc_law_is_level.nd rfl (Or.inl rfl)) (pgs_cons (pg_name (i := 5) sc_law_is_level.nd rfl (Or.inl rfl)) pgs_nil)))
      (pss_cons (ps_if (pt_cmpR op_ne (pe_callB (cr_sumTK K rfl rfl) (by rfl) B.sum (by decide +kernel) (pa_cons (pv 5) pa_nil)) (pe_ix (ix_listK K rfl) (pv 2) (pv 4) (fun _ _ => rfl)) (nomark _)) (pss_one (ps_ret pe_bl))
      pss_nil)
      (pss_one (ps_set (i := 3) sc_law_is_level.nd rfl (Or.inr rfl) (pe_op op_cat (pv 3) (pe_callTy call_list_of (by rfl) B.list (by decide +kernel) (pa_cons (pv 5) pa_nil)))))))
      (pss_one (ps_ret (pe_and (pe_cmpR op_eq (pe_ix (ix_listK K rfl) (pv 2) (pe_un un_neg pe_int) (fun _ _ => rfl)) pe_int (nomark _)) (pe_one (pe_cmpR (op_eqDK K rfl hu64) (pe_lc (own := [("_law_size", 6)]) (g := (gName 6)) (by rfl) sc_law_is_level.nd (pi_list (pv 3)) (blkOk_by (N := N_law_is_level) (own := [("_law_size", 6)]) (sc := defScope s_law_is_level) (by decide +kernel)) (fun _ _ _ _ _ => pg_name (i := 6) sc_law_is_level.nd rfl (Or.inl rfl)) (fun _ _ _ _ _ => (pts_one (pt_cmpR op_ne (pv 6) (pe_ix (ix_listK K rfl) (pv 3) pe_int (fun _ _ => rfl)) (nomark _)))) (fun _ _ _ _ _ => (pv 6))) (pe_lst pa_nil) (nomark _))))))))), ?_⟩
  refine ⟨_, rfl, _, rfl, b, dd, bs, ds, rfl, h4, ⟨qs, h5, h6, h7⟩, by omega, by omega, fun x hx => (ok.born x hx).1, fun c H1 hc s1 hC => ⟨Nat.zero_le _, fun S hS => ?_⟩⟩
  have s2 := s1.trans (Same.new (o := .lst []) hS)
  have hC2 : (upd H1 S (.lst [])) c = some (.lst ((countsL bs ds).map V.int)) := Same.new hS _ _ hC
  have hcl : (countsL bs ds).length = ds.length + 1 := by simp [countsL]
  have lq : (qs.map V.ref).length = ds.length := by simp [h6]
  refine ⟨_, rfl, dd, _, rfl, Same.seqT s2 h5, for_it (walk_enumT (xs := qs.map V.ref)) (fun i σ H' => ∃ (x y : Option V) (S : Addr), σ = [some (.ref b), some (.ref dd), some (.ref c), some (.ref S), x, y, none] ∧ Same H1 H' ∧ H' S = some (.lst ((sizesL (ds.take i)).map V.int)) ∧ ∀ j p, j < i → ds[j]? = some p → p.sum = aliveAt bs ds j) ⟨none, none, S, rfl, Same.new hS, upd_same, fun j p h => by omega⟩ (fun i σ H' _ p => by obtain ⟨x, y, S, _, s3, _⟩ := p; exact Same.seqT (s1.trans s3) h5) ?_ ?_⟩
  · rintro i x σ H2 H3 hi ⟨x', y', S, rfl, s3, hL, hfull⟩ ⟨T0, u, v, rfl, hT, rfl, hu, hv⟩
    cases hu
    obtain ⟨z, hz, rfl⟩ := map_of hv
    have hi' : i < ds.length := by
      have := (List.getElem?_eq_some_iff.mp hz).1
      omega
    have hds : ds[i]? = some ds[i] := by simp
    have hp := ok.pat ds[i] (List.getElem_mem _)
    have sT : Same H2 (upd H2 T0 (.tup [.int (i : Nat), .ref z])) := Same.new hT
    have s4 : Same H1 (upd H2 T0 (.tup [.int (i : Nat), .ref z])) := s3.trans sT
    have htz := (h7 i z _ hz hds).same (s1.trans s4)
    refine ⟨T0, _, rfl, SqT.of upd_same, rfl, _, _, rfl, _, _, rfl, rfl, ?_⟩
    refine ⟨_, rfl, _, _, rfl, htz, _, rfl, _, rfl, c, _, _, .int (aliveAt bs ds i), rfl, rfl, SqL.of (s4 _ _ hC), ?_, rfl, _, rfl, ?_⟩
    · refine at_of rfl ?_
      unfold countsL
      rw [List.getElem?_map, List.getElem?_map, List.getElem?_range (by omega)]
      rfl
    refine ite2 (fun hc => ?_) (fun hc => ?_)
    · have hne : ds[i].sum ≠ aliveAt bs ds i := by
        intro e
        rw [e] at hc
        simp at hc
      have e3 : levelB bs ds = false := by
        unfold levelB
        rw [full_not hds hne]
        rfl
      rw [e3] at q
      exact q _ (s1.trans s4)
    · have heq : ds[i].sum = aliveAt bs ds i := by
        simp at hc
        exact hc
      have hln := sizes_len (ds := ds.take i) fun p hp => (ok.pat p (List.mem_of_mem_take hp)).2.2
      have hlt : (ds.take i).length = i := by simp; omega
      refine ⟨_, rfl, _, rfl, z, _, rfl, .inr htz, fun l hl => ?_⟩
      have sl := Same.new (o := .lst (ds[i].map V.int)) hl
      refine ⟨S, l, _, _, rfl, rfl, sl _ _ (sT _ _ hL), upd_same, ?_, fun p hp0 => ⟨_, _, p, rfl, (s4.trans sl).trans (Same.new hp0), ?_, ?_⟩⟩
      · rw [List.length_map, List.length_map]
        exact Nat.le_trans (show _ ≤ 12000 by omega) (by decide)
      · rw [upd_same, sizes_next hds, List.map_append]
      · intro j p hj hjp
        by_cases e : j = i
        · subst e
          rw [hds] at hjp
          cases hjp
          exact heq
        · exact hfull j p (by omega) hjp
  · rintro σ H2 ⟨x', y', S, rfl, s3, hL, hfull⟩
    rw [lq, List.take_length] at hL
    have hfu : fullB bs ds = true := full_of fun i p hp => hfull i p (by
      have := (List.getElem?_eq_some_iff.mp hp).1
      omega) hp
    have hln := sizes_len (ds := ds) fun p hp => (ok.pat p hp).2.2
    refine ⟨_, rfl, 1, rfl, c, _, _, .int (aliveAt bs ds ds.length), rfl, rfl, SqL.of (s3 _ _ hC), ?_, rfl, _, rfl, ?_⟩
    · unfold countsL
      rw [List.range_succ, List.map_append, List.map_append]
      exact atI_last _ _
    refine ite2 (fun g1 => ?_) (fun g1 => ?_)
    · refine ⟨_, rfl, S, rfl, ⟨_, SqL.of hL⟩, fun D2 hD2 => lc_it (walk_list (xs := (sizesL ds).map V.int)) (Cw H2 (fun j => !decide ((sizesL ds).getD j 0 = (sizesL ds).headD 0)) (fun j => V.int ((sizesL ds).getD j 0)) D2) (cw0 hD2) (fun i H' _ p => SqL.of (p.2.1 _ _ hL)) ?_ ?_⟩
      · rintro i x H' H'' hi p ⟨rfl, hx⟩
        obtain ⟨z, hz, rfl⟩ := map_of hx
        have hi' : i < (sizesL ds).length := by simpa using hi
        have hat : atI ((sizesL ds).map V.int) 0 = some (.int ((sizesL ds).headD 0)) := by
          cases e : sizesL ds with
          | nil =>
            rw [e] at hi'
            simp at hi'
          | cons a r => exact at0
        refine ⟨rfl, _, rfl, _, rfl, S, _, _, _, rfl, rfl, SqL.of (p.2.1 _ _ hL), hat, rfl, _, rfl, ?_⟩
        refine ite2 (fun h => ?_) (fun h => ?_)
        · exact ⟨_, rfl, cwY p (Same.refl _) (by omega) (by rw [getD_of hz]; simpa using h) (by rw [getD_of hz])⟩
        · exact cwN p (Same.refl _) (by rw [getD_of hz]; simpa using h)
      · rintro H3 ⟨r1, r2, r3⟩
        have e2 := givn_filter (sizesL ds) 0 (fun x => !decide (x = (sizesL ds).headD 0)) V.int
        rw [List.length_map, e2] at r3
        refine ⟨Nat.zero_le _, fun l hl => ?_⟩
        have s5 := ((s1.trans s3).trans r2).trans (Same.new (o := .lst []) hl)
        refine ⟨_, _, dp_lst (SqL.of (Same.new hl _ _ r3)), dp_lst (ns := []) (SqL.of upd_same), shaped_lst _, shaped_lst [], ?_⟩
        have e1 : PyData.eqv (.list (((sizesL ds).filter fun z => !decide (z = (sizesL ds).headD 0)).map PyData.int)) (.list (([] : List Int).map PyData.int)) = alikeB (sizesL ds) := by
          rw [eqv_lst, nil_dec, filt_nil]
          rfl
        have e3 : levelB bs ds = alikeB (sizesL ds) := by
          unfold levelB
          have g1' : aliveAt bs ds ds.length = 1 := by simpa using g1
          rw [hfu, g1']
          simp
        rw [e1, ← e3]
        exact q _ s5
    · have e3 : levelB bs ds = false := by
        unfold levelB
        have g1' : ¬ aliveAt bs ds ds.length = 1 := by simpa using g1
        rw [decide_eq_false g1']
        simp
      rw [e3] at q
      exact q _ (s1.trans s3)
end
end DK
set_option Elab.async false
set_option linter.all false
set_option maxRecDepth 100000
set_option maxHeartbeats 4000000
namespace DK
open PySem PySem.Spec PyProof.Rows L2 RZ DL
abbrev s_law_looks_right : Stmt := topS 45
abbrev N_law_looks_right : List Str := ["_law_born", "_law_days", "_law_calendar_here"]
theorem sc_law_looks_right : FnScope N_law_looks_right ["_law_born", "_law_days"] (defScope s_law_looks_right) := ⟨rfl, rfl, rfl, by decide +kernel, rfl, by decide +kernel, by decide +kernel⟩
theorem b_law_looks_right : BindOk "_law_looks_right" s_law_looks_right ["_law_born", "_law_days"] := fun _ _ _ _ _ _ us hl => match us, hl with | [_, _], _ => rfl

abbrev s_law_is_refused : Stmt := topS 46
abbrev N_law_is_refused : List Str := ["_law_ask", "_law_n", "e"]
theorem sc_law_is_refused : FnScope N_law_is_refused ["_law_ask", "_law_n"] (defScope s_law_is_refused) := ⟨rfl, rfl, rfl, by decide +kernel, rfl, by decide +kernel, by decide +kernel⟩
theorem b_law_is_refused : BindOk "_law_is_refused" s_law_is_refused ["_law_ask", "_law_n"] := fun _ _ _ _ _ _ us hl => match us, hl with | [_, _], _ => rfl

theorem kb_is_plain_calendar : KwOk "is_plain" s_is_plain ["calendar"] ["calendar"] (fun ws => ws) := fun _ _ _ _ _ _ ws hl => match ws, hl with | [_], _ => rfl
theorem kb_is_level_calendar : KwOk "is_level" s_is_level ["calendar"] ["calendar"] (fun ws => ws) := fun _ _ _ _ _ _ ws hl => match ws, hl with | [_], _ => rfl
theorem kv_id {zs : List V} {ws : List Value} (h : Vals zs ws) : Vals ((fun zs => zs) zs) ((fun ws => ws) ws) := h
section
variable {P : Program} {w : World} {K : PySem.W.Frag} {mg : Str → Option Value} {base : Heap} {C f0 fC CM fR CS fP fS : Addr}
def spLooks (K : PySem.W.Frag) : Sp := fun vs H Q _ => ∃ (b dd : Addr) (bs : List Int) (ds : List (List Int)), vs = [.ref b, .ref dd] ∧ TupD H b (bs.map V.int) ∧ TupTD H dd ds ∧ CalOk bs ds ∧ ∀ H', Same H H' → Q (.bl true) H'
theorem ca_looks (B : Bl mg) (Br : BlR mg) (c_made_calendar : Ca P w K mg base 6 "made_calendar" s_made_calendar ["born", "days"] (spMade K C)) (c_is_plain : Ca P w K mg base 7 "is_plain" s_is_plain ["calendar"] (spLook K C plainB)) (c_is_level : Ca P w K mg base 7 "is_level" s_is_level ["calendar"] (spLook K C levelB))
    (c_law_is_plain : Ca P w K mg base 1 "_law_is_plain" s_law_is_plain ["_law_born", "_law_days"] (spLawIs K plainB)) (c_law_is_level : Ca P w K mg base 2 "_law_is_level" s_law_is_level ["_law_born", "_law_days"] (spLawIs K levelB))
    (U : Up K mg "_law_looks_right" s_law_looks_right) : Ca P w K mg base 8 "_law_looks_right" s_law_looks_right ["_law_born", "_law_days"] (spLooks K) := by
  have kv_is_plain_calendar := @kv_id
  have kv_is_level_calendar := @kv_id
  refine ca0 U sc_law_looks_right (fun vs H Q E h => by obtain ⟨b, dd, bs, ds, rfl, _⟩ := h; rfl) fun f cdv A outer s H vs Q E hr h => ?_
  obtain ⟨b, dd, bs, ds, rfl, hb, hd, ok, q⟩ := h
  refine ⟨_, (pss_cons (ps_set (i := 2) sc_law_looks_right.nd rfl (Or.inl rfl) (pe_ca c_made_calendar b_made_calendar hr ps0 (pa_cons (pv 0) (pa_cons (pv 1) pa_nil))))
      (pss_cons (ps_if (pt_cmpR op_ne (pe_callB call_reprB (by rfl) Br.repr (by decide +kernel) (pa_cons (pe_cak c_is_plain kb_is_plain_calendar kv_is_plain_calendar hr (pk_cons (pv 2) pk_nil)) pa_nil)) (pe_callB call_reprB (by rfl) Br.repr (by decide +kernel) (pa_cons (pe_ca c_law_is_plain b_law_is_plain hr ps0 (pa_cons (pv 0) (pa_cons (pv 1) pa_nil))) pa_nil)) (nomark _)) (pss_one (ps_ret pe_bl))
      pss_nil)
      (pss_one (ps_ret (pe_cmpR op_eq (pe_callB call_reprB (by rfl) Br.repr (by decide +kernel) (pa_cons (pe_cak c_is_level kb_is_level_calendar kv_is_level_calendar hr (pk_cons (pv 2) pk_nil)) pa_nil)) (pe_callB call_reprB (by rfl) Br.repr (by decide +kernel) (pa_cons (pe_ca c_law_is_level b_law_is_level hr ps0 (pa_cons (pv 0) (pa_cons (pv 1) pa_nil))) pa_nil)) (nomark _)))))), ?_⟩
  refine ⟨_, rfl, _, rfl, b, dd, bs, ds, rfl, hb, hd, ok, fun c H1 hc s1 hcal => ?_⟩
  refine ⟨_, rfl, rfl, c, bs, ds, rfl, hcal, ok, fun H2 s2 => ⟨_, rfl, _, rfl, _, rfl, b, dd, bs, ds, rfl, (hb.same (s1.trans s2)).sq, (hd.same (s1.trans s2)).ti, ok, fun H3 s3 => ⟨_, rfl, rfl, _, rfl, ?_⟩⟩⟩
  have s13 := (s1.trans s2).trans s3
  refine iteFd (by simp) ⟨_, rfl, rfl, c, bs, ds, rfl, hcal.same (s2.trans s3), ok, fun H4 s4 => ⟨_, rfl, _, rfl, _, rfl, b, dd, bs, ds, rfl, (hb.same (s13.trans s4)).sq, (hd.same (s13.trans s4)).ti, ok, fun H5 s5 => ⟨_, rfl, rfl, ?_⟩⟩⟩
  have s15 := (s13.trans s4).trans s5
  rw [decide_eq_true rfl]
  exact q _ s15
/-- which defs _law_is_refused is asked with -/
def askSp (K : PySem.W.Frag) (C CS fP fS : Addr) (x : Addr) : Option Sp :=
  if x = fP then some (spTold K C CS 1 twosL) else if x = fS then some (spTold K C CS 2 oneDay) else none
def loOf (fP x : Addr) : Int := if x = fP then 1 else 2
def spRefused (fP fS : Addr) : Sp := fun vs H Q _ => ∃ (x : Addr) (n : Int), vs = [.ref x, .int n] ∧ (x = fP ∨ x = fS) ∧ ¬ (loOf fP x ≤ n ∧ n ≤ 12) ∧ ∀ H', Same H H' → Q (.bl true) H'
theorem ca_refused (hab : fP ≠ fS) (T : Er K mg "BadSize" CS fR) (A_ : ∀ x sp, askSp K C CS fP fS x = some sp → HeldX P w K mg base 4 x sp) (U : Up K mg "_law_is_refused" s_law_is_refused) : Ca P w K mg base 5 "_law_is_refused" s_law_is_refused ["_law_ask", "_law_n"] (spRefused fP fS) := by
  refine ca0 U sc_law_is_refused (fun vs H Q E h => by obtain ⟨x, n, rfl, _⟩ := h; rfl) fun f cdv A outer s H vs Q E hr h => ?_
  obtain ⟨x, n, rfl, hx, hbad, q⟩ := h
  refine ⟨_, (pss_cons (ps_try_as (i := 2) (tb := fun W => tDrop (tCallLS 0 (askSp K C CS fP fS) (WE W) (tCons (tVar 1) tNil))) (ts := fun a cls d => tRet (tOp rEq (tXf a cls d CS "what" (tVar 2)) (tVar 1))) (Wout := fun _ _ _ _ => False) rfl rfl sc_law_is_refused.nd rfl rfl ⟨rfl, by decide, Or.inl T.gC⟩ takes0
      (fun W pn xe tk _ => (pss_one (ps_expr (pe_callLS A_ hr rfl (Or.inl rfl) (passAt tk) (pa_cons (pv 1) pa_nil)))))
      (fun a oe cls d pn hz hf => (pss_one (ps_ret (pe_cmpR op_eq (pe_xf T.xf T.nw hz hf (pv 2)) (pv 1) (nomark _))))))
      (pss_one (ps_ret pe_bl))), ?_⟩
  have fin : RaisesW CS (.int n) H (fun cls dd H' => wAs K (.ref CS) 2 (fun a cls d => tRet (tOp rEq (tXf a cls d CS "what" (tVar 2)) (tVar 1))) (fun _ _ _ _ => False) { nx := tRet (tC (.bl false)) { nx := fun _ H' => Q .non H', rt := Q }, rt := Q } cls dd [some (.ref x), some (.int n), none] H') := by
    intro dd H' s' hn hxd
    dsimp only [wAs]
    refine ⟨true, T.te, fun _ a0 ha0 => ?_, fun z => (nomatch z)⟩
    refine ⟨_, rfl, rfl, rfl, dd, _, .int n, rfl, hxd, rfl, _, rfl, rfl, ?_⟩
    rw [show decide (V.int n = V.int n) = true by simp]
    exact q _ s'
  rcases hx with hx | hx
  · subst hx
    refine ⟨x, _, rfl, if_pos rfl, _, rfl, n, rfl, fun hin => absurd ?_ hbad, fun _ => fin⟩
    unfold loOf
    rw [if_pos rfl]
    exact hin
  · subst hx
    have hA : askSp K C CS fP x x = some (spTold K C CS 2 oneDay) := by
      unfold askSp
      rw [if_neg (Ne.symm hab), if_pos rfl]
    refine ⟨x, _, rfl, hA, _, rfl, n, rfl, fun hin => absurd ?_ hbad, fun _ => fin⟩
    unfold loOf
    rw [if_neg (Ne.symm hab)]
    exact hin
end
end DK
set_option Elab.async false
set_option linter.all false
set_option maxRecDepth 100000
set_option maxHeartbeats 4000000
namespace DK
open PySem PySem.Spec PyProof.Rows L2 RZ DL
abbrev s_law_levelled : Stmt := topS 42
abbrev N_law_levelled : List Str := ["_law_source", "_law_r", "_law_groups", "_law_born", "_law_days", "_law_turn", "_law_lines", "_law_below", "_law_birth"]
theorem sc_law_levelled : FnScope N_law_levelled ["_law_source"] (defScope s_law_levelled) := ⟨rfl, rfl, rfl, by decide +kernel, rfl, by decide +kernel, by decide +kernel⟩
theorem b_law_levelled : BindOk "_law_levelled" s_law_levelled ["_law_source"] := fun _ _ _ _ _ _ us hl => match us, hl with | [_], _ => rfl

section
variable {P : Program} {w : World} {K : PySem.W.Frag} {mg : Str → Option Value} {base : Heap} {C f0 fC CM fR CS fP fS : Addr}
/-- a pair (births, days) that is a calendar's -/
def PairQ (K : PySem.W.Frag) (a : Addr) (H : Hp) (Q : VK) : Prop := ∀ t b d bs ds H', Stay a H H' → TK H H' → SqT K H' t [.ref b, .ref d] → TupD H' b (bs.map V.int) → TupTD H' d ds → CalOk bs ds → Q (.ref t) H'
def spDrawn (K : PySem.W.Frag) : Sp := fun vs H Q _ => ∃ a : Addr, vs = [.ref a] ∧ Src a H ∧ PairQ K a H Q
structure LevSt (a : Addr) (H0 : Hp) (Bn Dl : Addr) (bs : List Int) (ds : List (List Int)) (qs : List Addr) (H : Hp) : Prop where
  st : Stay a H0 H
  ba : Bn ≠ a
  da : Dl ≠ a
  hb : H Bn = some (.lst (bs.map V.int))
  hd : H Dl = some (.lst (qs.map V.ref))
  len : qs.length = ds.length
  tup : ∀ (i : Nat) (q : Addr) (ps : List Int), qs[i]? = some q → ds[i]? = some ps → TupD H q (ps.map V.int)
theorem LevSt.stay {a : Addr} {H0 H H' : Hp} {Bn Dl : Addr} {bs : List Int} {ds : List (List Int)} {qs : List Addr} (c : LevSt a H0 Bn Dl bs ds qs H) (s : Stay a H H') : LevSt a H0 Bn Dl bs ds qs H' :=
  ⟨c.st.trans s, c.ba, c.da, s.2 _ _ c.ba c.hb, s.2 _ _ c.da c.hd, c.len, fun i q ps h1 h2 => (c.tup i q ps h1 h2).tk (TK.stay c.st.1 s)⟩
theorem LevSt.same {a : Addr} {H0 H H' : Hp} {Bn Dl : Addr} {bs : List Int} {ds : List (List Int)} {qs : List Addr} (c : LevSt a H0 Bn Dl bs ds qs H) (s : Same H H') : LevSt a H0 Bn Dl bs ds qs H' := c.stay (Stay.of_same c.st.1 s)
abbrev tTupOf (K : PySem.W.Frag) : List V → Hp → VK → Prop := fun xs H Q => ∃ p ys, xs = [V.ref p] ∧ SqL K H p ys ∧ NewT ys H Q
/-- what the function gives at its end -/
theorem lev_ret {σ : L2.St} {D : Ends} {i : Nat} {a : Addr} {H0 H : Hp} {Bn Dl : Addr} {bs : List Int} {ds : List (List Int)} {qs : List Addr} {k : Int} (c : LevSt a H0 Bn Dl bs ds qs H) (hs : Src a H0) (k0 : 0 ≤ k) (ok : CalOk (bs ++ List.replicate k.toNat 0) ds)
    (e3 : σ[3]? = some (some (.ref Bn))) (e4 : σ[4]? = some (some (.ref Dl))) (ei : σ[i]? = some (some (.int k))) (q : PairQ K a H0 D.rt) :
    tRet (tTupD (tCons (tOp rCatD (tCB (tTupOf K) (tCons (tVar 3) tNil)) (tOp rRepD (tTupD (tCons (tC (.int 0)) tNil)) (tVar i))) (tCons (tCB (tTupOf K) (tCons (tVar 4) tNil)) tNil))) D σ H := by
  have n12 := ok.n12
  have m11 := ok.m11
  rw [List.length_append, List.length_replicate] at n12
  refine ⟨_, e3, Bn, _, rfl, SqL.of c.hb, fun b1 H1 s1 d1 => ⟨(by show 1 ≤ sizeLine; decide), fun z H2 s2 dz => ⟨_, ei, z, k, _, rfl, rfl, dz, by omega, by omega, (by show 1 ≤ 1000; decide), fun y H3 s3 dy => ?_⟩⟩⟩
  have s13 := (s1.trans s2).trans s3
  refine ⟨b1, y, _, _, rfl, rfl, d1.same (s2.trans s3), dy, ?_, fun b H4 s4 db => ?_⟩
  · rw [rep0]
    simp
    exact Nat.le_trans (show _ ≤ 12 by omega) (by decide)
  refine ⟨_, e4, Dl, _, rfl, SqL.of ((s13.trans s4) _ _ c.hd), fun d H5 s5 dd => ⟨(by show 2 ≤ sizeLine; decide), fun t H6 s6 dt => ?_⟩⟩
  have s := ((s13.trans s4).trans s5).trans s6
  have st : Stay a H0 H6 := c.st.same s
  rw [rep0, ← List.map_append] at db
  exact q t b d _ ds H6 st (TK.stay hs st) dt.sq (db.same (s5.trans s6)) ⟨qs, dd.same s6, c.len, fun i q ps h1 h2 => (c.tup i q ps h1 h2).same s⟩ ok
theorem ca_levelled (B : Bl mg) (c_law_take : Ca P w K mg base 1 "_law_take" s_law_take ["_law_source", "_law_top"] spTake) (c_law_one : Ca P w K mg base 2 "_law_one" s_law_one ["_law_source", "_law_things"] spOne)
    (U : Up K mg "_law_levelled" s_law_levelled) : Ca P w K mg base 3 "_law_levelled" s_law_levelled ["_law_source"] (spDrawn K) := by
  refine ca0 U sc_law_levelled (fun vs H Q E h => by obtain ⟨a, rfl, _⟩ := h; rfl) fun f cdv A outer s H vs Q E hr h => ?_
  obtain ⟨a, rfl, hs, q⟩ := h
  refine ⟨_, (pss_cons (ps_par (i := 1) (j := 2) (by rfl) sc_law_levelled.nd rfl rfl (by decide) rfl rfl (pa_cons (pe_ca c_law_one b_law_one hr ps0 (pa_cons (pv 0) (pa_cons (pe_lst (pa_cons pe_int (pa_cons pe_int (pa_cons pe_int (pa_cons pe_int pa_nil))))) pa_nil))) (pa_cons pe_int pa_nil)) (by rfl))
      (pss_cons (ps_par (i := 3) (j := 4) (by rfl) sc_law_levelled.nd rfl rfl (by decide) rfl rfl (pa_cons (pe_lst pa_nil) (pa_cons (pe_lst pa_nil) pa_nil)) (by rfl))
      (pss_cons (ps_for PassesOwn.never rfl (pi_range1 (by rfl) B.range (pa_cons (pe_ca c_law_one b_law_one hr ps0 (pa_cons (pv 0) (pa_cons (pe_lst (pa_cons pe_int (pa_cons pe_int (pa_cons pe_int pa_nil)))) pa_nil))) pa_nil)) (pg_name (i := 5) sc_law_levelled.nd rfl (Or.inl rfl))
      (pss_cons (ps_set (i := 4) sc_law_levelled.nd rfl (Or.inl rfl) (pe_op op_cat (pe_lst (pa_cons (pe_op op_repD (pe_tupD (pa_cons (pv 1) pa_nil)) (pv 2)) pa_nil)) (pv 4)))
      (pss_cons (ps_set (i := 6) sc_law_levelled.nd rfl (Or.inl rfl) (pe_op op_mul (pv 2) (pv 1)))
      (Evl.pss_cut (ps_set (i := 7) sc_law_levelled.nd rfl (Or.inl rfl) (pe_ifExp (PW.pt (pw_and (pt_cmpR op_lt (pv 5) pe_int (nomark _)) (pw_and1 (pt_cmpR op_gt (pe_op op_fdiv (pe_op op_sub pe_int (pe_callB (call_lenK K rfl) (by rfl) B.len (by decide +kernel) (pa_cons (pv 3) pa_nil))) (pv 1)) (pv 2) (nomark _))))) (pe_ca c_law_take b_law_take hr ps0 (pa_cons (pv 0) (pa_cons (pe_callB (call_min2 rfl) (by rfl) B.min (by decide +kernel) (pa_cons (pv 6) (pa_cons (pe_op op_add (pe_op op_sub (pe_op op_fdiv (pe_op op_sub pe_int (pe_callB (call_lenK K rfl) (by rfl) B.len (by decide +kernel) (pa_cons (pv 3) pa_nil))) (pv 1)) (pv 2)) pe_int) pa_nil))) pa_nil))) pe_int))
      (pss_cons (ps_set (i := 3) sc_law_levelled.nd rfl (Or.inl rfl) (pe_op op_cat (pe_lc (own := [("_law_birth", 8)]) (g := (gName 8)) (by rfl) sc_law_levelled.nd (pi_list (pv 3)) (blkOk_by (N := N_law_levelled) (own := [("_law_birth", 8)]) (sc := defScope s_law_levelled) (by decide +kernel)) (fun _ _ _ _ _ => pg_name (i := 8) sc_law_levelled.nd rfl (Or.inl rfl)) (fun _ _ _ _ _ => pts_nil) (fun _ _ _ _ _ => (pe_op op_add (pv 8) pe_int))) (pe_op op_rep (pe_lst (pa_cons pe_int pa_nil)) (pe_op op_sub (pv 6) (pv 7)))))
      (pss_cons (ps_if (PW.pt (pw_or (pt_cmpR op_eq (pv 7) pe_int (nomark _)) (pw_or1 (pt_cmpR op_gt (pe_op op_add (pe_callB (call_lenK K rfl) (by rfl) B.len (by decide +kernel) (pa_cons (pv 3) pa_nil)) (pe_op op_mul (pv 7) (pv 1))) pe_int (nomark _))))) (pss_one (ps_ret (pe_tupD (pa_cons (pe_op op_catD (pe_callTy call_tuple_D (by rfl) B.tuple (by decide +kernel) (pa_cons (pv 3) pa_nil)) (pe_op op_repD (pe_tupD (pa_cons pe_int pa_nil)) (pv 7))) (pa_cons (pe_callTy call_tuple_D (by rfl) B.tuple (by decide +kernel) (pa_cons (pv 4) pa_nil)) pa_nil)))))
      pss_nil)
      (pss_one (ps_set (i := 2) sc_law_levelled.nd rfl (Or.inl rfl) (pv 7)))))))))
      (pss_one (ps_ret (pe_tupD (pa_cons (pe_op op_catD (pe_callTy call_tuple_D (by rfl) B.tuple (by decide +kernel) (pa_cons (pv 3) pa_nil)) (pe_op op_repD (pe_tupD (pa_cons pe_int pa_nil)) (pv 2))) (pa_cons (pe_callTy call_tuple_D (by rfl) B.tuple (by decide +kernel) (pa_cons (pv 4) pa_nil)) pa_nil)))))))), ?_⟩
  refine ⟨_, rfl, (by show 4 ≤ sizeLine; decide), fun l hl => ⟨a, l, _, rfl, hs.same (Same.new hl), upd_same, hs.ne_none hl, by decide, by decide, fun v H1 hv st1 => ?_⟩⟩
  have hv2 : ∃ r : Int, v = .int r ∧ 2 ≤ r ∧ r ≤ 4 := by
    simp at hv
    rcases hv with rfl | rfl | rfl
    · exact ⟨2, rfl, by decide, by decide⟩
    · exact ⟨3, rfl, by decide, by decide⟩
    · exact ⟨4, rfl, by decide, by decide⟩
  obtain ⟨r, rfl, r2, r4⟩ := hv2
  have st1 := (Stay.of_same hs (Same.new hl)).trans st1
  refine ⟨_, _, rfl, Nat.zero_le _, fun Bn hBn => ⟨Nat.zero_le _, fun Dl hDl => ⟨_, _, rfl, ?_⟩⟩⟩
  refine ⟨_, rfl, (by show 3 ≤ sizeLine; decide), fun l2 hl2 => ?_⟩
  have st2 : Stay a H (upd (upd H1 Bn (.lst [])) Dl (.lst [])) := (st1.same (Same.new hBn)).same (Same.new hDl)
  refine ⟨a, l2, _, rfl, st2.1.same (Same.new hl2), upd_same, st2.1.ne_none hl2, by decide, by decide, fun v H2 hv st3 => ?_⟩
  have hv2 : ∃ m : Int, v = .int m ∧ 1 ≤ m ∧ m ≤ 3 := by
    simp at hv
    rcases hv with rfl | rfl | rfl
    · exact ⟨1, rfl, by decide, by decide⟩
    · exact ⟨2, rfl, by decide, by decide⟩
    · exact ⟨3, rfl, by decide, by decide⟩
  obtain ⟨m, rfl, m1, m3⟩ := hv2
  have hBD : Bn ≠ Dl := fun z => by
    rw [← z, upd_same] at hDl
    cases hDl
  have st3o := st3
  have st3 := (st2.same (Same.new hl2)).trans st3
  have nB : Bn ≠ a := st1.1.ne_none hBn
  have nD : Dl ≠ a := (st1.same (Same.new hBn)).1.ne_none hDl
  refine ⟨m, rfl, by omega, by omega, for_range (lo := 0) (n := m.toNat) (fun i σ H' => ∃ (g : Int) (Bn Dl : Addr) (bs : List Int) (ds : List (List Int)) (qs : List Addr) (x5 x6 x7 : Option V), σ = [some (.ref a), some (.int r), some (.int g), some (.ref Bn), some (.ref Dl), x5, x6, x7, none] ∧
    LevSt a H Bn Dl bs ds qs H' ∧ LevOk r g bs ds ∧ ds.length = i) ⟨1, Bn, Dl, [], [], [], none, none, none, rfl, ?_, LevOk.start r4, rfl⟩ ?_ ?_⟩
  · exact ⟨st3, nB, nD, st3o.2 _ _ nB (Same.new hl2 _ _ (Same.new hDl _ _ upd_same)), st3o.2 _ _ nD (Same.new hl2 _ _ upd_same), rfl, fun i q ps h => by cases h⟩
  · rintro i σ H3 hi ⟨g, Bn, Dl, bs, ds, qs, x5, x6, x7, rfl, c, lv, hl⟩
    have g1 := lv.g1
    have room := lv.room
    have hgr : g * 2 ≤ g * r := Int.mul_le_mul_of_nonneg_left r2 (by omega)
    have hbl : (bs.map V.int).length = bs.length := by simp
    have hql : (qs.map V.ref).length = ds.length := by simp [c.len]
    refine ⟨_, rfl, (by show 1 ≤ sizeLine; decide), fun u H4 s4 du => ⟨_, rfl, u, g, _, rfl, rfl, du, by omega, by omega, (by show 1 ≤ 1000; decide), fun p H5 s5 dp => ⟨(by show 1 ≤ sizeLine; decide), fun d1 hd1 => ⟨_, rfl, d1, Dl, _, _, rfl, rfl, upd_same, Same.new hd1 _ _ ((s4.trans s5) _ _ c.hd), ?_, fun d2 hd2 => ?_⟩⟩⟩⟩
    · rw [hql]
      exact Nat.le_trans (show _ ≤ 100 by simp; omega) (by decide)
    have sd := ((s4.trans s5).trans (Same.new (o := .lst [.ref p]) hd1)).trans (Same.new (o := .lst ([.ref p] ++ qs.map V.ref)) hd2)
    rw [repA] at dp
    have c2 : LevSt a H Bn d2 bs (List.replicate g.toNat r :: ds) (p :: qs) (upd (upd H5 d1 (.lst [.ref p])) d2 (.lst ([.ref p] ++ qs.map V.ref))) := by
      have c1 := c.same sd
      refine ⟨c1.st, c1.ba, (c.same ((s4.trans s5).trans (Same.new (o := .lst [.ref p]) hd1))).st.1.ne_none hd2, c1.hb, upd_same, by simp [c.len], fun i q ps h1 h2 => ?_⟩
      cases i with
      | zero =>
        cases h1
        cases h2
        rw [List.map_replicate]
        exact (dp.same (Same.new hd1)).same (Same.new hd2)
      | succ i => exact c1.tup i q ps h1 h2
    generalize upd (upd H5 d1 (.lst [.ref p])) d2 (.lst ([.ref p] ++ qs.map V.ref)) = H6 at c2
    refine ⟨_, rfl, _, rfl, _, _, rfl, rfl, .inl ⟨by omega, by omega⟩, fun σ' H' => ∃ (b : Int) (x5 : Option V), σ' = [some (.ref a), some (.int r), some (.int g), some (.ref Bn), some (.ref d2), x5, some (.int (g * r)), some (.int b), none] ∧ 0 ≤ b ∧ b ≤ g * r ∧ LevSt a H Bn d2 bs (List.replicate g.toNat r :: ds) (p :: qs) H', ?_, ?_⟩
    · refine ⟨_, rfl, _, _, rfl, rfl, _, rfl, ?_⟩
      refine ite2 (fun h1 => ?_) (fun h1 => ?_)
      · refine ⟨_, rfl, Bn, _, rfl, .inl (SqL.of c2.hb), _, _, rfl, rfl, _, rfl, _, _, rfl, rfl, ⟨by omega, by omega⟩, _, rfl, _, _, rfl, rfl, _, rfl, ?_⟩
        refine ite2 (fun h2 => ?_) (fun h2 => ?_)
        · have h2' := of_decide_eq_true h2
          generalize hq : (12 - (((bs.map V.int).length : Nat) : Int)) / r = m2 at h2'
          refine ⟨_, rfl, _, rfl, _, rfl, Bn, _, rfl, .inl (SqL.of c2.hb), _, _, rfl, rfl, _, rfl, _, _, rfl, rfl, ⟨by omega, by omega⟩, _, rfl, _, _, rfl, rfl, _, _, rfl, rfl, _, _, rfl, a, _, rfl, c2.st.1, ?_, ?_, fun v H7 v0 v1 st7 => ⟨v, _, rfl, v0, ?_, c2.stay st7⟩⟩
          · rw [hq]
            split <;> omega
          · rw [hq]
            split <;> omega
          · rw [hq] at v1
            split at v1 <;> omega
        · exact ⟨0, _, rfl, by omega, by omega, c2⟩
      · exact ⟨0, _, rfl, by omega, by omega, c2⟩
    · rintro σ' H7 ⟨b, x5', rfl, b0, b1, c3⟩
      refine ⟨_, rfl, Bn, rfl, ⟨_, SqL.of c3.hb⟩, fun D hD => lc_it (walk_list (xs := bs.map V.int)) (Cw H7 (fun _ => true) (fun j => V.int (bs.getD j 0 + 1)) D) (cw0 hD) (fun i H' _ p => SqL.of (p.2.1 _ _ c3.hb)) ?_ ?_⟩
      · rintro j x H' H'' hj p ⟨rfl, hx⟩
        obtain ⟨z, hz, rfl⟩ := map_of hx
        have hj' : j < bs.length := by simpa using hj
        exact ⟨rfl, _, rfl, _, _, rfl, rfl, cwY p (Same.refl _) (by omega) rfl (by rw [getD_of hz])⟩
      · rintro H8 ⟨p1, p2, p3⟩
        have e := givn_all bs 0 (fun x => V.int (x + 1))
        rw [hbl, e] at p3
        have e2 : bs.map (fun x => V.int (x + 1)) = (bs.map (· + 1)).map V.int := by rw [List.map_map]; rfl
        rw [e2] at p3
        refine ⟨(by show 1 ≤ sizeLine; decide), fun z hz => ⟨_, rfl, _, rfl, _, _, rfl, rfl, z, g * r - b, _, rfl, rfl, upd_same, by omega, by omega, ?_, fun z2 hz2 => ⟨D, z2, _, _, rfl, rfl, Same.new hz2 _ _ (Same.new hz _ _ p3), upd_same, ?_, fun b2 hb2 => ?_⟩⟩⟩
        · exact Nat.le_trans (show _ ≤ 12 by simp; omega) (by decide)
        · rw [rep0]
          exact Nat.le_trans (show _ ≤ 100 by simp; omega) (by decide)
        have c4 : LevSt a H b2 d2 (bs.map (· + 1) ++ List.replicate (g * r - b).toNat 0) (List.replicate g.toNat r :: ds) (p :: qs) (upd (upd (upd H8 z (.lst [.int 0])) z2 (.lst (List.replicate (g * r - b).toNat [V.int 0]).flatten)) b2 (.lst ((bs.map (· + 1)).map V.int ++ (List.replicate (g * r - b).toNat [V.int 0]).flatten))) := by
          have c5 := ((c3.same p2).same (Same.new (o := .lst [.int 0]) hz)).same (Same.new (o := .lst (List.replicate (g * r - b).toNat [V.int 0]).flatten) hz2)
          have c6 := c5.same (Same.new (o := .lst ((bs.map (· + 1)).map V.int ++ (List.replicate (g * r - b).toNat [V.int 0]).flatten)) hb2)
          exact ⟨c6.st, c5.st.1.ne_none hb2, c6.da, by rw [upd_same, rep0, ← List.map_append], c6.hd, c6.len, c6.tup⟩
        generalize upd (upd (upd H8 z (.lst [.int 0])) z2 (.lst (List.replicate (g * r - b).toNat [V.int 0]).flatten)) b2 (.lst ((bs.map (· + 1)).map V.int ++ (List.replicate (g * r - b).toNat [V.int 0]).flatten)) = H9 at c4
        have hcut := lv.cut r2 b0 (show 0 ≤ g * r - b by omega) (by omega) (by omega)
        have fin := fun (x5 : Option V) => lev_ret (K := K) (i := 7) (σ := [some (.ref a), some (.int r), some (.int g), some (.ref b2), some (.ref d2), x5, some (.int (g * r)), some (.int b), none]) (D := { nx := fun _ H' => Q .non H', rt := Q }) c4 hs b0 hcut rfl rfl rfl q
        refine ⟨_, rfl, rfl, _, rfl, ?_⟩
        refine ite2 (fun h1 => ?_) (fun h1 => ?_)
        · exact iteT (fin x5')
        · refine ⟨_, rfl, b2, _, rfl, .inl (SqL.of c4.hb), _, rfl, _, rfl, _, _, rfl, rfl, .inl ⟨by omega, by omega⟩, _, _, rfl, rfl, _, _, rfl, rfl, _, rfl, ?_⟩
          refine ite2 (fun h2 => ?_) (fun h2 => ?_)
          · exact fin x5'
          · refine ⟨_, rfl, b, b2, d2, _, _, _, _, _, _, rfl, c4, lv.next r2 ?_ (by omega) (by omega) ?_, by simp [hl]⟩
            · have : ¬ b = 0 := by simpa using h1
              omega
            · rw [List.length_map] at h2
              simp at h2 ⊢
              omega
  · rintro σ H3 ⟨g, Bn, Dl, bs, ds, qs, x5, x6, x7, rfl, c, lv, hl⟩
    exact lev_ret c hs (by have := lv.g1; omega) (lv.fin r2 (by omega)) rfl rfl rfl q
end
end DK
set_option Elab.async false
set_option linter.all false
set_option maxRecDepth 100000
set_option maxHeartbeats 4000000
namespace DK
open PySem PySem.Spec PyProof.Rows L2 RZ DL
abbrev s_law_drawn : Stmt := topS 43
abbrev N_law_drawn : List Str := ["_law_source", "_law_way", "_law_n", "_law_r"]
theorem sc_law_drawn : FnScope N_law_drawn ["_law_source"] (defScope s_law_drawn) := ⟨rfl, rfl, rfl, by decide +kernel, rfl, by decide +kernel, by decide +kernel⟩
theorem b_law_drawn : BindOk "_law_drawn" s_law_drawn ["_law_source"] := fun _ _ _ _ _ _ us hl => match us, hl with | [_], _ => rfl

abbrev s_law_changed : Stmt := topS 44
abbrev N_law_changed : List Str := ["_law_source", "_law_born", "_law_days", "_law_way", "_law_at", "_law_counts_here", "_law_birth", "_law_d"]
theorem sc_law_changed : FnScope N_law_changed ["_law_source", "_law_born", "_law_days"] (defScope s_law_changed) := ⟨rfl, rfl, rfl, by decide +kernel, rfl, by decide +kernel, by decide +kernel⟩
theorem b_law_changed : BindOk "_law_changed" s_law_changed ["_law_source", "_law_born", "_law_days"] := fun _ _ _ _ _ _ us hl => match us, hl with | [_, _, _], _ => rfl

section
variable {P : Program} {w : World} {K : PySem.W.Frag} {mg : Str → Option Value} {base : Heap} {C f0 fC CM fR CS fP fS : Addr}
theorem ca_drawn (B : Bl mg) (c_law_take : Ca P w K mg base 1 "_law_take" s_law_take ["_law_source", "_law_top"] spTake) (c_law_levelled : Ca P w K mg base 3 "_law_levelled" s_law_levelled ["_law_source"] (spDrawn K)) (c_law_calendar : Ca P w K mg base 3 "_law_calendar" s_law_calendar ["_law_source", "_law_menu"] (spCalendar K))
    (U : Up K mg "_law_drawn" s_law_drawn) : Ca P w K mg base 4 "_law_drawn" s_law_drawn ["_law_source"] (spDrawn K) := by
  refine ca0 U sc_law_drawn (fun vs H Q E h => by obtain ⟨a, rfl, _⟩ := h; rfl) fun f cdv A outer s H vs Q E hr h => ?_
  obtain ⟨a, rfl, hs, q⟩ := h
  refine ⟨_, (pss_cons (ps_set (i := 1) sc_law_drawn.nd rfl (Or.inl rfl) (pe_ca c_law_take b_law_take hr ps0 (pa_cons (pv 0) (pa_cons pe_int pa_nil))))
      (pss_cons (ps_if (pt_cmpR op_eq (pv 1) pe_int (nomark _)) (pss_cons (ps_set (i := 2) sc_law_drawn.nd rfl (Or.inl rfl) (pe_op op_add pe_int (pe_ca c_law_take b_law_take hr ps0 (pa_cons (pv 0) (pa_cons pe_int pa_nil)))))
      (pss_one (ps_ret (pe_tupD (pa_cons (pe_op op_repD (pe_tupD (pa_cons pe_int pa_nil)) (pv 2)) (pa_cons (pe_op op_repD (pe_tupD (pa_cons (pe_tupD (pa_cons pe_int pa_nil)) pa_nil)) (pe_op op_sub (pv 2) pe_int)) pa_nil))))))
      pss_nil)
      (pss_cons (ps_if (pt_cmpR op_lt (pv 1) pe_int (nomark _)) (pss_one (ps_ret (pe_ca c_law_levelled b_law_levelled hr ps0 (pa_cons (pv 0) pa_nil))))
      pss_nil)
      (pss_cons (ps_if (pt_cmpR op_eq (pv 1) pe_int (nomark _)) (pss_cons (ps_set (i := 3) sc_law_drawn.nd rfl (Or.inl rfl) (pe_op op_add pe_int (pe_ca c_law_take b_law_take hr ps0 (pa_cons (pv 0) (pa_cons pe_int pa_nil)))))
      (pss_one (ps_ret (pe_tupD (pa_cons (pe_op op_repD (pe_tupD (pa_cons pe_int pa_nil)) (pv 3)) (pa_cons (pe_tupD (pa_cons (pe_tupD (pa_cons (pv 3) pa_nil)) pa_nil)) pa_nil))))))
      pss_nil)
      (pss_one (ps_ret (pe_ca c_law_calendar b_law_calendar hr ps0 (pa_cons (pv 0) (pa_cons (pe_lst (pa_cons pe_int (pa_cons pe_int (pa_cons pe_int (pa_cons pe_int (pa_cons pe_int (pa_cons pe_int pa_nil))))))) pa_nil))))))))), ?_⟩
  refine ⟨_, rfl, a, 5, rfl, hs, by decide, by decide, fun way H1 w0 w1 st1 => ?_⟩
  refine ⟨_, rfl, rfl, _, rfl, ?_⟩
  refine ite2 (fun h1 => ?_) (fun h1 => ?_)
  · refine ⟨_, rfl, a, 12, rfl, st1.1, by decide, by decide, fun v H2 v0 v1 st2 => ⟨_, _, rfl, rfl, ?_⟩⟩
    have st := st1.trans st2
    have ok := cal_plain (n := 1 + v) (by omega) (by omega)
    refine ⟨(by show 1 ≤ sizeLine; decide), fun a1 H3 s3 d1 => ⟨_, rfl, a1, 1 + v, _, rfl, rfl, d1, by omega, by omega, (by show 1 ≤ 1000; decide), fun b H4 s4 db => ?_⟩⟩
    refine ⟨(by show 1 ≤ sizeLine; decide), fun a2 H5 s5 d2 => ⟨(by show 1 ≤ sizeLine; decide), fun a3 H6 s6 d3 => ⟨_, rfl, _, _, rfl, rfl, a3, 1 + v - 1, _, rfl, rfl, d3, by omega, by omega, (by show 1 ≤ 1000; decide), fun dd H7 s7 hdd => ?_⟩⟩⟩
    refine ⟨(by show 2 ≤ sizeLine; decide), fun t H8 s8 dt => ?_⟩
    have s38 := ((((s3.trans s4).trans s5).trans s6).trans s7).trans s8
    rw [rep0] at db
    rw [repA] at hdd
    have st' := st.same s38
    refine q t b dd _ _ H8 st' (TK.stay hs st') dt.sq (db.same (((s5.trans s6).trans s7).trans s8)) ⟨List.replicate (1 + v - 1).toNat a2, ?_, by simp [twosL], fun i r ns h1 h2 => ?_⟩ ok
    · rw [List.map_replicate]
      exact hdd.same s8
    · have e1 := List.eq_of_mem_replicate (List.mem_of_getElem? h1)
      have e2 := List.eq_of_mem_replicate (List.mem_of_getElem? h2)
      rw [e1, e2]
      exact d2.same ((s6.trans s7).trans s8)
  · refine ⟨_, rfl, _, _, rfl, rfl, _, rfl, ?_⟩
    refine ite2 (fun h2 => ?_) (fun h2 => ?_)
    · exact ⟨_, rfl, a, rfl, st1.1, fun t b d bs ds H' st tk ht hb hd ok => q t b d bs ds H' (st1.trans st) ((TK.stay hs st1).trans tk) ht hb hd ok⟩
    · refine ⟨_, rfl, rfl, _, rfl, ?_⟩
      refine ite2 (fun h3 => ?_) (fun h3 => ?_)
      · refine ⟨_, rfl, a, 11, rfl, st1.1, by decide, by decide, fun v H2 v0 v1 st2 => ⟨_, _, rfl, rfl, ?_⟩⟩
        have st := st1.trans st2
        have ok := cal_star (n := 2 + v) (by omega) (by omega)
        refine ⟨(by show 1 ≤ sizeLine; decide), fun a1 H3 s3 d1 => ⟨_, rfl, a1, 2 + v, _, rfl, rfl, d1, by omega, by omega, (by show 1 ≤ 1000; decide), fun b H4 s4 db => ?_⟩⟩
        refine ⟨_, rfl, (by show 1 ≤ sizeLine; decide), fun a2 H5 s5 d2 => ⟨(by show 1 ≤ sizeLine; decide), fun dd H6 s6 hdd => ?_⟩⟩
        refine ⟨(by show 2 ≤ sizeLine; decide), fun t H8 s8 dt => ?_⟩
        have s38 := (((s3.trans s4).trans s5).trans s6).trans s8
        rw [rep0] at db
        have st' := st.same s38
        exact q t b dd _ _ H8 st' (TK.stay hs st') dt.sq (db.same ((s5.trans s6).trans s8)) ((RowsD.one (ns := [2 + v]) (d2.same (s6.trans s8))).td (hdd.same s8)) ok
      · exact ⟨_, rfl, (by show 6 ≤ sizeLine; decide), fun l hl => ⟨a, l, [3, 4, 2, 5, 1, 6], rfl, st1.1.same (Same.new hl), upd_same, st1.1.ne_none hl, by decide, by decide, by decide, fun t b d bs ds H' st tk ht hb hd ok => q t b d bs ds H' ((st1.same (Same.new hl)).trans st) ((TK.stay hs (st1.same (Same.new hl))).trans tk) (SqT.of ht) hb hd ok⟩⟩
end
end DK
set_option Elab.async false
set_option linter.all false
set_option maxRecDepth 100000
set_option maxHeartbeats 4000000
namespace DK
open PySem PySem.Spec PyProof.Rows L2 RZ DL
section
variable {P : Program} {w : World} {K : PySem.W.Frag} {mg : Str → Option Value} {base : Heap} {C f0 fC CM fR CS fP fS : Addr}
def spChanged (K : PySem.W.Frag) : Sp := fun vs H Q _ => ∃ (a b dd : Addr) (bs : List Int) (ds : List (List Int)), vs = [.ref a, .ref b, .ref dd] ∧ Src a H ∧ TupD H b (bs.map V.int) ∧ TupTD H dd ds ∧ CalOk bs ds ∧ PairQ K a H Q
theorem cut_fromS (xs : List V) (k : Nat) : cutV xs (some ((k : Int) + 1)) none = xs.drop (k + 1) := by
  rw [← cut_from]
  rfl
theorem rough_days {bs : List Int} {ds ds' : List (List Int)} (ok : CalOk bs ds) (hl : ds'.length ≤ 12) (hm : ∀ p ∈ ds', p ∈ ds ∨ p ∈ ([[2], [3], [2, 2]] : List (List Int))) : Rough bs ds' := by
  refine ⟨ok.n1, ok.n12, hl, fun p hp => ?_, fun b hb => (ok.born b hb).1⟩
  rcases hm p hp with h | h
  · exact ok.pat p h
  · simp at h
    rcases h with rfl | rfl | rfl <;> exact ⟨by decide, by decide, by decide⟩
theorem rough_born {bs bs' : List Int} {ds : List (List Int)} (ok : CalOk bs ds) (h1 : 1 ≤ bs'.length) (h2 : bs'.length ≤ 12) (hm : ∀ b ∈ bs', b ∈ bs ∨ 0 ≤ b) : Rough bs' ds := by
  refine ⟨h1, h2, by have := ok.m11; omega, ok.pat, fun b hb => ?_⟩
  rcases hm b hb with h | h
  · exact (ok.born b h).1
  · exact h
theorem sz (n : Nat) (h : n ≤ 100) : n ≤ sizeLine := Nat.le_trans h (by decide)
theorem ca_changed (B : Bl mg) (c_law_take : Ca P w K mg base 1 "_law_take" s_law_take ["_law_source", "_law_top"] spTake) (c_law_one : Ca P w K mg base 2 "_law_one" s_law_one ["_law_source", "_law_things"] spOne)
    (c_law_counts : Ca P w K mg base 1 "_law_counts" s_law_counts ["_law_born", "_law_days"] (spCounts K))
    (U : Up K mg "_law_changed" s_law_changed) : Ca P w K mg base 3 "_law_changed" s_law_changed ["_law_source", "_law_born", "_law_days"] (spChanged K) := by
  refine ca0 U sc_law_changed (fun vs H Q E h => by obtain ⟨a, b, dd, bs, ds, rfl, _⟩ := h; rfl) fun f cdv A outer s H vs Q E hr h => ?_
  obtain ⟨a, b, dd, bs, ds, rfl, hs, hb, hd, ok, q⟩ := h
  obtain ⟨qs, hdt, hrow⟩ := hd.rows
  have hu64 := hr.units
  have n1 := ok.n1
  have n12 := ok.n12
  have m11 := ok.m11
  have hql : (qs.map V.ref).length = ds.length := by simp [hrow.1]
  have hbl : (bs.map V.int).length = bs.length := by simp
  refine ⟨_, (pss_cons (ps_par (i := 3) (j := 4) (by rfl) sc_law_changed.nd rfl rfl (by decide) rfl rfl (pa_cons (pe_ca c_law_take b_law_take hr ps0 (pa_cons (pv 0) (pa_cons pe_int pa_nil))) (pa_cons (pe_ca c_law_take b_law_take hr ps0 (pa_cons (pv 0) (pa_cons (pe_op op_add (pe_callB (call_lenK K rfl) (by rfl) B.len (by decide +kernel) (pa_cons (pv 2) pa_nil)) pe_int) pa_nil))) pa_nil)) (by rfl))
      (Evl.pss_cut (ps_if (pt_cmpR op_eq (pv 3) pe_int (nomark _)) (pss_one (ps_set (i := 2) sc_law_changed.nd rfl (Or.inr rfl) (pe_op op_catD (pe_slice sl_tupD (pv 2) po_none (po_some (pv 4))) (pe_slice sl_tupD (pv 2) (po_some (pe_op op_add (pv 4) pe_int)) po_none))))
      (pss_one (ps_if (pt_cmpR op_eq (pv 3) pe_int (nomark _)) (pss_one (ps_set (i := 2) sc_law_changed.nd rfl (Or.inr rfl) (pe_op op_catD (pe_op op_catD (pe_slice sl_tupD (pv 2) po_none (po_some (pv 4))) (pe_tupD (pa_cons (pe_ca c_law_one b_law_one hr ps0 (pa_cons (pv 0) (pa_cons (pe_lst (pa_cons (pe_tupD (pa_cons pe_int pa_nil)) (pa_cons (pe_tupD (pa_cons pe_int pa_nil)) (pa_cons (pe_tupD (pa_cons pe_int (pa_cons pe_int pa_nil))) pa_nil)))) pa_nil))) pa_nil))) (pe_slice sl_tupD (pv 2) (po_some (pe_op op_add (pv 4) pe_int)) po_none))))
      (pss_one (ps_if (pt_cmpR op_eq (pv 3) pe_int (nomark _)) (pss_cons (ps_set (i := 4) sc_law_changed.nd rfl (Or.inl rfl) (pe_ca c_law_take b_law_take hr ps0 (pa_cons (pv 0) (pa_cons (pe_callB (call_lenK K rfl) (by rfl) B.len (by decide +kernel) (pa_cons (pv 1) pa_nil)) pa_nil))))
      (pss_one (ps_set (i := 1) sc_law_changed.nd rfl (Or.inl rfl) (pe_op op_catD (pe_op op_catD (pe_slice sl_tupD (pv 1) po_none (po_some (pv 4))) (pe_tupD (pa_cons (pe_ca c_law_take b_law_take hr ps0 (pa_cons (pv 0) (pa_cons (pe_op op_add (pe_callB (call_lenK K rfl) (by rfl) B.len (by decide +kernel) (pa_cons (pv 2) pa_nil)) pe_int) pa_nil))) pa_nil))) (pe_slice sl_tupD (pv 1) (po_some (pe_op op_add (pv 4) pe_int)) po_none)))))
      (pss_one (ps_set (i := 1) sc_law_changed.nd rfl (Or.inl rfl) (pe_slice sl_tupD (pe_op op_catD (pv 1) (pe_tupD (pa_cons (pe_ca c_law_take b_law_take hr ps0 (pa_cons (pv 0) (pa_cons (pe_op op_add (pe_callB (call_lenK K rfl) (by rfl) B.len (by decide +kernel) (pa_cons (pv 2) pa_nil)) pe_int) pa_nil))) pa_nil))) po_none (po_some pe_int)))))))))
      (pss_cons (ps_set (i := 1) sc_law_changed.nd rfl (Or.inl rfl) (pe_callTy call_tuple_D (by rfl) B.tuple (by decide +kernel) (pa_cons (pe_lc (own := [("_law_birth", 6)]) (g := (gName 6)) (by rfl) sc_law_changed.nd (pi_tup (pv 1)) (blkOk_by (N := N_law_changed) (own := [("_law_birth", 6)]) (sc := defScope s_law_changed) (by decide +kernel)) (fun _ _ _ _ _ => pg_name (i := 6) sc_law_changed.nd rfl (Or.inl rfl)) (fun _ _ _ _ _ => pts_nil) (fun _ _ _ _ _ => (pe_callB (call_min2 rfl) (by rfl) B.min (by decide +kernel) (pa_cons (pv 6) (pa_cons (pe_callB (call_lenK K rfl) (by rfl) B.len (by decide +kernel) (pa_cons (pv 2) pa_nil)) pa_nil))))) pa_nil)))
      (pss_cons (ps_set (i := 5) sc_law_changed.nd rfl (Or.inr rfl) (pe_ca c_law_counts b_law_counts hr ps0 (pa_cons (pv 1) (pa_cons (pv 2) pa_nil))))
      (pss_one (ps_ret (pe_ifExp (PW.pt (pw_and (pt_cmpR op_lt (pe_callB (call_lenK K rfl) (by rfl) B.len (by decide +kernel) (pa_cons (pv 2) pa_nil)) pe_int (nomark _)) (pw_and1 (pt_cmpR (op_eqDK K rfl hu64) (pe_lc (own := [("_law_d", 7)]) (g := (gName 7)) (by rfl) sc_law_changed.nd (pi_range1 (by rfl) B.range (pa_cons (pe_callB (call_lenK K rfl) (by rfl) B.len (by decide +kernel) (pa_cons (pv 2) pa_nil)) pa_nil)) (blkOk_by (N := N_law_changed) (own := [("_law_d", 7)]) (sc := defScope s_law_changed) (by decide +kernel)) (fun _ _ _ _ _ => pg_name (i := 7) sc_law_changed.nd rfl (Or.inl rfl)) (fun _ _ _ _ _ => (pts_one (pt_cmpR op_gt (pe_callB (cr_sumTK K rfl rfl) (by rfl) B.sum (by decide +kernel) (pa_cons (pe_ix (ix_tupK K rfl) (pv 2) (pv 7) (fun _ _ => rfl)) pa_nil)) (pe_ix (ix_listK K rfl) (pv 5) (pv 7) (fun _ _ => rfl)) (nomark _)))) (fun _ _ _ _ _ => (pv 7))) (pe_lst pa_nil) (nomark _))))) (pe_tupD (pa_cons (pv 1) (pa_cons (pv 2) pa_nil))) (pe_tupD (pa_cons (pe_tupD (pa_cons pe_int pa_nil)) (pa_cons (pe_tupD pa_nil) pa_nil)))))))))), ?_⟩
  refine ⟨_, rfl, a, 4, rfl, hs, by decide, by decide, fun way H1 w0 w1 st1 => ?_⟩
  have hs1 := st1.1
  have tk1 := TK.stay hs st1
  refine ⟨_, rfl, _, rfl, dd, _, rfl, .inr (hdt.tk tk1).sq, _, _, rfl, rfl, a, _, rfl, hs1, by omega, by omega, fun at0 H2 a0 a1 st2 => ⟨_, _, rfl, ?_⟩⟩
  have st12 := st1.trans st2
  have tk2 := TK.stay hs st12
  have hs2 := st2.1
  have hb2 := hb.tk tk2
  have hdt2 := hdt.tk tk2
  have hrow2 := hrow.tk tk2
  obtain ⟨k, rfl⟩ := Int.eq_ofNat_of_zero_le a0
  refine ⟨fun σ' H' => ∃ (b' d' : Addr) (bs' : List Int) (ds' : List (List Int)) (x3 x4 : Option V), σ' = [some (.ref a), some (.ref b'), some (.ref d'), x3, x4, none, none, none] ∧ Stay a H H' ∧ TupD H' b' (bs'.map V.int) ∧ TupTD H' d' ds' ∧ Rough bs' ds', ?_, ?_⟩
  · refine ⟨_, rfl, rfl, _, rfl, ?_⟩
    refine ite2 (fun h1 => ?_) (fun h1 => ?_)
    · refine ⟨_, rfl, _, rfl, _, rfl, dd, _, rfl, hdt2, fun p1 H3 s3 dp1 => ⟨_, rfl, _, rfl, _, _, rfl, rfl, _, rfl, dd, _, rfl, hdt2.same s3, fun p2 H4 s4 dp2 => ⟨p1, p2, _, _, rfl, rfl, dp1.same s4, dp2, ?_, fun p3 H5 s5 dp3 => ?_⟩⟩⟩
      · rw [cut_to, cut_fromS, List.length_take, List.length_drop, hql]
        exact sz _ (by omega)
      · rw [cut_to, cut_fromS, ← List.map_take, ← List.map_drop, ← List.map_append] at dp3
        have s25 := (s3.trans s4).trans s5
        refine ⟨b, p3, bs, _, _, _, rfl, st12.same s25, hb2.same s25, (((hrow2.take k).app (hrow2.drop (k + 1))).same s25).td dp3, rough_days ok (by simp; omega) fun p hp => ?_⟩
        rcases List.mem_append.mp hp with h | h
        · exact .inl (List.mem_of_mem_take h)
        · exact .inl (List.mem_of_mem_drop h)
    · refine ⟨_, rfl, rfl, _, rfl, ?_⟩
      refine ite2 (fun h2 => ?_) (fun h2 => ?_)
      · refine ⟨_, rfl, _, rfl, _, rfl, dd, _, rfl, hdt2, fun p1 H3 s3 dp1 => ⟨_, rfl, ?_⟩⟩
        refine ⟨(by show 1 ≤ sizeLine; decide), fun t1 G1 g1 e1 => ⟨(by show 1 ≤ sizeLine; decide), fun t2 G2 g2 e2 => ⟨(by show 2 ≤ sizeLine; decide), fun t3 G3 g3 e3 => ⟨(by show 3 ≤ sizeLine; decide), fun l hl => ?_⟩⟩⟩⟩
        have sl := Same.new (o := .lst [.ref t1, .ref t2, .ref t3]) hl
        have sG := (((s3.trans g1).trans g2).trans g3).trans sl
        refine ⟨a, l, _, rfl, hs2.same sG, upd_same, (hs2.same (((s3.trans g1).trans g2).trans g3)).ne_none hl, (by show 0 < 3; decide), (by show 3 < 1000; decide), fun v H4 hv st4 => ?_⟩
        have hv2 : ∃ (x : List Int) (t : Addr), x ∈ ([[2], [3], [2, 2]] : List (List Int)) ∧ v = .ref t ∧ TupD (upd G3 l (.lst [.ref t1, .ref t2, .ref t3])) t (x.map V.int) := by
          simp at hv
          rcases hv with rfl | rfl | rfl
          · exact ⟨[2], t1, by simp, rfl, e1.same ((g2.trans g3).trans sl)⟩
          · exact ⟨[3], t2, by simp, rfl, e2.same (g3.trans sl)⟩
          · exact ⟨[2, 2], t3, by simp, rfl, e3.same sl⟩
        obtain ⟨x, t, hx, rfl, ht⟩ := hv2
        have tk4 := TK.stay (hs2.same sG) st4
        have st14 := (st12.same sG).trans st4
        have ht4 := ht.tk tk4
        have dp1' := (dp1.same (((g1.trans g2).trans g3).trans sl)).tk tk4
        refine ⟨(by show 1 ≤ sizeLine; decide), fun u H5 s5 du => ⟨p1, u, _, _, rfl, rfl, dp1'.same s5, du, ?_, fun p2 H6 s6 dp2 => ?_⟩⟩
        · rw [cut_to, List.length_take, hql]
          exact sz _ (by simp; omega)
        have hdt6 := ((hdt2.same sG).tk tk4).same (s5.trans s6)
        refine ⟨_, rfl, _, rfl, _, _, rfl, rfl, _, rfl, dd, _, rfl, hdt6, fun p3 H7 s7 dp3 => ⟨p2, p3, _, _, rfl, rfl, dp2.same s7, dp3, ?_, fun p4 H8 s8 dp4 => ?_⟩⟩
        · rw [cut_to, cut_fromS, List.length_append, List.length_take, List.length_drop, hql]
          exact sz _ (by simp; omega)
        · rw [cut_to, cut_fromS, ← List.map_take, ← List.map_drop, show [V.ref t] = [t].map V.ref from rfl, ← List.map_append, ← List.map_append] at dp4
          have s48 := ((s5.trans s6).trans s7).trans s8
          have hrow4 := (hrow2.same sG).tk tk4
          refine ⟨b, p4, bs, _, _, _, rfl, st14.same s48, ((hb2.same sG).tk tk4).same s48, ((((hrow4.take k).app (RowsD.one ht4)).app (hrow4.drop (k + 1))).same s48).td dp4, rough_days ok (by simp; omega) fun p hp => ?_⟩
          rcases List.mem_append.mp hp with h | h
          · rcases List.mem_append.mp h with h | h
            · exact .inl (List.mem_of_mem_take h)
            · rw [List.mem_singleton.mp h]
              exact .inr hx
          · exact .inl (List.mem_of_mem_drop h)
      · refine ⟨_, rfl, rfl, _, rfl, ?_⟩
        refine ite2 (fun h3 => ?_) (fun h3 => ?_)
        · refine ⟨_, rfl, _, rfl, b, _, rfl, .inr hb2.sq, a, _, rfl, hs2, by omega, by omega, fun z H3 z0 z1 st3 => ?_⟩
          obtain ⟨j, rfl⟩ := Int.eq_ofNat_of_zero_le z0
          have tk3 := TK.stay hs2 st3
          have hb3 := hb2.tk tk3
          refine ⟨_, rfl, _, rfl, _, rfl, b, _, rfl, hb3, fun p1 H4 s4 dp1 => ⟨_, rfl, _, rfl, dd, _, rfl, .inr ((hdt2.tk tk3).same s4).sq, _, _, rfl, rfl, a, _, rfl, st3.1.same s4, by omega, by omega, fun x H5 x0 x1 st5 => ?_⟩⟩
          have tk5 := TK.stay (st3.1.same s4) st5
          refine ⟨(by show 1 ≤ sizeLine; decide), fun u H6 s6 du => ⟨p1, u, _, _, rfl, rfl, (dp1.tk tk5).same s6, du, ?_, fun p2 H7 s7 dp2 => ?_⟩⟩
          · rw [cut_to, List.length_take, hbl]
            exact sz _ (by simp; omega)
          have hb7 := ((hb3.same s4).tk tk5).same (s6.trans s7)
          refine ⟨_, rfl, _, rfl, _, _, rfl, rfl, _, rfl, b, _, rfl, hb7, fun p3 H8 s8 dp3 => ⟨p2, p3, _, _, rfl, rfl, dp2.same s8, dp3, ?_, fun p4 H9 s9 dp4 => ?_⟩⟩
          · rw [cut_to, cut_fromS, List.length_append, List.length_take, List.length_drop, hbl]
            exact sz _ (by simp; omega)
          · rw [cut_to, cut_fromS, ← List.map_take, ← List.map_drop, show [V.int x] = [x].map V.int from rfl, ← List.map_append, ← List.map_append] at dp4
            have s59 := ((s6.trans s7).trans s8).trans s9
            have hj : (j : Int) < (bs.length : Int) := by rw [hbl] at z1; exact z1
            refine ⟨p4, dd, _, ds, _, _, rfl, (((st12.trans st3).same s4).trans st5).same s59, dp4, ((((hrow2.tk tk3).same s4).tk tk5).same s59).td ((((hdt2.tk tk3).same s4).tk tk5).same s59), rough_born ok (by simp; omega) (by simp; omega) fun y hy => ?_⟩
            rcases List.mem_append.mp hy with h | h
            · rcases List.mem_append.mp h with h | h
              · exact .inl (List.mem_of_mem_take h)
              · rw [List.mem_singleton.mp h]
                exact .inr x0
            · exact .inl (List.mem_of_mem_drop h)
        · refine ⟨_, rfl, _, rfl, _, rfl, dd, _, rfl, .inr hdt2.sq, _, _, rfl, rfl, a, _, rfl, hs2, by omega, by omega, fun x H3 x0 x1 st3 => ?_⟩
          have tk3 := TK.stay hs2 st3
          have hb3 := hb2.tk tk3
          refine ⟨(by show 1 ≤ sizeLine; decide), fun u H4 s4 du => ⟨b, u, _, _, rfl, rfl, hb3.same s4, du, ?_, fun p1 H5 s5 dp1 => ⟨12, rfl, p1, _, rfl, dp1, fun p2 H6 s6 dp2 => ?_⟩⟩⟩
          · rw [hbl]
            exact sz _ (by simp; omega)
          · rw [show (12 : Int) = ((12 : Nat) : Int) from rfl, cut_to, show [V.int x] = [x].map V.int from rfl, ← List.map_append, ← List.map_take] at dp2
            have s36 := (s4.trans s5).trans s6
            refine ⟨p2, dd, _, ds, _, _, rfl, (st12.trans st3).same s36, dp2, ((hrow2.tk tk3).same s36).td ((hdt2.tk tk3).same s36), rough_born ok (by simp; omega) (by simp; omega) fun y hy => ?_⟩
            rcases List.mem_append.mp (List.mem_of_mem_take hy) with h | h
            · exact .inl h
            · rw [List.mem_singleton.mp h]
              exact .inr x0
  · rintro σ' H3 ⟨b', d', bs', ds', x3, x4, rfl, st3, hb', hd', ro⟩
    obtain ⟨qs', hdt', hrow'⟩ := hd'.rows
    have m12 := ro.m12
    have n12' := ro.n12
    have hql' : (qs'.map V.ref).length = ds'.length := by simp [hrow'.1]
    have hbl' : (bs'.map V.int).length = bs'.length := by simp
    refine ⟨_, rfl, b', rfl, ⟨_, hb'.sq⟩, fun D hD => lc_it (walk_tup (xs := bs'.map V.int)) (Cw H3 (fun _ => true) (fun j => V.int (capB (ds'.length : Int) (bs'.getD j 0))) D) (cw0 hD) (fun i H' _ p => Same.seqT p.2.1 hb'.sq) ?_ ?_⟩
    · rintro j x H' H'' hj p ⟨rfl, hx⟩
      obtain ⟨z, hz, rfl⟩ := map_of hx
      have hj' : j < bs'.length := by simpa using hj
      refine ⟨rfl, _, rfl, _, rfl, d', _, rfl, .inr (Same.seqT p.2.1 hdt'.sq), _, _, rfl, cwY p (Same.refl _) (by omega) rfl ?_⟩
      rw [getD_of hz, hql']
      rfl
    · rintro H4 ⟨p1, p2, p3⟩
      have e := givn_all bs' 0 (fun x => V.int (capB (ds'.length : Int) x))
      rw [hbl', e] at p3
      have e2 : bs'.map (fun x => V.int (capB (ds'.length : Int) x)) = (bs'.map (capB (ds'.length : Int))).map V.int := by rw [List.map_map]; rfl
      rw [e2] at p3
      refine ⟨D, _, rfl, SqL.of p3, fun b2 H5 s5 db2 => ?_⟩
      have s35 := p2.trans s5
      have hnn : ∀ x ∈ bs'.map (capB (ds'.length : Int)), 0 ≤ x := by
        intro x hx
        obtain ⟨y, hy, rfl⟩ := List.mem_map.mp hx
        have := ro.nn y hy
        unfold capB
        split <;> omega
      refine ⟨_, rfl, _, rfl, b2, d', _, _, rfl, db2.sq, (hd'.same s35).ti, by simp; omega, by omega, hnn, fun c H6 hc s6 hC => ?_⟩
      have s36 := s35.trans s6
      have bad : ∀ H7 : Hp, Same H6 H7 → tTupD (tCons (tTupD (tCons (tC (.int 0)) tNil)) (tCons (tTupD tNil) tNil)) [some (.ref a), some (.ref b2), some (.ref d'), x3, x4, some (.ref c), none, none] H7 Q := by
        intro H7 s7
        refine ⟨(by show 1 ≤ sizeLine; decide), fun u1 G1 g1 e1 => ⟨(by show 0 ≤ sizeLine; decide), fun u2 G2 g2 e2 => ⟨(by show 2 ≤ sizeLine; decide), fun t G3 g3 e3 => ?_⟩⟩⟩
        have st' := st3.same ((((s36.trans s7).trans g1).trans g2).trans g3)
        exact q t u1 u2 [0] [] G3 st' (TK.stay hs st') e3.sq (e1.same (g2.trans g3)) ⟨[], e2.same g3, rfl, fun i q ps h => by cases h⟩ cal_one
      refine ⟨_, rfl, d', _, rfl, .inr (hdt'.same s36).sq, _, _, rfl, rfl, _, rfl, ?_⟩
      refine ite2 (fun h1 => ?_) (fun h1 => ?_)
      · refine ⟨_, rfl, d', _, rfl, .inr (hdt'.same s36).sq, _, rfl, by omega, by omega, fun D2 hD2 => lc_it (walk_range (lo := 0) (n := _)) (Cw H6 (fun i => decide (aliveAt (bs'.map (capB (ds'.length : Int))) ds' i < (ds'.getD i []).sum)) (fun i => V.int (0 + (i : Nat))) D2) (cw0 hD2) (fun i H' _ _ => trivial) ?_ ?_⟩
        · rintro i x H' H'' hi p ⟨rfl, rfl⟩
          have hi' : i < ds'.length := by
            rw [hql'] at hi
            omega
          have e0i : (0 : Int) + (i : Nat) = ((i : Nat) : Int) := by omega
          have hq : qs'[i]? = some (qs'[i]'(by have := hrow'.1; omega)) := by simp
          have hp : ds'[i]? = some ds'[i] := by simp
          have s7 := s36.trans p.2.1
          have hat : atI (qs'.map V.ref) (0 + (i : Nat)) = some (.ref (qs'[i]'(by have := hrow'.1; omega))) := at_of e0i (by rw [List.getElem?_map, hq]; rfl)
          have hat2 : atI ((countsL (bs'.map (capB (ds'.length : Int))) ds').map V.int) (0 + (i : Nat)) = some (.int (aliveAt (bs'.map (capB (ds'.length : Int))) ds' i)) := by
            refine at_of e0i ?_
            unfold countsL
            rw [List.getElem?_map, List.getElem?_map, List.getElem?_range (by omega)]
            rfl
          refine ⟨rfl, _, rfl, _, rfl, d', _, _, _, rfl, rfl, (hdt'.same s7).sq, hat, _, _, rfl, ((hrow'.2 i _ _ hq hp).same s7).sq, _, rfl, _, rfl, c, _, _, _, rfl, rfl, SqL.of (p.2.1 _ _ hC), hat2, _, _, rfl, rfl, _, rfl, ?_⟩
          refine ite2 (fun h => ?_) (fun h => ?_)
          · exact ⟨_, rfl, cwY p (Same.refl _) (by omega) (by rw [getD_of hp]; exact h) rfl⟩
          · exact cwN p (Same.refl _) (by rw [getD_of hp]; simpa using h)
        · rintro H7 ⟨r1, r2, r3⟩
          have en : ((((qs'.map V.ref).length : Nat) : Int)).toNat = ds'.length := by rw [hql']; omega
          rw [en] at r3
          have e3 : givn ds'.length (fun i => decide (aliveAt (bs'.map (capB (ds'.length : Int))) ds' i < (ds'.getD i []).sum)) (fun i => V.int (0 + (i : Nat))) = (((List.range ds'.length).filter fun i => decide (aliveAt (bs'.map (capB (ds'.length : Int))) ds' i < (ds'.getD i []).sum)).map fun i => (0 : Int) + (i : Nat)).map V.int := by
            unfold givn
            rw [List.map_map]
            rfl
          rw [e3] at r3
          refine ⟨Nat.zero_le _, fun l hl => ?_⟩
          have s7 := r2.trans (Same.new (o := .lst []) hl)
          refine ⟨_, _, dp_lst (SqL.of (Same.new hl _ _ r3)), dp_lst (ns := []) (SqL.of upd_same), shaped_lst _, shaped_lst [], _, rfl, ?_⟩
          rw [eqv_lst]
          refine ite2 (fun h2 => ?_) (fun h2 => ?_)
          · have h2' := of_decide_eq_true h2
            have hf : ∀ (i : Nat) (p : List Int), ds'[i]? = some p → p.sum ≤ aliveAt (bs'.map (capB (ds'.length : Int))) ds' i := by
              intro i p hp
              have hi := (List.getElem?_eq_some_iff.mp hp).1
              rw [List.map_eq_nil_iff, List.filter_eq_nil_iff] at h2'
              have h3 := h2' i (List.mem_range.mpr hi)
              rw [getD_of hp] at h3
              simp at h3
              exact h3
            have hm : ds'.length < 12 := by
              have := of_decide_eq_true h1
              rw [hql'] at this
              omega
            have okk := ro.cal hm hf
            refine ⟨_, rfl, _, rfl, (by show 2 ≤ sizeLine; decide), fun t H8 s8 dt => ?_⟩
            have s68 := s7.trans s8
            have st' := st3.same (s36.trans s68)
            exact q t b2 d' _ _ H8 st' (TK.stay hs st') dt.sq (db2.same (s6.trans s68)) (hd'.same (s36.trans s68)) okk
          · exact bad _ s7
      · exact bad _ (Same.refl _)
end
end DK
set_option Elab.async false
set_option linter.all false
set_option maxRecDepth 100000
set_option maxHeartbeats 4000000
namespace DK
open PySem PySem.Spec PyProof.Rows L2 RZ DL
abbrev s_law_right : Stmt := topS 47
abbrev N_law_right : List Str := ["_law_source", "_law_turn", "_law_born", "_law_days", "_law_n", "_law_told", "_law_wide"]
theorem sc_law_right : FnScope N_law_right ["_law_source"] (defScope s_law_right) := ⟨rfl, rfl, rfl, by decide +kernel, rfl, by decide +kernel, by decide +kernel⟩
theorem b_law_right : BindOk "_law_right" s_law_right ["_law_source"] := fun _ _ _ _ _ _ us hl => match us, hl with | [_], _ => rfl

abbrev s_law : Stmt := topS 48
abbrev N_law : List Str := ["_law_script", "_law_k"]
theorem sc_law : FnScope N_law ["_law_script"] (defScope s_law) := ⟨rfl, rfl, rfl, by decide +kernel, rfl, by decide +kernel, by decide +kernel⟩
theorem b_law : BindOk "law" s_law ["_law_script"] := fun _ _ _ _ _ _ us hl => match us, hl with | [_], _ => rfl

theorem kb_plain_n : KwOk "plain" s_plain ["n"] ["n"] (fun ws => ws) := fun _ _ _ _ _ _ ws hl => match ws, hl with | [_], _ => rfl
theorem kb_star_n : KwOk "star" s_star ["n"] ["n"] (fun ws => ws) := fun _ _ _ _ _ _ ws hl => match ws, hl with | [_], _ => rfl
section
variable {P : Program} {w : World} {K : PySem.W.Frag} {mg : Str → Option Value} {base : Heap} {C f0 fC CM fR CS fP fS : Addr}
def spRight : Sp := fun vs H Q _ => ∃ a : Addr, vs = [.ref a] ∧ Src a H ∧ ∀ H', Stay a H H' → Q (.bl true) H'
theorem ca_right (B : Bl mg) (T : ClC K mg C fC) (hab : fP ≠ fS) (g_plain : mg "plain" = some (.ref fP)) (g_star : mg "star" = some (.ref fS))
    (c_law_take : Ca P w K mg base 1 "_law_take" s_law_take ["_law_source", "_law_top"] spTake) (c_law_drawn : Ca P w K mg base 4 "_law_drawn" s_law_drawn ["_law_source"] (spDrawn K))
    (c_law_changed : Ca P w K mg base 3 "_law_changed" s_law_changed ["_law_source", "_law_born", "_law_days"] (spChanged K))
    (c_law_looks_right : Ca P w K mg base 8 "_law_looks_right" s_law_looks_right ["_law_born", "_law_days"] (spLooks K))
    (c_plain : Ca P w K mg base 4 "plain" s_plain ["n"] (spTold K C CS 1 twosL)) (c_star : Ca P w K mg base 3 "star" s_star ["n"] (spTold K C CS 2 oneDay))
    (c_law_is_refused : Ca P w K mg base 5 "_law_is_refused" s_law_is_refused ["_law_ask", "_law_n"] (spRefused fP fS))
    (U : Up K mg "_law_right" s_law_right) : Ca P w K mg base 9 "_law_right" s_law_right ["_law_source"] spRight := by
  have kv_plain_n := @kv_id
  have kv_star_n := @kv_id
  refine ca0 U sc_law_right (fun vs H Q E h => by obtain ⟨a, rfl, _⟩ := h; rfl) fun f cdv A outer s H vs Q E hr h => ?_
  obtain ⟨a, rfl, hs, q⟩ := h
  have hu64 := hr.units
  refine ⟨_, (pss_cons (ps_for PassesOwn.never rfl (pi_range1 (by rfl) B.range (pa_cons pe_int pa_nil)) (pg_name (i := 1) sc_law_right.nd rfl (Or.inl rfl))
      (pss_cons (ps_asg (pe_ca c_law_drawn b_law_drawn hr ps0 (pa_cons (pv 0) pa_nil)) (pg_tup rfl (pgs_cons (pg_name (i := 2) sc_law_right.nd rfl (Or.inl rfl)) (pgs_cons (pg_name (i := 3) sc_law_right.nd rfl (Or.inl rfl)) pgs_nil))))
      (pss_cons (ps_if (pt_not (pt_val (pe_ca c_law_looks_right b_law_looks_right hr ps0 (pa_cons (pv 2) (pa_cons (pv 3) pa_nil))))) (pss_one (ps_ret pe_bl))
      pss_nil)
      (pss_cons (ps_asg (pe_ca c_law_changed b_law_changed hr ps0 (pa_cons (pv 0) (pa_cons (pv 2) (pa_cons (pv 3) pa_nil)))) (pg_tup rfl (pgs_cons (pg_name (i := 2) sc_law_right.nd rfl (Or.inl rfl)) (pgs_cons (pg_name (i := 3) sc_law_right.nd rfl (Or.inl rfl)) pgs_nil))))
      (pss_one (ps_if (pt_not (pt_val (pe_ca c_law_looks_right b_law_looks_right hr ps0 (pa_cons (pv 2) (pa_cons (pv 3) pa_nil))))) (pss_one (ps_ret pe_bl))
      pss_nil))))))
      (pss_cons (ps_set (i := 4) sc_law_right.nd rfl (Or.inl rfl) (pe_op op_add pe_int (pe_ca c_law_take b_law_take hr ps0 (pa_cons (pv 0) (pa_cons pe_int pa_nil)))))
      (pss_cons (ps_par (i := 5) (j := 6) (by rfl) sc_law_right.nd rfl rfl (by decide) rfl rfl (pa_cons (pe_cak c_plain kb_plain_n kv_plain_n hr (pk_cons (pv 4) pk_nil)) (pa_cons (pe_cak c_star kb_star_n kv_star_n hr (pk_cons (pe_callB (call_max2 rfl) (by rfl) B.max (by decide +kernel) (pa_cons pe_int (pa_cons (pv 4) pa_nil))) pk_nil)) pa_nil)) (by rfl))
      (pss_cons (ps_if (pt_cmpR (op_neDK K rfl hu64) (pe_tupD (pa_cons (pe_fld (pv 5) rfl) (pa_cons (pe_fld (pv 5) rfl) pa_nil))) (pe_tupD (pa_cons (pe_op op_repD (pe_tupD (pa_cons pe_int pa_nil)) (pv 4)) (pa_cons (pe_op op_repD (pe_tupD (pa_cons (pe_tupD (pa_cons pe_int pa_nil)) pa_nil)) (pe_op op_sub (pv 4) pe_int)) pa_nil))) (nomark _)) (pss_one (ps_ret pe_bl))
      pss_nil)
      (pss_cons (ps_if (PW.pt (pw_or (pt_cmpR (op_neDK K rfl hu64) (pe_tupD (pa_cons (pe_fld (pv 6) rfl) (pa_cons (pe_fld (pv 6) rfl) pa_nil))) (pe_tupD (pa_cons (pe_op op_repD (pe_tupD (pa_cons pe_int pa_nil)) (pe_callB (call_max2 rfl) (by rfl) B.max (by decide +kernel) (pa_cons pe_int (pa_cons (pv 4) pa_nil)))) (pa_cons (pe_tupD (pa_cons (pe_tupD (pa_cons (pe_callB (call_max2 rfl) (by rfl) B.max (by decide +kernel) (pa_cons pe_int (pa_cons (pv 4) pa_nil))) pa_nil)) pa_nil)) pa_nil))) (nomark _)) (pw_or1 (pt_not (pt_val (pe_ca c_law_is_refused b_law_is_refused hr ps0 (pa_cons (pe_gF g_star) (pa_cons pe_int pa_nil)))))))) (pss_one (ps_ret pe_bl))
      pss_nil)
      (pss_cons (ps_for PassesOwn.never rfl (pi_list (pe_lst (pa_cons pe_int (pa_cons pe_int (pa_cons (pe_op op_sub (pe_un un_neg pe_int) (pe_ca c_law_take b_law_take hr ps0 (pa_cons (pv 0) (pa_cons (pe_op op_pow pe_int pe_int) pa_nil)))) pa_nil))))) (pg_name (i := 4) sc_law_right.nd rfl (Or.inl rfl))
      (pss_one (ps_if (PW.pt (pw_or (pt_not (pt_val (pe_ca c_law_is_refused b_law_is_refused hr ps0 (pa_cons (pe_gF g_plain) (pa_cons (pv 4) pa_nil))))) (pw_or1 (pt_not (pt_val (pe_ca c_law_is_refused b_law_is_refused hr ps0 (pa_cons (pe_gF g_star) (pa_cons (pv 4) pa_nil)))))))) (pss_one (ps_ret pe_bl))
      pss_nil)))
      (pss_one (ps_ret pe_bl)))))))), ?_⟩
  refine ⟨4, rfl, by decide, by decide, for_range (lo := 0) (n := 4) (fun i σ H' => Stay a H H' ∧ ∃ x1 x2 x3, σ = [some (.ref a), x1, x2, x3, none, none, none]) ⟨Stay.refl hs, none, none, none, rfl⟩ ?_ ?_⟩
  · rintro i σ H1 hi ⟨st1, x1, x2, x3, rfl⟩
    refine ⟨_, rfl, a, rfl, st1.1, fun t b d bs ds H2 st2 tk2 ht hb hd ok => ⟨t, _, rfl, ht, rfl, _, _, rfl, _, _, rfl, rfl, ?_⟩⟩
    refine ⟨_, rfl, _, rfl, b, d, bs, ds, rfl, hb, hd, ok, fun H3 s3 => ⟨_, rfl, ?_⟩⟩
    refine iteFd rfl ⟨_, rfl, _, rfl, _, rfl, a, b, d, bs, ds, rfl, st2.1.same s3, hb.same s3, hd.same s3, ok, fun t2 b2 d2 bs2 ds2 H4 st4 tk4 ht2 hb2 hd2 ok2 => ⟨t2, _, rfl, ht2, rfl, _, _, rfl, _, _, rfl, rfl, ?_⟩⟩
    refine ⟨_, rfl, _, rfl, b2, d2, bs2, ds2, rfl, hb2, hd2, ok2, fun H5 s5 => ⟨_, rfl, ?_⟩⟩
    exact iteFd rfl ⟨(((st1.trans st2).same s3).trans st4).same s5, _, _, _, rfl⟩
  · rintro σ H1 ⟨st1, x1, x2, x3, rfl⟩
    refine ⟨_, rfl, a, 12, rfl, st1.1, by decide, by decide, fun v H2 v0 v1 st2 => ⟨_, _, rfl, rfl, ?_⟩⟩
    have hm12 : 2 ≤ (if 1 + v > 2 then 1 + v else 2) ∧ (if 1 + v > 2 then 1 + v else 2) ≤ 12 := by split <;> omega
    generalize hmm : (if 1 + v > 2 then 1 + v else 2) = m at hm12
    have hn12 : 1 ≤ (1 + v) ∧ (1 + v) ≤ 12 := by omega
    refine ⟨_, rfl, rfl, (1 + v), rfl, fun _ ct H3 hct s3 calT => ?_, fun hbad => absurd hn12 hbad⟩
    refine ⟨_, rfl, _, _, rfl, ?_⟩
    rw [hmm]
    refine ⟨rfl, m, rfl, fun _ cw H4 hcw s4 calW => ⟨_, _, rfl, ?_⟩, fun hbad => absurd hm12 hbad⟩
    obtain ⟨dx, bT, dT, fs, h1, h2, h3, h4, h5⟩ := calT.same s4
    obtain ⟨dxW, bW, dW, fsW, w1, w2, w3, w4, w5⟩ := calW
    refine ⟨_, rfl, ct, C, dx, fs, _, rfl, h1, T.cl, T.nB, h2, _, rfl, ct, C, dx, fs, _, rfl, h1, T.cl, T.nD, h3, (by show 2 ≤ sizeLine; decide), fun t1 H5 s5 dt1 => ?_⟩
    refine ⟨(by show 1 ≤ sizeLine; decide), fun z H6 s6 dz => ⟨_, rfl, z, (1 + v), _, rfl, rfl, dz, by omega, by omega, (by show 1 ≤ 1000; decide), fun zb H7 s7 dzb => ⟨(by show 1 ≤ sizeLine; decide), fun u H8 s8 du => ⟨(by show 1 ≤ sizeLine; decide), fun u2 H9 s9 du2 => ⟨_, rfl, _, _, rfl, rfl, u2, (1 + v) - 1, _, rfl, rfl, du2, by omega, by omega, (by show 1 ≤ 1000; decide), fun ud H10 s10 dud => ⟨(by show 2 ≤ sizeLine; decide), fun t2 H11 s11 dt2 => ?_⟩⟩⟩⟩⟩⟩
    rw [rep0] at dzb
    rw [repA] at dud
    have s511 := (((((s6.trans s7).trans s8).trans s9).trans s10).trans s11)
    have s411 := s5.trans s511
    have hud : TupTD H11 ud (twosL (1 + v)) := by
      refine ⟨List.replicate ((1 + v) - 1).toNat u, ?_, by simp [twosL], fun i r ns h1 h2 => ?_⟩
      · rw [List.map_replicate]
        exact dud.same s11
      · have e1 := List.eq_of_mem_replicate (List.mem_of_getElem? h1)
        have e2 := List.eq_of_mem_replicate (List.mem_of_getElem? h2)
        rw [e1, e2]
        exact du.same ((s9.trans s10).trans s11)
    refine ⟨P3 (zerosL (1 + v)) (twosL (1 + v)), P3 (zerosL (1 + v)) (twosL (1 + v)), dp3 (dt1.same s511).sq (h4.same s411).sq (h5.same s411).ti, dp3 dt2.sq (dzb.same (((s8.trans s9).trans s10).trans s11)).sq hud.ti, shaped3 _ _, shaped3 _ _, _, rfl, ?_⟩
    refine iteFd (by rw [eqv3]; simp) ?_
    have w1' := s411 _ _ w1
    refine ⟨_, rfl, cw, C, dxW, fsW, _, rfl, w1', T.cl, T.nB, w2, _, rfl, cw, C, dxW, fsW, _, rfl, w1', T.cl, T.nD, w3, (by show 2 ≤ sizeLine; decide), fun t3 G1 g1 e1 => ?_⟩
    refine ⟨(by show 1 ≤ sizeLine; decide), fun y G2 g2 e2 => ⟨_, rfl, _, _, rfl, ?_⟩⟩
    rw [hmm]
    refine ⟨y, m, _, rfl, rfl, e2, by omega, by omega, (by show 1 ≤ 1000; decide), fun yb G3 g3 e3 => ?_⟩
    refine ⟨_, rfl, _, _, rfl, ?_⟩
    rw [hmm]
    refine ⟨(by show 1 ≤ sizeLine; decide), fun x G4 g4 e4 => ⟨(by show 1 ≤ sizeLine; decide), fun x2 G5 g5 e5 => ⟨(by show 2 ≤ sizeLine; decide), fun t4 G6 g6 e6 => ?_⟩⟩⟩
    rw [rep0] at e3
    have g16 := (((g2.trans g3).trans g4).trans g5).trans g6
    have g06 := g1.trans g16
    refine ⟨P3 (zerosL m) (oneDay m), P3 (zerosL m) (oneDay m), dp3 (e1.same g16).sq (w4.same (s411.trans g06)).sq (w5.same (s411.trans g06)).ti, dp3 e6.sq (e3.same ((g4.trans g5).trans g6)).sq ((RowsD.one (ns := [m]) (e4.same (g5.trans g6))).td (e5.same g6)).ti, shaped3 _ _, shaped3 _ _, _, rfl, ?_⟩
    refine iteFd (by rw [eqv3]; simp) ⟨fS, 1, rfl, .inr rfl, ?_, fun G7 g7 => ⟨_, rfl, ?_⟩⟩
    · unfold loOf
      rw [if_neg (Ne.symm hab)]
      omega
    refine iteFd rfl ?_
    have st7 : Stay a H G7 := (st1.trans st2).same ((((s3.trans s4).trans s411).trans g06).trans g7)
    refine ⟨1, rfl, _, rfl, _, _, rfl, rfl, ⟨by decide, by decide, by decide⟩, a, _, rfl, st7.1, by decide, by decide, fun r1 G8 r10 r11 st8 => ⟨_, _, rfl, rfl, (by show 3 ≤ sizeLine; decide), fun l hl => ?_⟩⟩
    refine ⟨l, rfl, ⟨_, SqL.of upd_same⟩, for_list (fun i σ H' => Same (upd G8 l _) H' ∧ ∃ x1 x2 x3 x4, σ = [some (.ref a), x1, x2, x3, x4, some (.ref ct), some (.ref cw)]) ⟨Same.refl _, _, _, _, _, rfl⟩ (fun i σ H' _ p => SqL.of (p.1 _ _ upd_same)) ?_ ?_⟩
    · rintro i x σ H9 hx ⟨s9, x1, x2, x3, x4, rfl⟩
      have hz : ∃ z : Int, x = .int z ∧ (z < 1 ∨ 12 < z) := by
        have hm := List.mem_of_getElem? hx
        simp at hm
        rcases hm with rfl | rfl | rfl
        · exact ⟨_, rfl, .inl (by decide)⟩
        · exact ⟨_, rfl, .inr (by decide)⟩
        · exact ⟨_, rfl, .inl (by omega)⟩
      obtain ⟨z, rfl, hz⟩ := hz
      refine ⟨_, rfl, fP, z, rfl, .inl rfl, ?_, fun H10 s10 => ⟨_, rfl, ?_⟩⟩
      · unfold loOf
        rw [if_pos rfl]
        omega
      refine iteFd rfl ⟨_, rfl, fS, z, rfl, .inr rfl, ?_, fun H11 s11 => ⟨_, rfl, ?_⟩⟩
      · unfold loOf
        rw [if_neg (Ne.symm hab)]
        omega
      exact iteFd rfl ⟨(s9.trans s10).trans s11, _, _, _, _, rfl⟩
    · rintro σ H9 ⟨s9, _⟩
      exact q _ (((st7.trans st8).same (Same.new hl)).same s9)
def spLaw (K : PySem.W.Frag) : Sp := fun vs H Q _ => ∃ (a : Addr) (ns : List Int), vs = [.ref a] ∧ SqL K H a (ns.map V.int) ∧ ns.length ≤ 63 ∧ ∀ H', Q (.bl true) H'
theorem ca_law (B : Bl mg) (c_law_pool : Ca P w K mg base 1 "_law_pool" s_law_pool ["_law_script", "_law_k"] (spPool K)) (c_law_right : Ca P w K mg base 9 "_law_right" s_law_right ["_law_source"] spRight) {f : Addr} {fd : FuncData} (F : Fun K "law" "law" s_law f fd) :
    FnOk P w K mg base CX0 24 f fd ["_law_script"] (spLaw K) := by
  refine F.ok sc_law (fun vs H Q E h => by obtain ⟨a, ns, rfl, _⟩ := h; rfl) fun cdv A outer s H vs Q E hr h => ?_
  obtain ⟨a, ns, rfl, hs, hl, q⟩ := h
  refine ⟨_, (pss_cons (ps_for PassesOwn.never rfl (pi_range1 (by rfl) B.range (pa_cons (pe_callB (call_max2 rfl) (by rfl) B.max (by decide +kernel) (pa_cons pe_int (pa_cons (pe_callB (call_min2 rfl) (by rfl) B.min (by decide +kernel) (pa_cons (pe_callB (call_lenK K rfl) (by rfl) B.len (by decide +kernel) (pa_cons (pv 0) pa_nil)) (pa_cons pe_int pa_nil))) pa_nil))) pa_nil)) (pg_name (i := 1) sc_law.nd rfl (Or.inl rfl))
      (pss_one (ps_if (pt_not (pt_val (pe_ca c_law_right b_law_right hr ps0 (pa_cons (pe_ca c_law_pool b_law_pool hr ps0 (pa_cons (pv 0) (pa_cons (pv 1) pa_nil))) pa_nil)))) (pss_one (ps_ret pe_bl))
      pss_nil)))
      (pss_one (ps_ret pe_bl))), ?_⟩
  have hln : (((ns.map V.int).length : Nat) : Int) ≤ 63 := by
    rw [List.length_map]
    omega
  refine ⟨_, rfl, a, _, rfl, .inl hs, _, _, rfl, _, _, rfl, _, rfl, by split <;> split <;> omega, by split <;> split <;> omega, for_range (lo := 0) (n := _) (fun i σ H' => SqL K H' a (ns.map V.int) ∧ ∃ x, σ = [some (.ref a), x]) ⟨hs, none, rfl⟩ ?_ ?_⟩
  · rintro i σ H1 hi ⟨hs1, x, rfl⟩
    have hi3 : i < 1000 := by
      have h3 : (if (if (3 : Int) < (((ns.map V.int).length : Nat) : Int) then 3 else (((ns.map V.int).length : Nat) : Int)) > 1 then (if (3 : Int) < (((ns.map V.int).length : Nat) : Int) then 3 else (((ns.map V.int).length : Nat) : Int)) else 1) ≤ 63 := by
        split <;> split <;> omega
      omega
    refine ⟨_, rfl, _, rfl, a, ns, _, rfl, hs1, hl, by omega, by omega, fun p H2 hp s2 src => ⟨p, rfl, src, fun H3 st3 => ⟨_, rfl, ?_⟩⟩⟩
    have s13 : Same H1 H3 := fun b o e => st3.2 b o (ne_of_none e hp) (s2 _ _ e)
    exact iteFd rfl ⟨s13.seq hs1, _, rfl⟩
  · rintro σ H1 _
    exact q _
end
end DK
set_option Elab.async false
set_option linter.all false
set_option maxRecDepth 100000
set_option maxHeartbeats 4000000
namespace DK
open PySem PySem.Spec PyProof.Rows L2 RZ DL
abbrev s_Refused___init__ : Stmt := inClass (topS 1) 0
abbrev N_Refused___init__ : List Str := ["self", "what"]
theorem sc_Refused___init__ : FnScope N_Refused___init__ ["self", "what"] (defScope s_Refused___init__) := ⟨rfl, rfl, rfl, by decide +kernel, rfl, by decide +kernel, by decide +kernel⟩

section
variable {P : Program} {w : World} {K : PySem.W.Frag} {mg : Str → Option Value} {base : Heap}
theorem er_init {f : Addr} {fd : FuncData} (F : Fun K "__init__" "Refused.__init__" s_Refused___init__ f fd) : ErI P w K mg base f := by
  refine ⟨fd, fn_up (F.ok sc_Refused___init__ (fun vs H Q E h => by obtain ⟨a, C, v, rfl, _⟩ := h; rfl) fun cdv A outer s H vs Q E hr h => ?_), F.binds fun _ _ _ _ _ _ us hl => match us, hl with | [_, _], _ => rfl⟩
  obtain ⟨a, C, v, rfl, ox, nw, ha, q⟩ := h
  refine ⟨_, (pss_one (ps_ost (pv 0) (pv 1))), ?_⟩
  exact ⟨_, rfl, _, rfl, a, C, rfl, ox, nw, .inl ⟨ha, q⟩⟩
/-- from what the head tells to the promise of the law -/
theorem all_mk {h : Heap} {fa : Addr} (X : K.In h) (G : h.Ns mainGlobals mg) (hfa : mg "law" = some (.ref fa))
    (dB : DBl K) (dR : PySem.W.nsIn K mainGlobals "repr" = some none) (dL : DKn K "MOST_LEAVES" 12) (dD : DKn K "MOST_DAYS" 11) (dC : DCal K s_Calendar___init__) (dE : DEr K "BadMoment" "Refused.__init__" s_Refused___init__) (dS : DEr K "BadSize" "Refused.__init__" s_Refused___init__)
    (d1 : Df K "is_number" s_is_number) (d2 : Df K "is_from_to" s_is_from_to) (d3 : Df K "ask_moment" s_ask_moment) (d4 : Df K "is_pattern" s_is_pattern) (d5 : Df K "ask_pattern" s_ask_pattern) (d6 : Df K "met" s_met) (d7 : Df K "less" s_less)
    (d8 : Df K "made_calendar" s_made_calendar) (d9 : Df K "_ask_lines" s_ask_lines) (d10 : Df K "days_many" s_days_many) (d11 : Df K "alive" s_alive) (d12 : Df K "ends" s_ends) (d13 : Df K "is_plain" s_is_plain) (d14 : Df K "is_level" s_is_level) (d15 : Df K "plain" s_plain) (d16 : Df K "star" s_star)
    (d17 : Df K "is_falling" s_is_falling) (d18 : Df K "ask_leaves_many" s_ask_leaves_many)
    (e1 : Df K "_law_pool" s_law_pool) (e2 : Df K "_law_take" s_law_take) (e3 : Df K "_law_one" s_law_one) (e4 : Df K "_law_counts" s_law_counts) (e5 : Df K "_law_pattern" s_law_pattern) (e6 : Df K "_law_calendar" s_law_calendar) (e7 : Df K "_law_is_plain" s_law_is_plain) (e8 : Df K "_law_is_level" s_law_is_level)
    (e9 : Df K "_law_levelled" s_law_levelled) (e10 : Df K "_law_drawn" s_law_drawn) (e11 : Df K "_law_changed" s_law_changed) (e12 : Df K "_law_looks_right" s_law_looks_right) (e13 : Df K "_law_is_refused" s_law_is_refused) (e14 : Df K "_law_right" s_law_right) (e15 : Df K "law" s_law) :
    ∃ fd : FuncData, (∀ (s : Shared) (u : Value), BindsTo s fd ⟨[u], []⟩ [("_law_script", u)]) ∧ ∀ base : Heap, K.In base → base.Ns mainGlobals mg → FnOk P w K mg base CX0 24 fa fd ["_law_script"] (spLaw K) := by
  have B := dB.bl X G
  have Br : BlR mg := ⟨PySem.W.mg_none_of X G dR⟩
  have Kc : Kn mg := ⟨dL.kn X G, dD.kn X G⟩
  obtain ⟨C, fC, fdC, T, FC⟩ := dC.cl X G
  obtain ⟨CM, fR, fdR, TM, FR⟩ := dE.er X G
  obtain ⟨CS, fR2, fdR2, TS, FR2⟩ := dS.er X G
  obtain ⟨f, fd, F, hm⟩ := (e15.up X G).ex
  rw [hfa] at hm
  cases hm
  refine ⟨fd, fun s u => ?_, fun base _ _ => ?_⟩
  · obtain ⟨oc, od, kV, doc, pm, an, cdv, ct, osl, rfl, lk, hcd⟩ := F.ex
    exact .of_eq rfl
  have c_is_number := ca_is_number (P := P) (w := w) (base := base) B (d1.up X G)
  have c_is_from_to := ca_is_from_to c_is_number (d2.up X G)
  have c_ask_moment := ca_ask_moment c_is_from_to TM (er_init FR) (d3.up X G)
  have c_is_falling := ca_is_falling (P := P) (w := w) (base := base) B (d17.up X G)
  have c_is_pattern := ca_is_pattern B c_is_number c_is_falling (d4.up X G)
  have c_ask_pattern := ca_ask_pattern c_is_pattern (d5.up X G)
  have c_met := ca_met B c_ask_pattern (d6.up X G)
  have c_less := ca_less B c_ask_pattern (d7.up X G)
  have G_Calendar := ok_init (P := P) (w := w) (base := base) T FC
  have Bi_Calendar : Binds K fdC ["self", "born", "days"] [] := FC.binds fun _ _ _ _ _ _ us hl => match us, hl with | [_, _, _], _ => rfl
  have c_ask_lines := ca_ask_lines B c_met c_less (d9.up X G)
  have c_made := ca_made_calendar B Kc T G_Calendar Bi_Calendar c_is_pattern c_is_from_to c_ask_lines (d8.up X G)
  have c_days := ca_days_many (P := P) (w := w) (base := base) B T (d10.up X G)
  have c_alive := ca_alive B T c_ask_moment c_days c_less (d11.up X G)
  have c_ends := ca_ends c_days c_alive (d12.up X G)
  have c_isp := ca_is_plain B T c_ends (d13.up X G)
  have c_isl := ca_is_level B T c_met c_alive c_ends (d14.up X G)
  have c_askn := ca_ask_leaves_many Kc TS (er_init FR2) c_is_from_to (d18.up X G)
  have c_plain := ca_plain T G_Calendar Bi_Calendar c_askn (d15.up X G)
  have c_star := ca_star Kc T G_Calendar Bi_Calendar TS (er_init FR2) c_is_from_to (d16.up X G)
  have c_pool := ca_pool (P := P) (w := w) (base := base) B (e1.up X G)
  have c_take := ca_take (P := P) (w := w) (base := base) B (e2.up X G)
  have c_one := ca_one B c_take (e3.up X G)
  have c_counts := ca_counts (P := P) (w := w) (base := base) B (e4.up X G)
  have c_pattern := ca_pattern B c_take (e5.up X G)
  have c_calendar := ca_calendar B c_take c_one c_pattern (e6.up X G)
  have c_lp := ca_lis_plain (P := P) (w := w) (base := base) B (e7.up X G)
  have c_ll := ca_lis_level B c_counts (e8.up X G)
  have c_levelled := ca_levelled B c_take c_one (e9.up X G)
  have c_drawn := ca_drawn B c_take c_levelled c_calendar (e10.up X G)
  have c_changed := ca_changed B c_take c_one c_counts (e11.up X G)
  have c_looks := ca_looks B Br c_made c_isp c_isl c_lp c_ll (e12.up X G)
  obtain ⟨fP, fdP, FP, hP, GP⟩ := c_plain.ex
  obtain ⟨fS, fdS, FS, hS, GS⟩ := c_star.ex
  have hab : fP ≠ fS := fun_ne FP FS (by decide +kernel)
  have A_ : ∀ x sp, askSp K C CS fP fS x = some sp → HeldX P w K mg base 4 x sp := by
    intro x sp hx
    unfold askSp at hx
    by_cases h1 : x = fP
    · rw [if_pos h1] at hx
      cases hx
      subst h1
      exact ⟨fdP, _, GP, FP.kp, FP.binds b_plain⟩
    · rw [if_neg h1] at hx
      by_cases h2 : x = fS
      · rw [if_pos h2] at hx
        cases hx
        subst h2
        exact ⟨fdS, _, GS.mono (by decide), FS.kp, FS.binds b_star⟩
      · rw [if_neg h2] at hx
        cases hx
  have c_refused := ca_refused hab TS A_ (e13.up X G)
  have c_right := ca_right B T hab hP hS c_take c_drawn c_changed c_looks c_plain c_star c_refused (e14.up X G)
  exact ca_law B c_pool c_right F
end
theorem walk {l : PySem.W.OpenLaw} {q : Program} {loose : List Str} {XP : (Str → Option Value) → Heap → Prop} {YP : World → Heap → Prop} {d : DefRec} {K : Params → PySem.W.Frag} (hn : l.most = some 63) (hdf : d.params.defaults = [])
    (hY : ∀ (w : World) (h : Heap), YP w h → (K w.params).In h)
    (F : ∀ (w : World) (mg : Str → Option Value) (fa : Addr) (h : Heap), (K w.params).In h → h.Ns mainGlobals mg → mg d.name = some (.ref fa) →
      ∃ fd : FuncData, (∀ (s : Shared) (u : Value), BindsTo s fd ⟨[u], []⟩ [("_law_script", u)]) ∧ ∀ base : Heap, (K w.params).In base → base.Ns mainGlobals mg → FnOk l.prog w (K w.params) mg base CX0 24 fa fd ["_law_script"] (spLaw (K w.params))) :
    PySem.W.WalkO q loose XP YP l.row.toRowW d [] (fun f vs => PySem.call f vs) :=
  L2.walk_of (n := 63) (k := 24) (x := "_law_script") (CX := fun _ => CX0) (sp := fun w => spLaw (K w.params)) hn (by decide) hdf ⟨rfl, by decide, by decide⟩ hY F (fun _ _ a ns hl _ hS => ⟨a, ns, rfl, hS, hl, fun _ => rfl⟩) fun _ _ _ _ _ z => z
end DK
open PySem PySem.W PyProof.Rows
set_option Elab.async false
local macro_rules | `(tactic| walk_at "df") => `(tactic| (refine' DL.Df.of ?h1 ?h2 ?h3 ?h4; (case h1 => k_is); (case h2 => k_is); (case h3 => k_is); (case h4 => k_is)))
local macro_rules | `(tactic| walk_at "der") => `(tactic| (refine' DL.DEr.of ?h1 ?h2 ?h3 ?h4 ?h5 ?h6 ?h7 ?h8 ?h9 ?h10 ?h11 ?h12 ?h13 ?h14 ?h15 ?h16 ?h17 ?h18; (case h1 => k_is); (case h2 => k_is); (case h3 => decide +kernel); (case h4 => k_is); (case h5 => k_is); (case h6 => k_is); (case h7 => k_is); (case h8 => k_is); (case h9 => k_is); (case h10 => k_is); (case h11 => k_is); (case h12 => k_is); (case h13 => k_is); (case h14 => k_is); (case h15 => (first | rfl | k_is)); (case h16 => k_is); (case h17 => k_is); (case h18 => k_is)))
local macro_rules | `(tactic| walk_at "dcal") => `(tactic| (refine' DL.DCal.of ?h1 ?h2 ?h3 ?h4 ?h5 ?h6 ?h7 ?h8 ?h9 ?h10 ?h11 ?h12 ?h13 ?h14; (case h1 => k_is); (case h2 => k_is); (case h3 => k_is); (case h4 => k_is); (case h5 => k_is); (case h6 => k_is); (case h7 => k_is); (case h8 => k_is); (case h9 => k_is); (case h10 => k_is); (case h11 => k_is); (case h12 => k_is); (case h13 => k_is); (case h14 => k_is)))
local macro_rules | `(tactic| walk_at "dkn") => `(tactic| (refine' DL.DKn.of ?h1; (case h1 => k_is)))
set_option maxRecDepth 100000 in
set_option maxHeartbeats 0 in
theorem PySem.Challenge.cw_datedlines_k07_plain_and_level_calendars_holds : PySem.Challenge.rw_datedlines_k07_plain_and_level_calendars.Holds := by
  w_on; o_law; k_head; (case hw => w_witness2)
  k_fill
  refine DK.walk (l := PySem.Challenge.rw_datedlines_k07_plain_and_level_calendars) rfl rfl (fun w h Y => PySem.W.kIn_of Y) ?F
  case F =>
    intro w mg fa h KX G hmg
    refine' DK.all_mk KX G hmg ?dB ?dR ?dL ?dD ?dC ?dE ?dS ?d1 ?d2 ?d3 ?d4 ?d5 ?d6 ?d7 ?d8 ?d9 ?d10 ?d11 ?d12 ?d13 ?d14 ?d15 ?d16 ?d17 ?d18 ?e1 ?e2 ?e3 ?e4 ?e5 ?e6 ?e7 ?e8 ?e9 ?e10 ?e11 ?e12 ?e13 ?e14 ?e15
    (case dB => refine' ⟨⟨?xb1, ?xb2, ?xb3, ?xb4, ?xb5, ?xb6, ?xb7, ?xb8, ?xb9, ?xb10, ?xb11, ?xb12, ?xb13⟩⟩ <;> k_is)
    (case dR => k_is)
    (case dL => walk_at "dkn")
    (case dD => walk_at "dkn")
    (case dC => walk_at "dcal")
    (case dE => walk_at "der")
    (case dS => walk_at "der")
    all_goals walk_at "df"
#print axioms PySem.Challenge.cw_datedlines_k07_plain_and_level_calendars_holds
