import PyProof.Rows.All
import Wide.All
import OpenK.AllK
import Wide.FinOn
import KE.KTupSum
import KE.DataFind
import KE.GoesEnum
import HandS.ForMost
import HandS.ForExc
import HandS.ExcInit
import HandS.ExcField
import HandS.IsInst
import HandS.Zip
import HandS.TupAny
import HandS.TupMul
import HandS.Walk
import HandS.Wide
import HandS.Style
import HandS.Conv
import HandS.Defaults
import HandS.CallLocal
import HandS.SetFor
import HandS.Evl
import HandS.TryMany
import HandS.TupSets
import HandS.SortKw
import KE.SortData
import HandS.DictComp
import HandS.ForDict
import PyProof.TupleOfSeq
import PySem.Challenge.RW_datedlines_k29_dates_taken_and_refused
set_option Elab.async false
set_option linter.all false
set_option maxRecDepth 100000
set_option maxHeartbeats 2000000
/-! rules of my own beside the layer: sum of a tuple, count in a tuple, enumerate over a tuple, calls by keywords alone, a call of a local that may raise -/
namespace DL
open PySem PySem.Spec PyProof.Rows L2 RZ
section
variable {X : Cx}
/-- sum(t) of a tuple of ints -/
def rSumT (K : PySem.W.Frag) : List V → Hp → VK → Prop := fun vs H Q => ∃ (a : Addr) (ns : List Int), vs = [V.ref a] ∧ SqT K H a (ns.map V.int) ∧ Q (.int ns.sum) H
theorem cr_sumT (hc : X.calm = true) : CallR X (.builtin "sum") (rSumT X.K) := by
  intro pins s σ H vs us Q I r h
  obtain ⟨a, ns, rfl, hs, q⟩ := h
  obtain ⟨its, rv, hl, _⟩ := I.tuple hs
  rw [Vals.ref1 r]
  have hi : IntsAre its ns := rv.ints
  obtain ⟨xs, e⟩ := hi.allInts.items
  have hn : numsOf (intItems xs).toList = ns := by rw [← e]; exact hi.numsOf
  rw [nums_intItems] at hn
  have hl' : s.heap.IsTuple a its.toArray := hl
  rw [e] at hl'
  refine PySem.W.ktm_sumG (I.ok.hd hc) hl' fun h' tk t' hk => ?_
  refine ⟨.int _, H, I.kept hk, ⟨t', rfl⟩, ?_⟩
  rw [preSum_eq, List.take_of_length_le (by simp), hn]
  exact q
/-- t.count(k) of a tuple of ints -/
def rCntT (K : PySem.W.Frag) : V → List V → Hp → VK → Prop := fun x xs H Q => ∃ (p : Addr) (ns : List Int) (k : Int), x = .ref p ∧ xs = [.int k] ∧ SqT K H p (ns.map V.int) ∧ Q (.int (ns.count k : Nat)) H
theorem mt_tcount : MtR X "tuple.count" (rCntT X.K) := by
  intro pins s σ H x xs v us Q I rx rxs h
  obtain ⟨p, ns, k, rfl, rfl, hs, q⟩ := h
  cases rx
  obtain ⟨u, rfl, ru⟩ := rxs.one
  obtain ⟨t, rfl⟩ := ru
  obtain ⟨its, rv, ⟨⟨cls, dd, data, sl⟩, ho, hc, n, hd⟩, hlen⟩ := I.tuple hs
  simp only at hc hd
  subst hc hd
  have hi := ints_of_vals rv
  refine call_meets PySem.F.slot_tuple_count ⟨_, ho, rfl⟩ PySem.F.entry_tuple_count (PySem.F.args_tuple_count_2 _ _)
    (SeqAt.tuple_countAt p its.toArray n dd sl (.int k t) (eqk k)) ⟨ho, fun y hy => (eqk_gives hi y (by simpa using hy)).at _ _, ?_⟩
  have ec : its.toArray.toList.countP (eqk k) = ns.count k := eqk_count hi
  refine ⟨.int (ns.count k : Nat), H, I.tok _, ⟨s.toks, ?_⟩, q⟩
  show Value.int ((its.toArray.toList.countP (eqk k) : Nat) : Int) s.toks = Value.int ((ns.count k : Nat) : Int) s.toks
  rw [ec]
end
/-! enumerate over a tuple -/
def IteT (K : PySem.W.Frag) (a : Addr) : It :=
  ⟨fun i H => ∃ (xs : List V) (x : V), SqT K H a xs ∧ xs[i]? = some x, fun i H v H' => ∃ T x, v = .ref T ∧ H T = none ∧ H' = upd H T (.tup [.int (i : Nat), x]) ∧ ∀ xs, SqT K H a xs → xs[i]? = some x, fun i H => ∃ xs : List V, SqT K H a xs ∧ xs.length = i⟩
theorem turn_enumT {P : Program} {w : World} {K : PySem.W.Frag} {elts : List Expr} {kk : Nat} {tpos : Pos} (a e it : Addr) :
    Turn P w K (.Tuple elts kk tpos) (IteT K a) [e, it] e (fun i h => (∃ old, IsEnum h e it ((i : Nat) : Int) old) ∧ h.IsTupleIter it a i ∧ e ≠ it ∧ a ≠ it) where
  mem := by simp
  obj := fun i h st b hb => by
    obtain ⟨⟨old, he⟩, ⟨o, ho, hc, hd⟩, _⟩ := st
    have e' : b = e ∨ b = it := by simpa using hb
    rcases e' with z | z
    · rw [z]; exact ⟨_, he, fun v q => nomatch q⟩
    · rw [z]; exact ⟨o, ho, fun v q => by rw [hd] at q; cases q⟩
  keep := fun i h h' st k => let ⟨⟨old, he⟩, hi, hne⟩ := st; ⟨⟨old, k e (by simp) _ he⟩, hi.at fun o q => k it (by simp) o q, hne⟩
  item := by
    intro X hP hw hK hc i pins s σ H E I hf st hg
    subst hP hw hK
    obtain ⟨⟨old, he⟩, hit, hne, hna⟩ := st
    obtain ⟨xs, x, hq, hx⟩ := hg
    obtain ⟨its, rv, p, hz⟩ := I.tuple hq
    obtain ⟨u, hu, ru⟩ := rv.get hx
    have hel : e < s.heap.objs.size := Heap.lt_size he
    have hil : it < s.heap.objs.size := by obtain ⟨_, q, _⟩ := hit; exact Heap.lt_size q
    have hal : a < s.heap.objs.size := by obtain ⟨_, q, _⟩ := p; exact Heap.lt_size q
    have hlt : i < its.toArray.size := by
      have := (List.getElem?_eq_some_iff.mp hu).1
      simpa using this
    have hea : e ≠ a := by
      intro z
      obtain ⟨o, q1, q2, _⟩ := p
      rw [← z] at q1
      have he' : s.heap.get? e = some _ := he
      rw [he'] at q1
      cases q1
      injection q2 with z2
      exact absurd z2 (by decide)
    refine wpAny_pyNext_enum_itemD (Draws.tuple (prog := X.prog) (w := X.w) (A := X.A.in1) (show X.A.in1.handled = none from I.ok.hd hc) it a hna its.toArray) he ⟨hit, p⟩ hlt hne (by simp [hne, hea]) fun x' h' tk hP ho hs' hT hsz hk => ?_
    have hxu : x' = u := by
      have hP' : its.toArray[i]? = some x' := hP
      rw [List.getElem?_toArray, hu] at hP'
      exact (Option.some.inj hP').symm
    subst hxu
    refine ⟨_, rfl, wpAny_letOwnedTupleGo_enum (s := { s with heap := h', toks := tk + 1 }) ho fun h'' he' sb => ?_⟩
    have hT2 : h''.get? s.heap.objs.size = some { cls := .type "tuple", data := .seq #[.int i tk, x'] } := (sb.2 _ (Nat.ne_of_gt hel)).trans hT
    have new : ObjOk X.prog X.w (upd H s.heap.objs.size (.tup [.int (i : Nat), x])) h'' s.heap.objs.size (.tup [.int (i : Nat), x]) :=
      ⟨by show 2 ≤ sizeLine; decide, [.int i tk, x'], .cons ⟨_, rfl⟩ (.cons ru .nil), ⟨_, hT2, rfl, _, rfl⟩⟩
    have I1 : Inv X pins σ (upd H s.heap.objs.size (.tup [.int (i : Nat), x])) { s with heap := h'', toks := tk + 1 } :=
      I.turnedNew (ch := [e, it]) (fun b ob hb q => (sb.2 b (fun z => hb (by simp [z]))).trans (hk b ob (fun z => hb (by simp [z])) (fun z => hb (by simp [z])) q)) hf (Nat.le_refl _) new
    refine ⟨.ref s.heap.objs.size, _, I1, rfl, ⟨_, x, rfl, I.hok.fresh (Nat.le_refl _), rfl, fun ys hy => by rw [I.tuple_inj hy hq]; exact hx⟩, ⟨⟨x', ?_⟩, hs'.1.at fun o q => (sb.2 it (Ne.symm hne)).trans q, hne, hna⟩, fun b hb => ?_⟩
    · have e1 : ((i + 1 : Nat) : Int) = (i : Int) + 1 := by omega
      rw [e1]; exact he'
    · have hb' : b < s.heap.objs.size := by
        have e' : b = e ∨ b = it := by simpa using hb
        rcases e' with z | z
        · rw [z]; exact hel
        · rw [z]; exact hil
      rw [upd_ne (Nat.ne_of_lt hb')]
      exact (hf b hb).1
  done := by
    intro X hP hw hK hc i pins s σ H E I hf st hg
    subst hP hw hK
    obtain ⟨⟨old, he⟩, hit, hne, hna⟩ := st
    obtain ⟨xs, hq, hx⟩ := hg
    obtain ⟨its, rv, p, hz⟩ := I.tuple hq
    obtain ⟨f0, f1, f2, f3, f4, f5⟩ := hf it (by simp)
    have hl := rv.length
    have hn : its.toArray.size = i := by
      show its.length = i
      omega
    refine wpAny_pyNext_enum_endD (n := its.toArray.size) (Draws.tuple (prog := X.prog) (w := X.w) (A := X.A.in1) (show X.A.in1.handled = none from I.ok.hd hc) it a hna its.toArray) he ⟨by rw [hn]; exact hit, p⟩ fun h' eb => ⟨rfl, I.turned (t' := s.toks) (fun b o hb q => eb b o hb q) f0 f1 f3 f4 f5⟩
  self := fun A i s Q E st h => let ⟨⟨_, he⟩, _⟩ := st; wpAny_pyIter_enum he h
set_option maxHeartbeats 4000000 in
theorem meets_enumerate_new1 {v : Value} {o : Obj} {H : Heap → Prop} (B : Begins v o H) :
    Meets (Builtin.«enumerate.__new__» ⟨[.type "enumerate", v], []⟩) (fun _ R s => H s.heap ∧
      R (.ok (.ret (.ref (s.heap.push o).objs.size))) { s with heap := (s.heap.push o).push { cls := .type "enumerate", data := .fields #[.none, .bool false, .ref s.heap.objs.size, rawInt 0, .none, .none] } }) :=
  .of_wp fun prog w A R s h => by
    obtain ⟨hp, g, d, tk, os⟩ := s; obtain ⟨h1, h⟩ := h
    have hsub := sub_enumerate
    have q1 : ∀ {A' : Around} {E : Value → Shared → Prop} {Q : Value → Shared → Prop}, Q (.ref hp.objs.size) ⟨hp.push o, g, d, tk, os⟩ → wpAny (model prog w) A' (pyIter v) Q E ⟨hp, g, d, tk, os⟩ :=
      fun q => B.iter prog w _ _ ⟨hp, g, d, tk, os⟩ _ h1 q
    wp_walk using q1
    refine wpAny_stack_any fun st => wpAny_pure ?_
    split
    · rename_i c _ _ _ _ _
      cases (c == Value.type "enumerate")
      · wp_walk using q1
        exact ⟨_, rfl, h⟩
      · wp_walk using q1
        exact ⟨_, rfl, h⟩
    · wp_walk using q1
      exact ⟨_, rfl, h⟩
section
variable {prog : Program} {w : World} {A : Around} {E : Value → Shared → Prop} {s : Shared}
theorem call_enum1 {v : Value} {o : Obj} {H : Heap → Prop} {Q : Value → Shared → Prop} (B : Begins v o H) (h1 : H s.heap)
    (h : ∀ h', IsEnum h' (s.heap.objs.size + 1) s.heap.objs.size 0 .none → h'.get? s.heap.objs.size = some o → h'.objs.size = s.heap.objs.size + 2 →
      (∀ b o, s.heap.get? b = some o → h'.get? b = some o) → Q (.ref (s.heap.objs.size + 1)) { s with heap := h' }) :
    wpAny (model prog w) A (call (.type "enumerate") [v]) Q E s := by
  refine callType_new F.called_enumerate (by decide) (F.typeCall_enumerate_1 _) (F.newCall_enumerate_1 _) (fun obj => F.args_object_init_2 obj _) F.entry_enumerate_new
    (meets_enumerate_new1 B) ⟨h1, ?_⟩
  have hz : (s.heap.push o).objs.size = s.heap.objs.size + 1 := Heap.size_push ..
  show _ ∧ _
  rw [hz]
  have he : IsEnum ((s.heap.push o).push { cls := .type "enumerate", data := .fields #[.none, .bool false, .ref s.heap.objs.size, rawInt 0, .none, .none] }) (s.heap.objs.size + 1) s.heap.objs.size 0 .none := by
    have := Heap.get?_push_size (s.heap.push o) (o := { cls := .type "enumerate", data := .fields #[.none, .bool false, .ref s.heap.objs.size, rawInt 0, .none, .none] }) rfl
    rw [hz] at this; exact this
  refine ⟨⟨_, he, rfl⟩, h _ he (Heap.get?_push_of_some _ (Heap.get?_push_size _ B.free)) (by rw [Heap.size_push, hz]) fun b o x => Heap.get?_push_of_some _ (Heap.get?_push_of_some _ x)⟩
end
def iEnumT (K : PySem.W.Frag) (ta : TA) : TI := fun σ H R => ta σ H fun vs H1 => ∃ a xs, vs = [.ref a] ∧ SqT K H1 a xs ∧ R (IteT K a) H1
theorem pi_enumT {X : Cx} {e : Expr} {ta : TA} {p pos tpos : Pos} {elts : List Expr} {kk : Nat} (hg : Gl X "enumerate") (hm : X.mg "enumerate" = none) (ha : PA X [e] ta) (hs : starEach [e] X.env = [(false, eval e X.env)] := by rfl) :
    PI X (.Tuple elts kk tpos) (.Call (.Name "enumerate" p) [e] [] pos) (iEnumT X.K ta) := by
  refine ⟨fun pins s σ H R I h => ?_⟩
  refine Call_ (ld_blt I hg hm boot_enumerate (PyProof.Rows.callWith_type1 (thn (ha.run pos pins s σ H _ I h) fun us s1 ⟨vs, H1, I1, r1, q1⟩ => ?_) hs rfl))
  obtain ⟨a, xs, ex, hq, q⟩ := q1
  subst ex
  cases r1 with
  | cons r rr =>
    cases rr
    cases r
    obtain ⟨its, rv, p', hz⟩ := I1.tuple hq
    have hal : a < s1.heap.objs.size := by obtain ⟨_, q, _⟩ := p'; exact Heap.lt_size q
    refine call_enum1 (begins_tuple a its.toArray) p' fun h' he hit hsz hk => wpAny_pyIter_enum he ?_
    have I2 : Inv X pins σ H1 { s1 with heap := h' } := I1.kept (t' := s1.toks) hk
    refine ⟨s1.heap.objs.size + 1, [s1.heap.objs.size + 1, s1.heap.objs.size], _, _, H1, rfl, I2, turn_enumT a (s1.heap.objs.size + 1) s1.heap.objs.size, ⟨⟨.none, he⟩, ⟨_, hit, rfl, rfl⟩, Nat.succ_ne_self _, Nat.ne_of_lt hal⟩, fun b hb => ?_, q⟩
    have e' : b = s1.heap.objs.size + 1 ∨ b = s1.heap.objs.size := by simpa using hb
    have hle : s1.heap.objs.size ≤ b := by
      rcases e' with z | z
      · rw [z]; exact Nat.le_add_right _ _
      · rw [z]; exact Nat.le_refl _
    exact I1.fpOk hle (I1.hok.fresh hle)
theorem walk_enumT {K : PySem.W.Frag} {a : Addr} {xs : List V} : Walk (IteT K a) xs.length (fun H => SqT K H a xs) (YPair (fun i => some (.int (i : Nat))) (fun i => xs[i]?)) := by
  refine ⟨fun i _ hi q => ⟨xs, xs[i], q, by simp [hi]⟩, fun _ q => ⟨xs, q, rfl⟩, fun i H v H' _ q y => ?_⟩
  obtain ⟨T, x, h1, h2, h3, h4⟩ := y
  exact ⟨T, .int (i : Nat), x, h1, h2, h3, rfl, h4 xs q⟩
/-! calls -/
section
variable {X : Cx} {CX : CXT} {k n i : Nat} {f : Addr} {fd : FuncData} {ps ks : List Str} {sp : Sp} {E : XK} {x : Str} {p pos : Pos} {e : Expr} {es : List Expr} {t tk : TA} {kws : List Keyword} {g : List Value → List Value → List Value} {gV : List V → List V → List V}
/-- f(k = v, ..): keywords alone -/
def tCallKw (m : Nat) (sp : Sp) (gV : List V → List V → List V) (E : XK) (tk : TA) : TE := fun σ H Q => tk σ H fun zs H1 => zs.length = m ∧ sp (gV [] zs) H1 Q E
theorem pe_callKw (F : FnOk X.prog X.w X.K X.mg X.base CX k f fd ps sp) (hr : Room k X.A) (hg : Gl X x) (hm : X.mg x = some (.ref f)) (hk : PySem.W.keepIn X.K (.ref f) = true) (hb : KBn X.K fd ps 0 ks g gV) (hx : Passes CX X E) (hkw : PK X kws tk)
    (hall : (backToKw pos (keywordEach kws X.env)).all (·.1.isSome) = true := by rfl) (hks : (backToKw pos (keywordEach kws X.env)).filterMap (·.1) = ks := by rfl) (hdb : (x == ("__debug__" : Str)) = false := by decide)
    (hpl : ((backTo pos (starEach [] X.env)).any (·.1) || (backToKw pos (keywordEach kws X.env)).any (·.1.isNone)) = false := by rfl) :
    PE X (.Call (.Name x p) [] kws pos) (tCallKw ks.length sp gV E tk) := by
  refine ⟨fun pins s σ H Q I h => ?_⟩
  refine wpAny_Call_Name_kw (ld_glob I hg hm ?_ hdb)
  refine PySem.W.callWith_KW0 (h₀ := X.base) I.ok.mod.kin hk hall ?_ hpl
  refine thn (hkw.run pos pins s σ H _ I h) fun ws s2 ⟨zs, H2, I2, rz, l2, q2⟩ => ⟨I2.kIn, ?_⟩
  rw [hks]
  exact run_fnN (us := []) (vs := []) F hr hb hx I2 .nil rz rfl l2 q2
/-- a call of a local that holds the def at f, of which something may be raised -/
def tCallLS (i : Nat) (A : Addr → Option Sp) (E : L2.St → XK) (t : TA) : TE := fun σ H Q => ∃ f sp, σ[i]? = some (some (.ref f)) ∧ A f = some sp ∧ t σ H fun vs H1 => sp vs H1 Q (E σ)
structure HeldX (P : Program) (w : World) (K : PySem.W.Frag) (mg : Str → Option Value) (base : Heap) (k : Nat) (f : Addr) (sp : Sp) : Prop where
  ex : ∃ (fd : FuncData) (ps : List Str), FnOk P w K mg base (L2.CX P w) k f fd ps sp ∧ PySem.W.keepIn K (.ref f) = true ∧ Binds K fd ps []
theorem pe_callLS {A : Addr → Option Sp} {E : L2.St → XK} (hA : ∀ f sp, A f = some sp → HeldX X.prog X.w X.K X.mg X.base k f sp) (hr : Room k X.A) (hN : X.N[i]? = some x) (hv : Vis X.env.scope x) (hx : ∀ σ, PassesAt (L2.CX X.prog X.w) X σ (E σ)) (ha : PA X (e :: es) t)
    (hdb : (x == ("__debug__" : Str)) = false := by decide) (hcd : (x == ("__classdict__" : Str)) = false := by decide)
    (he : starEach (e :: es) X.env = (false, eval e X.env) :: starEach es X.env := by rfl) (hpl : (backTo pos (starEach es X.env)).any (·.1) = false := by rfl) : PE X (.Call (.Name x p) (e :: es) [] pos) (tCallLS i A E t) := by
  refine ⟨fun pins s σ H Q I h => ?_⟩
  obtain ⟨f, sp, hs, hS, ht⟩ := h
  obtain ⟨fd, ps, F, hk, hb⟩ := (hA f sp hS).ex
  refine wpAny_Call_Name_kw (thn ((pe_var (pos := p) hN hv hdb hcd).run pins s σ H (fun v H1 => v = .ref f ∧ H1 = H) I ⟨.ref f, hs, rfl, rfl⟩) fun u s1 ⟨v, H1, I1, r1, q1⟩ => ?_)
  obtain ⟨rfl, rfl⟩ := q1
  cases r1
  refine PySem.W.callWith_K (h₀ := X.base) I.ok.mod.kin hk (thn (ha.run pos pins s1 σ _ _ I1 ht) fun us s2 ⟨vs, H2, I2, r, q⟩ => ⟨I2.kIn, ?_⟩) he hpl
  exact run_fnS F hr hb (hx σ) I2 r q
end

/-! tuples that are known to have no dict -/
def tupO (its : Array Value) (n : Nat) : Obj := { cls := .type "tuple", data := .seq its n }
def TupD (H : Hp) (p : Addr) (xs : List V) : Prop := ∃ (its : Array Value) (n : Nat), H p = some (.frz (tupO its n) (.tup xs))
theorem TupD.sq {K : PySem.W.Frag} {H : Hp} {p : Addr} {xs : List V} (h : TupD H p xs) : SqT K H p xs := by
  obtain ⟨its, n, e⟩ := h
  exact .inl (.inr ⟨_, e⟩)
theorem TupD.same {H H' : Hp} {p : Addr} {xs : List V} (h : TupD H p xs) (s : Same H H') : TupD H' p xs := by
  obtain ⟨its, n, e⟩ := h
  exact ⟨its, n, s _ _ e⟩
/-- what a new tuple of xs asks -/
def NewT (xs : List V) (H : Hp) (Q : VK) : Prop := ∀ p H', Same H H' → TupD H' p xs → Q (.ref p) H'
theorem same_new {H : Hp} {p : Addr} {o : HO} (h : H p = none) : Same H (upd H p o) := fun b u e => by
  rw [upd_ne (ne_of_none e h)]
  exact e
theorem laidD {X : Cx} {pins : List (Addr × Obj)} {σ : L2.St} {H : Hp} {s : Shared} {xs : List V} {us : List Value} {t : Nat} (I : L2.Inv X pins σ H s) (hz : xs.length ≤ sizeLine) (r : Vals xs us) :
    ∃ H', L2.Inv X pins σ H' { s with heap := s.heap.push { cls := .type "tuple", data := .seq us.toArray }, toks := t } ∧ Same H H' ∧ TupD H' s.heap.objs.size xs := by
  have hf : H s.heap.objs.size = none := I.hok.fresh (Nat.le_refl _)
  refine ⟨upd H s.heap.objs.size (.frz (tupO us.toArray 0) (.tup xs)), I.laid (t' := t) (fun b u e => Heap.get?_push_of_some _ e) (Nat.le_refl _) ?_, same_new hf, ⟨_, _, upd_same⟩⟩
  exact ⟨Heap.get?_push_size _ rfl, hz, us, r, IsTup.new _ _⟩
section
variable {X : Cx}
/-- tuple(l) of a list -/
theorem call_tuple_D : CallR X (.type "tuple") (fun xs H Q => ∃ p ys, xs = [.ref p] ∧ SqL X.K H p ys ∧ NewT ys H Q) := by
  intro pins s σ H xs us Q I r h
  obtain ⟨p, ys, rfl, hq, q⟩ := h
  obtain ⟨u, rfl, rx⟩ := vals1 r
  cases rx
  obtain ⟨its, r', pl, hz⟩ := I.list hq
  have hlen := r'.length
  refine call_tuple_list pl.isList (fun h' kp => ?_) (by simp only [List.size_toArray] <;> omega)
  have I1 : L2.Inv X pins σ H { s with heap := h' } := I.kept (t' := s.toks) kp
  obtain ⟨H', I', s', d'⟩ := laidD (t := s.toks) I1 hz r'
  exact ⟨.ref h'.objs.size, H', I', rfl, q _ _ s' d'⟩
def tBMD (r : V → List V → Hp → VK → Prop) (to : TE) (t : TA) : TE := fun σ H Q => to σ H fun x H1 => (∃ p xs, x = .ref p ∧ TupD H1 p xs) ∧ t σ H1 fun xs H2 => r x xs H2 Q
variable {o e : Expr} {es : List Expr} {to : TE} {t : TA} {name : Str} {apos cpos : Pos} {id : String} {r : V → List V → Hp → VK → Prop}
theorem pe_bmD (pa : PlainAttrs "tuple") (slot : Slot "tuple" name id) (hty : typeOf (.builtin id) = pure (.type "method_descriptor")) (hm : MtR X id r) (ho : PE X o to) (ha : PA X (e :: es) t)
    (hbase : attributeBase o name X.env (eval o X.env) = eval o X.env := by rfl)
    (hfew : ((backTo cpos (starEach (e :: es) X.env)).all (fun x => !x.1) && (backToKw cpos (keywordEach [] X.env)).all (fun x => x.1.isSome)
      && decide ((e :: es).length + ([] : List Keyword).length + (if ([] : List Keyword).isEmpty then 0 else 1) < 30)) = true := by rfl)
    (hline : (apos.endLine == cpos.line) = true := by rfl) (hs : starEach (e :: es) X.env = (false, eval e X.env) :: starEach es X.env := by rfl) (hplain : (backTo cpos (starEach es X.env)).any (·.1) = false := by rfl) :
    PE X (.Call (.Attribute o name apos) (e :: es) [] cpos) (tBMD r to t) := by
  refine ⟨fun pins s σ H Q I h => ?_⟩
  refine wpAny_Call_method_late hbase hfew hline rfl (thn (ho.run pins s σ H _ I h) fun v s1 ⟨x, H1, I1, r1, ty, q1⟩ => ?_)
  have hh : s1.TypeIs v "tuple" ∧ ∀ a, v = .ref a → ∃ ob, s1.heap.get? a = some ob ∧ ob.dict = none := by
    obtain ⟨p, xs, rfl, its0, n0, e1⟩ := ty
    cases r1
    obtain ⟨g1, g2, its, g3, o2, g4, g5, g6⟩ := I1.hok p _ e1
    refine ⟨⟨o2, g4, g5⟩, fun a z => ?_⟩
    cases z
    exact ⟨_, g1, rfl⟩
  obtain ⟨h1, h2⟩ := hh
  refine ⟨"tuple", id, pa, slot, hty, h1, h2, ?_⟩
  have hA := ha.run cpos pins s1 σ H1 _ I1 q1
  rw [hs] at hA ⊢
  refine Calls.callWith_builtin (by show (false || (backTo cpos (starEach es X.env)).any (·.1)) = false; rw [hplain] <;> rfl) (Calls.evalArgs_plain ?_)
  exact thn hA fun us s2 ⟨vs, H2, I2, r2, q2⟩ => hm pins s2 σ H2 x vs v us Q I2 r1 r2 q2
end
/-! l.extend(t) of a tuple -/
section
variable {X : Cx}
def rExtT : V → List V → Hp → VK → Prop := fun x vs H Q => ∃ l b xs zs, x = .ref l ∧ vs = [.ref b] ∧ H l = some (.lst xs) ∧ TupD H b zs ∧ xs.length + zs.length ≤ sizeLine ∧ Q .non (upd H l (.lst (xs ++ zs)))
theorem mt_extendT : MtR X "list.extend" rExtT := by
  intro pins s σ H x vs v us Q I rx rv h
  obtain ⟨l, b, xs, zs, rfl, rfl, hH, ⟨its0, n0, hB⟩, hz, q⟩ := h
  cases rx
  obtain ⟨u, rfl, ru⟩ := rv.one
  cases ru
  obtain ⟨z, its, n, r, hl, e⟩ := I.lstM hH
  obtain ⟨g1, g2, its2, r2, o2, g4, g5, n2, g6⟩ := I.hok b _ hB
  have eo : o2 = tupO its0 n0 := Option.some.inj (g4.symm.trans g1)
  subst eo
  have ei : its0 = its2.toArray := by
    have := g6
    unfold tupO at this
    injection this
  subst ei
  have hsz : its.toArray.size + its2.toArray.size ≤ sizeLine := by
    have h1 := r.length
    have h2 := r2.length
    rw [List.size_toArray, List.size_toArray]
    omega
  have hlong : ¬ (!its.toArray.isEmpty && Builtin.List.listTooLong (its.toArray.size + its2.toArray.size)) = true := by
    rw [notLongL hsz, Bool.and_false]
    exact Bool.false_ne_true
  refine call_meets F.slot_list_extend ⟨_, e, rfl⟩ F.entry_list_extend (F.args_list_extend_2 _ _)
    (AutoSeq1.list_extend_list_tuple_0 l its.toArray n b its2.toArray n0 hlong (by rw [List.size_toArray]; omega) (by omega)) ⟨e, g1, ?_⟩
  refine ⟨.non, _, I.lset (its' := its ++ its2) hH e (by simp) (r.append r2) ?_, rfl, q⟩
  rw [List.length_append]
  omega
end
/-! zip of two tuples -/
theorem walk_zipT {K : PySem.W.Frag} {a b : Addr} {xs ys : List V} {n : Nat} (hn : n = min xs.length ys.length) : Walk (ItzT K a b) n (fun H => SqT K H a xs ∧ SqT K H b ys) (YPair (fun i => xs[i]?) (fun i => ys[i]?)) := by
  subst hn
  refine ⟨fun i _ hi q => ?_, fun _ q => ⟨xs, ys, q.1, q.2, by omega⟩, fun i H v H' _ q y => ?_⟩
  · have h1 : i < xs.length := by omega
    have h2 : i < ys.length := by omega
    exact ⟨xs, ys, xs[i], ys[i], q.1, q.2, by simp [h1], by simp [h2]⟩
  · obtain ⟨T, x, z, h1, h2, h3, h4, h5⟩ := y
    exact ⟨T, x, z, h1, h2, h3, h4 xs q.1, h5 ys q.2⟩
end DL
set_option Elab.async false
set_option linter.all false
set_option maxRecDepth 100000
set_option maxHeartbeats 2000000
/-! bundles: a def of the text with its promise (Ca), an error class (Er), what raising one gives -/
namespace DL
open PySem PySem.Spec PyProof.Rows L2 RZ
/-- the def st stands under the name x -/
structure Up (K : PySem.W.Frag) (mg : Str → Option Value) (x : Str) (st : Stmt) : Prop where
  ex : ∃ (f : Addr) (fd : FuncData), Fun K x x st f fd ∧ mg x = some (.ref f)
def BindOk (x : Str) (st : Stmt) (ps : List Str) : Prop := ∀ (kV doc pm : Value) (an : Option Addr) (cdv ct : Value) (us : List Value), us.length = ps.length →
  bindArgs (PySem.W.fnOf x x (defArgs st) (defBody st) (defScope st) .none kV doc pm an cdv ct) ⟨us, []⟩ = pure (ps.zip us)
def KwOk (x : Str) (st : Stmt) (ps ks : List Str) (g : List Value → List Value) : Prop := ∀ (kV doc pm : Value) (an : Option Addr) (cdv ct : Value) (ws : List Value), ws.length = ks.length →
  bindArgs (PySem.W.fnOf x x (defArgs st) (defBody st) (defScope st) .none kV doc pm an cdv ct) ⟨[], ks.zip ws⟩ = pure (ps.zip (g ws))
/-- .. and keeps the promise sp -/
structure Ca (P : Program) (w : World) (K : PySem.W.Frag) (mg : Str → Option Value) (base : Heap) (k : Nat) (x : Str) (st : Stmt) (ps : List Str) (sp : Sp) : Prop where
  ex : ∃ (f : Addr) (fd : FuncData), Fun K x x st f fd ∧ mg x = some (.ref f) ∧ FnOk P w K mg base (L2.CX P w) k f fd ps sp
theorem fn_up {P : Program} {w : World} {K : PySem.W.Frag} {mg : Str → Option Value} {base : Heap} {k : Nat} {f : Addr} {fd : FuncData} {ps : List Str} {sp : Sp} (F : FnOk P w K mg base CX0 k f fd ps sp) : FnOk P w K mg base (L2.CX P w) k f fd ps sp :=
  ⟨F.len, fun A outer s H args us vs Q E hr he hb hv hs => codeAny_mono (F.run A outer s H args us vs Q E hr he hb hv hs) fun r s' q => by
    cases r with
    | ok fl =>
      cases fl with
      | ret u => exact q
      | next => exact q
      | brk => exact q
      | cont => exact q
    | error e => exact False.elim q⟩
section
variable {P : Program} {w : World} {K : PySem.W.Frag} {mg : Str → Option Value} {base : Heap}
theorem Ca.imp {k : Nat} {x : Str} {st : Stmt} {ps : List Str} {sp sp' : Sp} (c : Ca P w K mg base k x st ps sp) (h : ∀ vs H Q E, sp' vs H Q E → sp vs H Q E) : Ca P w K mg base k x st ps sp' := by
  obtain ⟨f, fd, F, hm, G⟩ := c.ex
  exact ⟨f, fd, F, hm, G.imp h⟩
/-- a def that raises nothing, by its body -/
theorem ca0 {x : Str} {st : Stmt} {N ps : List Str} {k : Nat} {sp : Sp} (U : Up K mg x st) (S : FnScope N ps (defScope st)) (len : ∀ vs H Q E, sp vs H Q E → vs.length = ps.length)
    (hbody : ∀ (f : Addr) (cdv : Value) (A : Around) (outer : List Env) (s : Shared) (H : Hp) (vs : List V) (Q : VK) (E : XK), Room k (A.deeper (envOfC x (defScope st) s.heap.objs.size f cdv)) → sp vs H Q E →
      ∃ t, PSs (cxOf CX0 P w K mg base N x (defScope st) f cdv A outer s H E).nox (defBody st) t ∧ t { nx := fun _ H' => Q .non H', rt := Q } (start N vs) H) : Ca P w K mg base (k + 1) x st ps sp := by
  obtain ⟨f, fd, F, hm⟩ := U.ex
  exact ⟨f, fd, F, hm, fn_up (F.ok S len (hbody f))⟩
/-- a def that may raise -/
theorem caX {x : Str} {st : Stmt} {N ps : List Str} {k : Nat} {sp : Sp} (U : Up K mg x st) (S : FnScope N ps (defScope st)) (len : ∀ vs H Q E, sp vs H Q E → vs.length = ps.length)
    (hbody : ∀ (f : Addr) (cdv : Value) (A : Around) (outer : List Env) (s : Shared) (H : Hp) (vs : List V) (Q : VK) (E : XK), Room k (A.deeper (envOfC x (defScope st) s.heap.objs.size f cdv)) → sp vs H Q E →
      ∃ t, PSs (cxOf (L2.CX P w) P w K mg base N x (defScope st) f cdv A outer s H E) (defBody st) t ∧ t { nx := fun _ H' => Q .non H', rt := Q } (start N vs) H) : Ca P w K mg base (k + 1) x st ps sp := by
  obtain ⟨f, fd, F, hm⟩ := U.ex
  exact ⟨f, fd, F, hm, F.okX S len (hbody f)⟩
end
section
variable {X : Cx} {k j : Nat} {x : Str} {st : Stmt} {ps ks : List Str} {sp : Sp} {E : L2.St → XK} {p pos : Pos} {e : Expr} {es : List Expr} {t tk : TA} {kws : List Keyword}
theorem ps0 : ∀ σ, PassesAt (L2.CX X.prog X.w) X σ ((fun _ => E0 : L2.St → XK) σ) := fun _ _ _ _ _ _ _ h => by
  obtain ⟨_, _, _, _, _, _, _, _, _, _, _, _, z⟩ := h
  exact z.elim
/-- a call f(e, ..) of a def of the text; what it may raise goes where hx says (ps0: nothing) -/
theorem pe_ca (c : Ca X.prog X.w X.K X.mg X.base k x st ps sp) (b : BindOk x st ps) (hr : Room j X.A) (hx : ∀ σ, PassesAt (L2.CX X.prog X.w) X σ (E σ)) (ha : PA X (e :: es) t) (hk : k ≤ j := by decide) (hg : Gl X x := by rfl)
    (hdb : (x == ("__debug__" : Str)) = false := by decide) (he : starEach (e :: es) X.env = (false, eval e X.env) :: starEach es X.env := by rfl) (hpl : (backTo pos (starEach es X.env)).any (·.1) = false := by rfl) :
    PE X (.Call (.Name x p) (e :: es) [] pos) (tCallS sp E t) := by
  obtain ⟨f, fd, F, hm, G⟩ := c.ex
  exact pe_callS G (hr.mono hk) hg hm F.kp (F.binds b) hx ha hdb he hpl
/-- keywords alone -/
def tCallKs (m : Nat) (sp : Sp) (gV : List V → List V) (E : XK) (tk : TA) : TE := fun σ H Q => tk σ H fun zs H1 => zs.length = m ∧ sp (gV zs) H1 Q E
theorem pe_cak {g : List Value → List Value} {gV : List V → List V} (c : Ca X.prog X.w X.K X.mg X.base k x st ps sp) (b : KwOk x st ps ks g) (hgv : ∀ {zs : List V} {ws : List Value}, Vals zs ws → Vals (gV zs) (g ws)) (hr : Room j X.A) (hkw : PK X kws tk) (hk : k ≤ j := by decide) (hg : Gl X x := by rfl)
    (hall : (backToKw pos (keywordEach kws X.env)).all (·.1.isSome) = true := by rfl) (hks : (backToKw pos (keywordEach kws X.env)).filterMap (·.1) = ks := by rfl) (hdb : (x == ("__debug__" : Str)) = false := by decide)
    (hpl : ((backTo pos (starEach [] X.env)).any (·.1) || (backToKw pos (keywordEach kws X.env)).any (·.1.isNone)) = false := by rfl) :
    PE X (.Call (.Name x p) [] kws pos) (tCallKs ks.length sp gV E0 tk) := by
  obtain ⟨f, fd, F, hm, G⟩ := c.ex
  obtain ⟨oc, od, kV, doc, pm, an, cdv, ct, osl, rfl, lk, hcd⟩ := F.ex
  have hb : KBn X.K (PySem.W.fnOf x x (defArgs st) (defBody st) (defScope st) .none kV doc pm an cdv ct) ps 0 ks (fun _ ws => g ws) (fun _ zs => gV zs) :=
    ⟨fun s us ws _ l1 l2 => by
      have e0 : us = [] := List.eq_nil_of_length_eq_zero l1
      subst e0
      exact .of_eq (b kV doc pm an cdv ct ws l2), fun _ r => hgv r⟩
  exact pe_callKw G (hr.mono hk) hg hm F.kp hb passL hkw hall hks hdb hpl
end
/-! ### errors -/
/-- what the text says of the error class of the name x, at C, whose __init__ (at f) stores what -/
structure Er (K : PySem.W.Frag) (mg : Str → Option Value) (x : Str) (C f : Addr) : Prop where
  gC : mg x = some (.ref C)
  ox : OexC K C
  iC : PySem.W.findIn K (.ref C) "__init__" = some (some (.ref f))
  tI : PySem.W.typeIn K (.ref f) = some (.type "function")
  xf : XfC K C
  nw : PySem.W.findIn K (.ref C) "what" = some none
  te : PySem.W.exmOne K (.ref C) (.ref C) = some true
theorem exm_self {K : PySem.W.Frag} {S : Addr} (h1 : PySem.W.subIn K (.ref S) (.type "BaseException") = some true) (h2 : PySem.W.isClsIn K S = true) (h3 : PySem.W.typeIn K (.ref S) = some (.type "type")) (h4 : PySem.W.subIn K (.ref S) (.ref S) = some true) :
    PySem.W.exmOne K (.ref S) (.ref S) = some true := by
  have e1 : (PySem.W.subIn K (.ref S) (.type "BaseException") == some true) = true := by rw [h1] <;> rfl
  have e2 : ((PySem.W.clsIn K S).isSome && PySem.W.typeIn K (.ref S) == some (.type "type")) = true := by
    have h2' : (PySem.W.clsIn K S).isSome = true := h2
    rw [h2', h3] <;> rfl
  show (if (PySem.W.subIn K (.ref S) (.type "BaseException") == some true) = true then (if ((PySem.W.clsIn K S).isSome && PySem.W.typeIn K (.ref S) == some (.type "type")) = true then PySem.W.subIn K (.ref S) (.ref S) else none) else none) = some true
  rw [if_pos e1, if_pos e2]
  exact h4
/-- what the way out of raise X(v) is: a new dict that holds what -/
def RaisesW (C : Addr) (v : V) (H : Hp) (E : XK) : Prop := ∀ (d : Addr) (H' : Hp), Same H H' → H d = none → H' d = some (.xd [(("what" : Str), v)]) → E (.ref C) (some d) H'
/-- Refused.__init__: self.what = what -/
def spInitE (K : PySem.W.Frag) : Sp := fun vs H Q _ => ∃ (a C : Addr) (v : V), vs = [.ref a, v] ∧ OexC K C ∧ PySem.W.findIn K (.ref C) "what" = some none ∧ H a = some (exo a C none) ∧
  ∀ dx, H dx = none → dx ≠ a → Q .non (upd (upd H dx (exd dx [(("what" : Str), v)])) a (exo a C (some dx)))
structure ErI (P : Program) (w : World) (K : PySem.W.Frag) (mg : Str → Option Value) (base : Heap) (f : Addr) : Prop where
  ex : ∃ fd : FuncData, FnOk P w K mg base (L2.CX P w) 1 f fd ["self", "what"] (spInitE K) ∧ Binds K fd ["self", "what"] []
section
variable {X : Cx} {x : Str} {C f : Addr} {te : TE} {W : WX} {e : Expr} {p pos pos' : Pos} {j : Nat}
def tMono (t : TE) : TE := fun σ H Q => ∃ Q0 : VK, t σ H Q0 ∧ ∀ x H1, Q0 x H1 → Q x H1
theorem pe_mono (he : PE X e te) : PE X e (tMono te) := ⟨fun pins s σ H Q I h => by
  obtain ⟨Q0, h0, hm⟩ := h
  exact thn (he.run pins s σ H Q0 I h0) fun u s1 ⟨v, H1, I1, r, q⟩ => ⟨v, H1, I1, r, hm _ _ q⟩⟩
/-- raise X(e) -/
def tRaiseW (C : Addr) (W : WX) (te : TE) : TS := fun _ σ H => te σ H fun v H1 => RaisesW C v H1 fun cls d H' => W cls d σ H'
theorem ps_raiseW (T : Er X.K X.mg x C f) (F : ErI X.prog X.w X.K X.mg X.base f) (hc : X.calm = true) (hr : Room j X.A) (tk : Takes X W) (he : PE X e te) (hj : 2 ≤ j := by decide) (hg : Gl X x := by rfl)
    (hdb : (x == ("__debug__" : Str)) = false := by decide) (hst : starEach (e :: []) X.env = (false, eval e X.env) :: starEach [] X.env := by rfl) (hpl : (backTo pos (starEach [] X.env)).any (·.1) = false := by rfl) :
    PS X (.Raise (some (.Call (.Name x p) [e] [] pos)) none pos') (tRaiseW C W te) := by
  obtain ⟨fd, G, hb⟩ := F.ex
  have hps := ps_raise (pos := pos') hc tk (pmk_oex (p := p) (pos := pos) (ds := []) (dvs := []) T.ox T.iC T.tI G (hr.mono hj) hb .nil passL hg T.gC (pa_cons (pe_mono he) pa_nil hst) hdb hst hpl)
  refine ⟨fun pins s σ H D I h => hps.run pins s σ H D I ?_⟩
  refine ⟨_, h, fun v H1 q => ⟨by show 1 ≤ 1000; decide, fun a ha => ⟨a, C, v, rfl, T.ox, T.nw, upd_same, fun dx hdx hne => ⟨rfl, dx, [(("what" : Str), v)], upd_same, ?_, ?_, ?_⟩⟩⟩⟩
  · rw [upd_ne hne, upd_same]
  · rw [upd_ne hne] at hdx
    exact hdx
  · have hd1 : H1 dx = none := by
      rw [upd_ne hne] at hdx
      exact hdx
    refine q dx _ (fun b o hb' => ?_) hd1 upd_same
    have h1 : b ≠ dx := ne_of_none hb' hd1
    have h2 : b ≠ a := ne_of_none hb' ha
    rw [upd_ne h1, del_ne h2, upd_ne h2, upd_ne h1, upd_ne h2]
    exact hb'
end
end DL
set_option Elab.async false
set_option linter.all false
set_option maxRecDepth 100000
set_option maxHeartbeats 2000000
/-! the law's source, data of calendars -/
namespace DL
open PySem PySem.Spec PyProof.Rows L2 RZ
theorem iteFd {c : Bool} {A B : Prop} (h : c = false) (b : B) : if c = true then A else B := by
  rw [h]
  exact iteF b
theorem iteTd {c : Bool} {A B : Prop} (h : c = true) (a : A) : if c = true then A else B := by
  rw [h]
  exact iteT a
theorem Same.seqT {K : PySem.W.Frag} {H H' : Hp} {a : Addr} {xs : List V} (e : Same H H') (h : SqT K H a xs) : SqT K H' a xs := by
  rcases h with (h | ⟨o, h⟩) | h
  · exact .inl (.inl (e _ _ h))
  · exact .inl (.inr ⟨o, e _ _ h⟩)
  · exact .inr h
theorem Same.new {H : Hp} {p : Addr} {o : HO} (h : H p = none) : Same H (upd H p o) := fun b u e => by
  rw [upd_ne (ne_of_none e h)]
  exact e
theorem Same.mut {H H' : Hp} {p : Addr} {o : HO} (e : Same H H') (h : H p = none) : Same H (upd H' p o) := fun b u ha => by
  rw [upd_ne (ne_of_none ha h)]
  exact e b u ha
theorem same_back {H H' : Hp} {p : Addr} (e : Same H H') (h : H' p = none) : H p = none := e.free h
/-! the drawing source: a list of two ints at a -/
def SrcV (x y : Int) : Prop := 0 ≤ x ∧ 0 ≤ y ∧ y < 2147483647
def Src (a : Addr) (H : Hp) : Prop := ∃ x y : Int, H a = some (.lst [.int x, .int y]) ∧ SrcV x y
/-- only the source at a has changed; new objects may have come -/
def Stay (a : Addr) (H H' : Hp) : Prop := Src a H' ∧ ∀ b o, b ≠ a → H b = some o → H' b = some o
theorem Stay.refl {a : Addr} {H : Hp} (s : Src a H) : Stay a H H := ⟨s, fun _ _ _ e => e⟩
theorem Stay.trans {a : Addr} {H H1 H2 : Hp} (x : Stay a H H1) (y : Stay a H1 H2) : Stay a H H2 := ⟨y.1, fun b o n e => y.2 b o n (x.2 b o n e)⟩
theorem Src.same {a : Addr} {H H' : Hp} (s : Src a H) (e : Same H H') : Src a H' := by
  obtain ⟨x, y, h, v⟩ := s
  exact ⟨x, y, e _ _ h, v⟩
theorem Stay.same {a : Addr} {H H1 H2 : Hp} (x : Stay a H H1) (y : Same H1 H2) : Stay a H H2 := ⟨x.1.same y, fun b o n e => y b o (x.2 b o n e)⟩
theorem Stay.of_same {a : Addr} {H H1 : Hp} (s : Src a H) (y : Same H H1) : Stay a H H1 := (Stay.refl s).same y
theorem Src.ne_none {a : Addr} {H : Hp} (s : Src a H) {p : Addr} (h : H p = none) : p ≠ a := fun e => by
  obtain ⟨x, y, q, _⟩ := s
  rw [← e, h] at q
  cases q
theorem Stay.none {a : Addr} {H H1 : Hp} (s : Src a H) (x : Stay a H H1) {p : Addr} (h : H1 p = none) : H p = none := by
  cases q : H p with
  | none => rfl
  | some o =>
    have n : p ≠ a := x.1.ne_none h
    rw [x.2 p o n q] at h
    cases h
/-- a list or tuple that is not the source stands as before -/
theorem src_ne_t {a p : Addr} {H : Hp} {o : HO} (s : Src a H) (h : H p = some o) (n : ∀ x y : Int, o ≠ .lst [.int x, .int y]) : p ≠ a := fun e => by
  obtain ⟨x, y, q, _⟩ := s
  rw [← e, h] at q
  exact n x y (Option.some.inj q)
/-! data -/
def TupI (K : PySem.W.Frag) (H : Hp) (a : Addr) (ns : List Int) : Prop := SqT K H a (ns.map V.int)
def TupTI (K : PySem.W.Frag) (H : Hp) (a : Addr) (nss : List (List Int)) : Prop := ∃ qs : List Addr, SqT K H a (qs.map V.ref) ∧ qs.length = nss.length ∧ ∀ (i : Nat) (q : Addr) (ns : List Int), qs[i]? = some q → nss[i]? = some ns → TupI K H q ns
theorem TupI.same {K : PySem.W.Frag} {H H' : Hp} {a : Addr} {ns : List Int} (h : TupI K H a ns) (e : Same H H') : TupI K H' a ns := Same.seqT e h
theorem TupTI.same {K : PySem.W.Frag} {H H' : Hp} {a : Addr} {nss : List (List Int)} (h : TupTI K H a nss) (e : Same H H') : TupTI K H' a nss := by
  obtain ⟨qs, h1, h2, h3⟩ := h
  exact ⟨qs, Same.seqT e h1, h2, fun i q ns a b => (h3 i q ns a b).same e⟩
/-- a pattern -/
def patB (ns : List Int) : Bool := (ns.map fun s => decide (2 ≤ s)).all id && ((ns.zip (ns.drop 1)).map fun p => decide (p.2 ≤ p.1)).all id
/-- a tuple of tuples of ints -/
def TupTD (H : Hp) (a : Addr) (nss : List (List Int)) : Prop := ∃ qs : List Addr, TupD H a (qs.map V.ref) ∧ qs.length = nss.length ∧ ∀ (i : Nat) (q : Addr) (ns : List Int), qs[i]? = some q → nss[i]? = some ns → TupD H q (ns.map V.int)
theorem TupTD.ti {K : PySem.W.Frag} {H : Hp} {a : Addr} {nss : List (List Int)} (h : TupTD H a nss) : TupTI K H a nss := by
  obtain ⟨qs, h1, h2, h3⟩ := h
  exact ⟨qs, h1.sq, h2, fun i q ns a b => (h3 i q ns a b).sq⟩
theorem TupTD.same {H H' : Hp} {a : Addr} {nss : List (List Int)} (h : TupTD H a nss) (e : Same H H') : TupTD H' a nss := by
  obtain ⟨qs, h1, h2, h3⟩ := h
  exact ⟨qs, h1.same e, h2, fun i q ns a b => (h3 i q ns a b).same e⟩
/-- an instance of the class at C: a calendar of these births and days -/
def CalAt (K : PySem.W.Frag) (C : Addr) (H : Hp) (c : Addr) (bs : List Int) (ds : List (List Int)) : Prop := ∃ (dx b d : Addr) (fs : List (Str × V)), H c = some (.ins C dx fs) ∧ fs.lookup ("born" : Str) = some (.ref b) ∧ fs.lookup ("days" : Str) = some (.ref d) ∧ TupD H b (bs.map V.int) ∧ TupTD H d ds
theorem CalAt.same {K : PySem.W.Frag} {C : Addr} {H H' : Hp} {c : Addr} {bs : List Int} {ds : List (List Int)} (h : CalAt K C H c bs ds) (e : Same H H') : CalAt K C H' c bs ds := by
  obtain ⟨dx, b, d, fs, h1, h2, h3, h4, h5⟩ := h
  exact ⟨dx, b, d, fs, e _ _ h1, h2, h3, h4.same e, h5.same e⟩
theorem CalAt.op {K : PySem.W.Frag} {C : Addr} {H : Hp} {c : Addr} {bs : List Int} {ds : List (List Int)} (h : CalAt K C H c bs ds) : ∃ (dx b d : Addr) (fs : List (Str × V)), H c = some (.ins C dx fs) ∧ fs.lookup ("born" : Str) = some (.ref b) ∧ fs.lookup ("days" : Str) = some (.ref d) ∧ TupI K H b bs ∧ TupTI K H d ds := by
  obtain ⟨dx, b, d, fs, h1, h2, h3, h4, h5⟩ := h
  exact ⟨dx, b, d, fs, h1, h2, h3, h4.sq, h5.ti⟩
def lessI (ns : List Int) : Int := ns.sum - (ns.length : Int)
def aliveAt (bs : List Int) (ds : List (List Int)) (d : Nat) : Int := ((bs.filter fun b => decide (b ≤ (d : Int))).length : Int) - ((ds.take d).map lessI).sum
/-- what the text says of the class Calendar -/
structure ClC (K : PySem.W.Frag) (mg : Str → Option Value) (C f : Addr) : Prop where
  cl : Cls K C
  nB : NoAttr K C "born"
  nD : NoAttr K C "days"
  mgC : mg "Calendar" = some (.ref C)
  mkC : Mk K C f
/-- built-in names that the module does not bind -/
structure Bl (mg : Str → Option Value) : Prop where
  len : mg "len" = none
  sum : mg "sum" = none
  min : mg "min" = none
  max : mg "max" = none
  int : mg "int" = none
  tuple : mg "tuple" = none
  isinstance : mg "isinstance" = none
  all : mg "all" = none
  range : mg "range" = none
  enumerate : mg "enumerate" = none
  zip : mg "zip" = none
  bool : mg "bool" = none
  list : mg "list" = none
end DL
set_option Elab.async false
set_option linter.all false
set_option maxRecDepth 100000
set_option maxHeartbeats 2000000
/-! comprehensions over Same; types of tuples -/
namespace DL
open PySem PySem.Spec PyProof.Rows L2 RZ
def givn (n : Nat) (k : Nat → Bool) (v : Nat → V) : List V := ((List.range n).filter k).map v
theorem givn_yes {n : Nat} {k : Nat → Bool} {v : Nat → V} (h : k n = true) : givn (n + 1) k v = givn n k v ++ [v n] := by
  simp [givn, List.range_succ, h]
theorem givn_no {n : Nat} {k : Nat → Bool} {v : Nat → V} (h : k n = false) : givn (n + 1) k v = givn n k v := by
  simp [givn, List.range_succ, h]
theorem givn_len (n : Nat) (k : Nat → Bool) (v : Nat → V) : (givn n k v).length ≤ n := by
  unfold givn
  rw [List.length_map]
  have h := List.length_filter_le k (List.range n)
  rw [List.length_range] at h
  exact h
theorem range_getD {α : Type} (ns : List α) (d : α) : (List.range ns.length).map (fun i => ns.getD i d) = ns := by
  apply List.ext_getElem
  · simp
  · intro i h1 h2
    simp [h2]
theorem givn_filter {α : Type} (ns : List α) (d : α) (k : α → Bool) (f : α → V) : givn ns.length (fun i => k (ns.getD i d)) (fun i => f (ns.getD i d)) = (ns.filter k).map f := by
  have h := range_getD ns d
  conv => rhs; rw [← h, List.filter_map, List.map_map]
  rfl
theorem givn_all {α : Type} (ns : List α) (d : α) (f : α → V) : givn ns.length (fun _ => true) (fun i => f (ns.getD i d)) = ns.map f := by
  have h := givn_filter ns d (fun _ => true) f
  rw [List.filter_eq_self.mpr (fun _ _ => rfl)] at h
  exact h
/-- behind i turns: nothing else has changed, and the new list at D holds what was given -/
def Cw (H0 : Hp) (k : Nat → Bool) (v : Nat → V) (D : Addr) (i : Nat) (H : Hp) : Prop := H0 D = none ∧ Same H0 H ∧ H D = some (.lst (givn i k v))
theorem cw0 {H0 : Hp} {k : Nat → Bool} {v : Nat → V} {D : Addr} (h : H0 D = none) : Cw H0 k v D 0 (upd H0 D (.lst [])) := ⟨h, Same.new h, upd_same⟩
theorem cwY {H0 H H4 : Hp} {k : Nat → Bool} {v : Nat → V} {D : Addr} {i : Nat} {y : V} (p : Cw H0 k v D i H) (e : Same H H4) (hi : i < 100000) (hk : k i = true) (hv : y = v i) :
    ∃ acc, H4 D = some (.lst acc) ∧ acc.length < sizeLine ∧ Cw H0 k v D (i + 1) (upd H4 D (.lst (acc ++ [y]))) := by
  obtain ⟨p1, p2, p3⟩ := p
  refine ⟨_, e _ _ p3, Nat.lt_of_le_of_lt (givn_len i k v) (Nat.lt_of_lt_of_le hi (by decide)), p1, Same.mut (p2.trans e) p1, ?_⟩
  rw [givn_yes hk, hv]
  exact upd_same
theorem cwN {H0 H H3 : Hp} {k : Nat → Bool} {v : Nat → V} {D : Addr} {i : Nat} (p : Cw H0 k v D i H) (e : Same H H3) (hk : k i = false) : Cw H0 k v D (i + 1) H3 := by
  obtain ⟨p1, p2, p3⟩ := p
  refine ⟨p1, p2.trans e, ?_⟩
  rw [givn_no hk]
  exact e _ _ p3
/-- the type of a tuple that is read -/
theorem tyT {K : PySem.W.Frag} {H : Hp} {a : Addr} {xs : List V} (h : SqT K H a xs) : TyX K H (.ref a) (.type "tuple") := by
  rcases h with (h | ⟨o, h⟩) | ⟨o, its, n, h1, h2, _⟩
  · exact .base (.tup h)
  · exact .fTuple h
  · exact .kTuple h1 h2
theorem getD_of {α : Type} {ns : List α} {i : Nat} {x d : α} (h : ns[i]? = some x) : ns.getD i d = x := by
  rw [List.getD_eq_getElem?_getD, h] <;> rfl
theorem map_of {α : Type} {ns : List α} {f : α → V} {i : Nat} {x : V} (h : (ns.map f)[i]? = some x) : ∃ z, ns[i]? = some z ∧ x = f z := by
  rw [List.getElem?_map] at h
  cases e : ns[i]? with
  | none =>
    rw [e] at h
    cases h
  | some z =>
    rw [e] at h
    exact ⟨z, rfl, (Option.some.inj h).symm⟩
theorem bool_all (ns : List Int) (f : Int → Bool) : ∃ bs : List Bool, bs = ns.map f ∧ (ns.map fun x => V.bl (f x)) = bs.map V.bl := ⟨_, rfl, by simp⟩
section
variable {X : Cx}
/-- t[lo:hi] of a tuple: some tuple of that part -/
def rSlS (K : PySem.W.Frag) : V → Option Int → Option Int → Hp → VK → Prop := fun x lo hi H Q => ∃ a xs, x = .ref a ∧ SqT K H a xs ∧ ∀ p H', Same H H' → SqT K H' p (cutV xs lo hi) → Q (.ref p) H'
theorem sl_tupS : SlR X (rSlS X.K) := by
  intro pins s σ H x v vl vu lo hi sl Q I rx hs pl pu h
  obtain ⟨a, xs, rfl, hx, q⟩ := h
  refine sl_tupA pins s σ H _ v vl vu lo hi sl Q I rx hs pl pu ⟨a, xs, rfl, hx, fun hw => q a H (Same.refl H) ?_, fun _ p hp => q p _ (Same.new hp) (SqT.of upd_same)⟩
  have e : cutV xs lo hi = xs := by
    unfold cutV
    rw [hw.1, hw.2]
    simp
  rw [e]
  exact hx
end
section
variable {X : Cx}
def rLenK (K : PySem.W.Frag) : List V → Hp → VK → Prop := fun xs H Q => ∃ p ys, xs = [.ref p] ∧ (SqL K H p ys ∨ SqT K H p ys) ∧ Q (.int ys.length) H
theorem call_lenK (K : PySem.W.Frag) (h : X.K = K) : CallR X (.builtin "len") (rLenK K) := by
  subst h
  exact call_len_seq
theorem cr_sumK (K : PySem.W.Frag) (h : X.K = K) (hc : X.calm = true) : CallR X (.builtin "sum") (rSum K) := by
  subst h
  exact cr_sum hc
theorem cr_sumTK (K : PySem.W.Frag) (h : X.K = K) (hc : X.calm = true) : CallR X (.builtin "sum") (rSumT K) := by
  subst h
  exact cr_sumT hc
theorem cr_allK (K : PySem.W.Frag) (h : X.K = K) (hc : X.calm = true) : CallR X (.builtin "all") (rAll K) := by
  subst h
  exact cr_all hc
theorem ix_listK (K : PySem.W.Frag) (h : X.K = K) : IxR X (rIxL K) := by
  subst h
  exact ix_list
theorem ix_tupK (K : PySem.W.Frag) (h : X.K = K) : IxR X (rIxT K) := by
  subst h
  exact ix_tup
theorem op_eqDK (K : PySem.W.Frag) (h : X.K = K) (hu : X.A.units + 64 < cLine) : OpR X (compareOp .Eq) (rEqD K) := by
  subst h
  exact op_eqD hu
theorem op_neDK (K : PySem.W.Frag) (h : X.K = K) (hu : X.A.units + 64 < cLine) : OpR X (compareOp .NotEq) (rNeD K) := by
  subst h
  exact op_neD hu
theorem call_isiK' (K : PySem.W.Frag) (h : X.K = K) : CallR X (.builtin "isinstance") (rIsi K) := by
  subst h
  exact call_isi
end
theorem cut_from (xs : List V) (k : Nat) : cutV xs (some (k : Int)) none = xs.drop k := by
  unfold cutV
  rw [HT.sIx_nat]
  show (xs.drop (min k xs.length)).take (xs.length - min k xs.length) = xs.drop k
  by_cases h : k ≤ xs.length
  · rw [Nat.min_eq_left h, List.take_of_length_le (by simp)]
  · rw [Nat.min_eq_right (by omega), List.drop_eq_nil_of_le (by omega), List.drop_eq_nil_of_le (by omega)]
    simp
theorem cut_to (xs : List V) (k : Nat) : cutV xs none (some (k : Int)) = xs.take k := by
  unfold cutV
  rw [HT.sIx_nat]
  show (xs.drop 0).take (min k xs.length - 0) = xs.take k
  rw [List.drop_zero, Nat.sub_zero]
  by_cases h : k ≤ xs.length
  · rw [Nat.min_eq_left h]
  · rw [Nat.min_eq_right (by omega), List.take_of_length_le (by omega), List.take_of_length_le (by omega)]
end DL
set_option Elab.async false
set_option linter.all false
set_option maxRecDepth 100000
set_option maxHeartbeats 2000000
/-! deep equality of rows of ints; constants; counts of births -/
namespace DL
open PySem PySem.Spec PyProof.Rows L2 RZ
theorem lay_ints : ∀ ns : List Int, PyData.canLayAll0 (ns.map PyData.int) = true
  | [] => by simp [PyData.canLayAll0]
  | n :: r => by simp [PyData.canLayAll0, PyData.canLay0, lay_ints r]
theorem depth_ints : ∀ ns : List Int, PyData.depthAll (ns.map PyData.int) = 0
  | [] => by simp [PyData.depthAll]
  | n :: r => by simp [PyData.depthAll, PyData.depth, depth_ints r]
theorem shaped_tup (ns : List Int) : SeqAt.shaped (.tuple (ns.map PyData.int)) = true := by
  unfold SeqAt.shaped
  simp [PyData.canLay0, lay_ints, PyData.depth, depth_ints]
theorem shaped_lst (ns : List Int) : SeqAt.shaped (.list (ns.map PyData.int)) = true := by
  unfold SeqAt.shaped
  simp [PyData.canLay0, lay_ints, PyData.depth, depth_ints]
theorem eqv_ints : ∀ a b : List Int, PyData.eqvAll (a.map PyData.int) (b.map PyData.int) = decide (a = b)
  | [], [] => by simp [PyData.eqvAll]
  | [], _ :: _ => by simp [PyData.eqvAll]
  | _ :: _, [] => by simp [PyData.eqvAll]
  | x :: a, y :: b => by
    simp only [List.map_cons, PyData.eqvAll, PyData.eqv, eqv_ints a b]
    by_cases h : x = y
    · subst h
      simp
    · simp [h]
theorem eqv_tup (a b : List Int) : PyData.eqv (.tuple (a.map PyData.int)) (.tuple (b.map PyData.int)) = decide (a = b) := by
  simp only [PyData.eqv]
  exact eqv_ints a b
theorem eqv_lst (a b : List Int) : PyData.eqv (.list (a.map PyData.int)) (.list (b.map PyData.int)) = decide (a = b) := by
  simp only [PyData.eqv]
  exact eqv_ints a b
theorem dp_all {K : PySem.W.Frag} {H : Hp} : ∀ ns : List Int, DpAll K H (ns.map V.int) (ns.map PyData.int)
  | [] => .nil
  | n :: r => .cons (.int n) (dp_all r)
theorem dp_tup {K : PySem.W.Frag} {H : Hp} {a : Addr} {ns : List Int} (h : TupI K H a ns) : Dp K H (.ref a) (.tuple (ns.map PyData.int)) := .tup h (dp_all ns)
theorem dp_lst {K : PySem.W.Frag} {H : Hp} {a : Addr} {ns : List Int} (h : SqL K H a (ns.map V.int)) : Dp K H (.ref a) (.list (ns.map PyData.int)) := .lst h (dp_all ns)
section
variable {X : Cx}
/-- a constant of the module -/
theorem pe_gI {x : Str} {n : Int} {pos : Pos} (h : ∃ t, X.mg x = some (.int n t)) (hg : Gl X x := by rfl) (hn : x ≠ "__name__" := by decide) (hd : (x == ("__debug__" : Str)) = false := by decide) : PE X (.Name x pos) (tC (.int n)) := by
  obtain ⟨t, e⟩ := h
  exact pe_glob hg e ⟨t, rfl⟩ (hd := hd)
/-- a def of the module as a value -/
theorem pe_gF {x : Str} {f : Addr} {pos : Pos} (h : X.mg x = some (.ref f)) (hg : Gl X x := by rfl) (hd : (x == ("__debug__" : Str)) = false := by decide) : PE X (.Name x pos) (tC (.ref f)) := pe_glob hg h rfl (hd := hd)
end
/-- births ahead of moment i, the newcomers of i not among them -/
def bornB (bs : List Int) (i : Nat) : Int := ((bs.filter fun b => decide (b < (i : Int))).length : Int)
def kAt (bs : List Int) (ds : List (List Int)) (i : Nat) : Int := bornB bs i - ((ds.take i).map lessI).sum
theorem filt_add (i : Int) : ∀ bs : List Int, (bs.filter fun b => decide (b < i)).length + bs.count i = (bs.filter fun b => decide (b ≤ i)).length
  | [] => rfl
  | b :: r => by
    have ih := filt_add i r
    by_cases h1 : b < i
    · have h2 : b ≤ i := by omega
      have h3 : ¬ b = i := by omega
      simp [h1, h2, h3, List.count_cons]
      omega
    · by_cases h3 : b = i
      · subst h3
        simp [List.count_cons]
        omega
      · have h2 : ¬ b ≤ i := by omega
        simp [h1, h2, h3, List.count_cons]
        omega
theorem filt_succ (i : Nat) (bs : List Int) : (bs.filter fun b => decide (b ≤ (i : Int))).length = (bs.filter fun b => decide (b < ((i + 1 : Nat) : Int))).length := by
  congr 1
  apply List.filter_congr
  intro b _
  simp
  omega
theorem kAt_count (bs : List Int) (ds : List (List Int)) (i : Nat) : kAt bs ds i + (bs.count (i : Int) : Nat) = aliveAt bs ds i := by
  unfold kAt aliveAt bornB
  have h := filt_add (i : Int) bs
  omega
theorem kAt_less {bs : List Int} {ds : List (List Int)} {i : Nat} {p : List Int} (h : ds[i]? = some p) : aliveAt bs ds i - lessI p = kAt bs ds (i + 1) := by
  unfold kAt aliveAt bornB
  rw [filt_succ i bs]
  have e : ds.take (i + 1) = ds.take i ++ [p] := by rw [List.take_add_one, h] <;> rfl
  rw [e, List.map_append, List.sum_append]
  simp
  omega
/-- what made_calendar takes -/
structure CalOk (bs : List Int) (ds : List (List Int)) : Prop where
  n1 : 1 ≤ bs.length
  n12 : bs.length ≤ 12
  m11 : ds.length ≤ 11
  pat : ∀ p ∈ ds, patB p = true ∧ p ≠ [] ∧ p.length ≤ 1000
  born : ∀ b ∈ bs, 0 ≤ b ∧ b ≤ (ds.length : Int)
  fit : ∀ (i : Nat) (p : List Int), ds[i]? = some p → p.sum ≤ aliveAt bs ds i
end DL
set_option Elab.async false
set_option linter.all false
set_option maxRecDepth 100000
set_option maxHeartbeats 2000000
/-! tests with a word between them and what follows; patterns that grow -/
namespace DL
open PySem PySem.Spec PyProof.Rows L2 RZ
def tMonoT (t : TT) : TT := fun σ H Q => ∃ Q0 : Bool → Hp → Prop, t σ H Q0 ∧ ∀ b H1, Q0 b H1 → Q b H1
section
variable {X : Cx} {e : Expr} {t : TT}
theorem pt_mono (he : PT X e t) : PT X e (tMonoT t) := ⟨fun pins s σ H Q I h => by
  obtain ⟨Q0, h0, hm⟩ := h
  exact thn (he.run pins s σ H Q0 I h0) fun u s1 ⟨H1, I1, q⟩ => ⟨H1, I1, hm _ _ q⟩⟩
end
theorem while_m {c : TT} {tb : TS} {D : Ends} {σ : L2.St} {H : Hp} (Pv : L2.St → Hp → Prop) (μ : L2.St → Nat) (h0 : Pv σ H)
    (hs : ∀ σ H, Pv σ H → ∃ Q0 : Bool → Hp → Prop, c σ H Q0 ∧ (∀ H1, Q0 true H1 → tb { D with nx := fun σ' H' => Pv σ' H' ∧ μ σ' < μ σ, ct := fun σ' H' => Pv σ' H' ∧ μ σ' < μ σ, bk := D.nx } σ H1) ∧ (∀ H1, Q0 false H1 → D.nx σ H1)) : tWhile (tMonoT c) tb D σ H := by
  refine ⟨fun m σ H => m = μ σ ∧ Pv σ H, ⟨_, rfl, h0⟩, ?_⟩
  rintro m σ H ⟨rfl, p⟩
  obtain ⟨Q0, q0, q1, q2⟩ := hs σ H p
  refine ⟨Q0, q0, fun b H1 q => ?_⟩
  cases b with
  | true => exact ⟨_, fun σ' H' ⟨p', l⟩ => ⟨_, l, rfl, p'⟩, q1 H1 q⟩
  | false => exact q2 H1 q
/-- the slot's int, as a measure -/
def slotN (i : Nat) (σ : L2.St) : Nat := match σ[i]? with
  | some (some (.int k)) => k.toNat
  | _ => 0
theorem Stay.mut {a l : Addr} {H H' : Hp} {o : HO} (s : Stay a H H') (hl : H l = Option.none) (hla : l ≠ a) : Stay a H (upd H' l o) := by
  obtain ⟨⟨x, y, e1, e2⟩, h⟩ := s
  refine ⟨⟨x, y, by rw [upd_ne (Ne.symm hla)]; exact e1, e2⟩, fun b u n e => ?_⟩
  rw [upd_ne (ne_of_none e hl)]
  exact h b u n e
theorem map_last {ps : List Int} (hn : ps ≠ []) : ps.map V.int = ps.dropLast.map V.int ++ [.int (ps.getLast hn)] := by
  conv => lhs; rw [← List.dropLast_concat_getLast hn]
  simp
theorem patB_iff (ns : List Int) : patB ns = true ↔ (∀ s ∈ ns, 2 ≤ s) ∧ ∀ p ∈ ns.zip (ns.drop 1), p.2 ≤ p.1 := by
  unfold patB
  rw [Bool.and_eq_true]
  simp
theorem zip_tail_append (a : Int) : ∀ (l : List Int) (x : Int), ((l ++ [a]) ++ [x]).zip (((l ++ [a]) ++ [x]).drop 1) = (l ++ [a]).zip ((l ++ [a]).drop 1) ++ [(a, x)]
  | [], x => rfl
  | [b], x => rfl
  | b :: c :: l, x => by
    have ih := zip_tail_append a (c :: l) x
    simp only [List.cons_append, List.drop_succ_cons, List.drop_zero, List.zip_cons_cons] at ih ⊢
    rw [ih]
theorem patB_app {ns : List Int} {x : Int} (h : patB ns = true) (hx : 2 ≤ x) (hl : ∀ y, ns.getLast? = some y → x ≤ y) : patB (ns ++ [x]) = true := by
  rw [patB_iff] at h ⊢
  obtain ⟨h1, h2⟩ := h
  refine ⟨fun s hs => ?_, fun p hp => ?_⟩
  · rcases List.mem_append.mp hs with h | h
    · exact h1 s h
    · simp at h
      omega
  · by_cases hn : ns = []
    · subst hn
      simp at hp
    · obtain ⟨l, a, rfl⟩ : ∃ l a, ns = l ++ [a] := ⟨ns.dropLast, ns.getLast hn, (List.dropLast_concat_getLast hn).symm⟩
      rw [zip_tail_append] at hp
      rcases List.mem_append.mp hp with h | h
      · exact h2 p h
      · simp at h
        subst h
        exact hl a (by simp)
theorem patB_nil : patB [] = true := rfl
theorem patB_ge {ns : List Int} (h : patB ns = true) : ∀ s ∈ ns, 2 ≤ s := ((patB_iff ns).mp h).1
theorem len_le_sum : ∀ {ns : List Int}, (∀ s ∈ ns, 2 ≤ s) → 2 * (ns.length : Int) ≤ ns.sum
  | [], _ => by simp
  | n :: r, h => by
    have ih := len_le_sum (ns := r) fun s hs => h s (List.mem_cons_of_mem _ hs)
    have h1 := h n List.mem_cons_self
    simp
    omega
end DL
set_option Elab.async false
set_option linter.all false
set_option maxRecDepth 100000
set_option maxHeartbeats 2000000
/-! tuples kept; the drawn calendar's mathematics -/
namespace DL
open PySem PySem.Spec PyProof.Rows L2 RZ
/-- every tuple is as it was -/
def TK (H H' : Hp) : Prop := ∀ (b : Addr) (xs : List V), (H b = some (.tup xs) → H' b = some (.tup xs)) ∧ ∀ o, H b = some (.frz o (.tup xs)) → H' b = some (.frz o (.tup xs))
theorem TK.refl (H : Hp) : TK H H := fun _ _ => ⟨fun e => e, fun _ e => e⟩
theorem TK.trans {H H1 H2 : Hp} (x : TK H H1) (y : TK H1 H2) : TK H H2 := fun b xs => ⟨fun e => (y b xs).1 ((x b xs).1 e), fun o e => (y b xs).2 o ((x b xs).2 o e)⟩
theorem TK.same {H H' : Hp} (s : Same H H') : TK H H' := fun _ _ => ⟨fun e => s _ _ e, fun _ e => s _ _ e⟩
theorem TK.stay {a : Addr} {H H' : Hp} (r : Src a H) (s : Stay a H H') : TK H H' := fun b xs => ⟨fun e => s.2 b _ (src_ne_t r e fun _ _ z => by cases z) e, fun o e => s.2 b _ (src_ne_t r e fun _ _ z => by cases z) e⟩
theorem TK.lst {H : Hp} {l : Addr} {xs : List V} {o : HO} (h : H l = some (.lst xs)) : TK H (upd H l o) := fun b ys => ⟨fun e => by rw [upd_ne (ne_of e h (fun z => by cases z))]; exact e, fun u e => by rw [upd_ne (ne_of e h (fun z => by cases z))]; exact e⟩
theorem TK.new {H : Hp} {l : Addr} {o : HO} (h : H l = none) : TK H (upd H l o) := TK.same (Same.new h)
theorem TK.seqT {K : PySem.W.Frag} {H H' : Hp} {a : Addr} {xs : List V} (e : TK H H') (h : SqT K H a xs) : SqT K H' a xs := by
  rcases h with (h | ⟨o, h⟩) | h
  · exact .inl (.inl ((e _ _).1 h))
  · exact .inl (.inr ⟨o, (e _ _).2 o h⟩)
  · exact .inr h
theorem TupI.tk {K : PySem.W.Frag} {H H' : Hp} {a : Addr} {ns : List Int} (h : TupI K H a ns) (e : TK H H') : TupI K H' a ns := TK.seqT e h
theorem TupD.tk {H H' : Hp} {p : Addr} {xs : List V} (h : TupD H p xs) (e : TK H H') : TupD H' p xs := by
  obtain ⟨its, n, h1⟩ := h
  exact ⟨its, n, (e _ _).2 _ h1⟩
/-! drawn calendars -/
structure Pre (ws : List Int) (ds : List (List Int)) : Prop where
  pat : ∀ p ∈ ds, patB p = true ∧ p ≠ [] ∧ p.length ≤ 1000
  fit : ∀ (i : Nat) (p : List Int), ds[i]? = some p → p.sum ≤ aliveAt ws ds i
theorem lessI_nn {p : List Int} (h : patB p = true) : 0 ≤ lessI p := by
  have := len_le_sum (patB_ge h)
  unfold lessI
  omega
theorem sum_nn {ds : List (List Int)} (h : ∀ p ∈ ds, 0 ≤ lessI p) : 0 ≤ (ds.map lessI).sum := by
  induction ds with
  | nil => simp
  | cons p r ih =>
    have h1 := h p List.mem_cons_self
    have h2 := ih fun q hq => h q (List.mem_cons_of_mem _ hq)
    simp
    omega
theorem aliveAt_app {ws : List Int} {ds : List (List Int)} {p : List Int} {i : Nat} (h : i ≤ ds.length) : aliveAt ws (ds ++ [p]) i = aliveAt ws ds i := by
  unfold aliveAt
  rw [List.take_append_of_le_length h]
theorem alive_le {ws : List Int} {ds : List (List Int)} (h : Pre ws ds) (i : Nat) : aliveAt ws ds i ≤ (ws.length : Int) := by
  have h1 := List.length_filter_le (fun b => decide (b ≤ (i : Int))) ws
  have h2 : 0 ≤ ((ds.take i).map lessI).sum := sum_nn fun p hp => lessI_nn (h.pat p (List.mem_of_mem_take hp)).1
  unfold aliveAt
  omega
theorem filt_next (ws : List Int) (m : Nat) : (ws.filter fun b => decide (b ≤ ((m + 1 : Nat) : Int))).length = (ws.filter fun b => decide (b ≤ (m : Int))).length + ws.count ((m + 1 : Nat) : Int) := by
  have h1 := filt_add ((m + 1 : Nat) : Int) ws
  have h2 := filt_succ m ws
  omega
theorem alive_next {ws : List Int} {ds : List (List Int)} {p : List Int} : aliveAt ws (ds ++ [p]) (ds.length + 1) = aliveAt ws ds ds.length - p.sum + (p.length : Int) + (ws.count ((ds.length + 1 : Nat) : Int) : Nat) := by
  unfold aliveAt
  have e : (ds ++ [p]).take (ds.length + 1) = ds ++ [p] := List.take_of_length_le (by simp)
  rw [e, List.take_length, List.map_append, List.sum_append, filt_next]
  have e2 : (List.map lessI [p]).sum = p.sum - (p.length : Int) := by simp [lessI]
  rw [e2]
  omega
theorem Pre.app {ws : List Int} {ds : List (List Int)} {p : List Int} (h : Pre ws ds) (h1 : patB p = true) (h2 : p ≠ []) (h3 : p.length ≤ 1000) (h4 : p.sum ≤ aliveAt ws ds ds.length) : Pre ws (ds ++ [p]) := by
  refine ⟨fun q hq => ?_, fun i q hq => ?_⟩
  · rcases List.mem_append.mp hq with z | z
    · exact h.pat q z
    · simp at z
      subst z
      exact ⟨h1, h2, h3⟩
  · by_cases hi : i < ds.length
    · rw [List.getElem?_append_left hi] at hq
      rw [aliveAt_app (by omega)]
      exact h.fit i q hq
    · have hi2 : i = ds.length := by
        have := (List.getElem?_eq_some_iff.mp hq).1
        simp at this
        omega
      subst hi2
      simp at hq
      subst hq
      rw [aliveAt_app (Nat.le_refl _)]
      exact h4
def capB (m : Int) (w : Int) : Int := if m < w then m else w
theorem Pre.cal {ws : List Int} {ds : List (List Int)} (h : Pre ws ds) (hw : ∀ w ∈ ws, 0 ≤ w) (n1 : 1 ≤ ws.length) (n2 : ws.length ≤ 12) (m : ds.length ≤ 11) : CalOk (ws.map (capB (ds.length : Int))) ds := by
  refine ⟨by simpa using n1, by simpa using n2, m, h.pat, fun b hb => ?_, fun i p hp => ?_⟩
  · obtain ⟨w, h1, rfl⟩ := List.mem_map.mp hb
    have := hw w h1
    unfold capB
    split <;> omega
  · have hi : i < ds.length := (List.getElem?_eq_some_iff.mp hp).1
    have e : aliveAt (ws.map (capB (ds.length : Int))) ds i = aliveAt ws ds i := by
      unfold aliveAt
      rw [List.filter_map, List.length_map]
      congr 3
      apply List.filter_congr
      intro w _
      unfold capB
      simp only [Function.comp]
      split
      · simp
        omega
      · rfl
    rw [e]
    exact h.fit i p hp
end DL
set_option Elab.async false
set_option linter.all false
set_option maxRecDepth 100000
set_option maxHeartbeats 2000000
/-! the state of a calendar that is drawn -/
namespace DL
open PySem PySem.Spec PyProof.Rows L2 RZ
theorem TupTD.tk {H H' : Hp} {a : Addr} {nss : List (List Int)} (h : TupTD H a nss) (e : TK H H') : TupTD H' a nss := by
  obtain ⟨qs, h1, h2, h3⟩ := h
  exact ⟨qs, h1.tk e, h2, fun i q ns a b => (h3 i q ns a b).tk e⟩
structure Apart (a W B D : Addr) : Prop where
  wa : W ≠ a
  ba : B ≠ a
  da : D ≠ a
  wb : W ≠ B
  wd : W ≠ D
  bd : B ≠ D
structure CalSt (K : PySem.W.Frag) (a : Addr) (H0 : Hp) (W B D : Addr) (ws nb : List Int) (ds : List (List Int)) (qs : List Addr) (H : Hp) : Prop where
  st : Stay a H0 H
  tk : TK H0 H
  nw : H0 W = Option.none
  nb0 : H0 B = Option.none
  nd : H0 D = Option.none
  hw : H W = some (.lst (ws.map V.int))
  hb : H B = some (.lst (nb.map V.int))
  hd : H D = some (.lst (qs.map V.ref))
  len : qs.length = ds.length
  tup : ∀ (i : Nat) (q : Addr) (ps : List Int), qs[i]? = some q → ds[i]? = some ps → TupD H q (ps.map V.int)
section
variable {K : PySem.W.Frag} {a : Addr} {H0 H H' : Hp} {W B D : Addr} {ws nb : List Int} {ds : List (List Int)} {qs : List Addr}
theorem CalSt.stay (c : CalSt K a H0 W B D ws nb ds qs H) (x : Apart a W B D) (s : Stay a H H') : CalSt K a H0 W B D ws nb ds qs H' :=
  ⟨c.st.trans s, c.tk.trans (TK.stay c.st.1 s), c.nw, c.nb0, c.nd, s.2 _ _ x.wa c.hw, s.2 _ _ x.ba c.hb, s.2 _ _ x.da c.hd, c.len, fun i q ps h1 h2 => (c.tup i q ps h1 h2).tk (TK.stay c.st.1 s)⟩
theorem CalSt.same (c : CalSt K a H0 W B D ws nb ds qs H) (s : Same H H') : CalSt K a H0 W B D ws nb ds qs H' :=
  ⟨c.st.same s, c.tk.trans (TK.same s), c.nw, c.nb0, c.nd, s _ _ c.hw, s _ _ c.hb, s _ _ c.hd, c.len, fun i q ps h1 h2 => (c.tup i q ps h1 h2).same s⟩
theorem CalSt.push (c : CalSt K a H0 W B D ws nb ds qs H) (x : Apart a W B D) {q : Addr} {p : List Int} (h : TupD H q (p.map V.int)) : CalSt K a H0 W B D ws nb (ds ++ [p]) (qs ++ [q]) (upd H D (.lst (qs.map V.ref ++ [.ref q]))) := by
  have tk : TK H (upd H D (.lst (qs.map V.ref ++ [.ref q]))) := TK.lst c.hd
  refine ⟨c.st.mut c.nd x.da, c.tk.trans tk, c.nw, c.nb0, c.nd, by rw [upd_ne x.wd]; exact c.hw, by rw [upd_ne x.bd]; exact c.hb, by rw [upd_same, List.map_append]; rfl, by simp [c.len], fun i r ps h1 h2 => ?_⟩
  by_cases hi : i < ds.length
  · rw [List.getElem?_append_left (by rw [c.len]; exact hi)] at h1
    rw [List.getElem?_append_left hi] at h2
    exact (c.tup i r ps h1 h2).tk tk
  · have hi2 : i = ds.length := by
      have := (List.getElem?_eq_some_iff.mp h2).1
      simp at this
      omega
    subst hi2
    rw [← c.len] at h1
    simp at h1
    simp at h2
    subst h1 h2
    exact h.tk tk
theorem CalSt.setB (c : CalSt K a H0 W B D ws nb ds qs H) (x : Apart a W B D) (nb' : List Int) : CalSt K a H0 W B D ws nb' ds qs (upd H B (.lst (nb'.map V.int))) :=
  ⟨c.st.mut c.nb0 x.ba, c.tk.trans (TK.lst c.hb), c.nw, c.nb0, c.nd, by rw [upd_ne x.wb]; exact c.hw, upd_same, by rw [upd_ne (Ne.symm x.bd)]; exact c.hd, c.len, fun i q ps h1 h2 => (c.tup i q ps h1 h2).tk (TK.lst c.hb)⟩
end
theorem TupTI.tk {K : PySem.W.Frag} {H H' : Hp} {a : Addr} {nss : List (List Int)} (h : TupTI K H a nss) (e : TK H H') : TupTI K H' a nss := by
  obtain ⟨qs, h1, h2, h3⟩ := h
  exact ⟨qs, TK.seqT e h1, h2, fun i q ns a b => (h3 i q ns a b).tk e⟩
theorem CalAt.stay {K : PySem.W.Frag} {C a : Addr} {H H' : Hp} {c : Addr} {bs : List Int} {ds : List (List Int)} (h : CalAt K C H c bs ds) (r : Src a H) (e : Stay a H H') : CalAt K C H' c bs ds := by
  obtain ⟨dx, b, d, fs, h1, h2, h3, h4, h5⟩ := h
  exact ⟨dx, b, d, fs, e.2 _ _ (src_ne_t r h1 fun _ _ z => by cases z) h1, h2, h3, h4.tk (TK.stay r e), h5.tk (TK.stay r e)⟩
theorem filt0 {ws : List Int} (h : ∀ w ∈ ws, 0 ≤ w) : ((ws.filter fun z => decide (V.int z = V.int 0)).length : Int) = aliveAt ws [] 0 := by
  unfold aliveAt
  simp only [List.take_nil, List.map_nil, List.sum_nil, Int.sub_zero]
  congr 2
  apply List.filter_congr
  intro w hw
  have := h w hw
  simp
  omega
theorem count_filt (ws : List Int) (m : Int) : (ws.filter fun z => decide (V.int z = V.int m)).length = ws.count m := by
  rw [List.count_eq_length_filter]
  congr 1
  apply List.filter_congr
  intro w _
  by_cases h : w = m <;> simp [h]
end DL
set_option Elab.async false
set_option linter.all false
set_option maxRecDepth 100000
set_option maxHeartbeats 2000000
/-! what the head tells, by defs and classes -/
namespace DL
open PySem PySem.Spec PyProof.Rows L2 RZ
structure Df (K : PySem.W.Frag) (x : Str) (st : Stmt) : Prop where
  ex : ∃ (f : Addr) (oc : Value) (od : Option Addr) (osl : Array (Option Value)) (kV doc pm : Value) (an : Option Addr) (cdv ct : Value),
    PySem.W.nsIn K mainGlobals x = some (some (.ref f)) ∧ K.lookup f = some ⟨oc, od, .func (PySem.W.fnOf x x (defArgs st) (defBody st) (defScope st) .none kV doc pm an cdv ct), osl⟩ ∧ PySem.W.codeIn K cdv x = true ∧ PySem.W.keepIn K (.ref f) = true
theorem Df.up {K : PySem.W.Frag} {h : Heap} {mg : Str → Option Value} {x : Str} {st : Stmt} (d : Df K x st) (X : K.In h) (G : h.Ns mainGlobals mg) : Up K mg x st := by
  obtain ⟨f, oc, od, osl, kV, doc, pm, an, cdv, ct, h1, h2, h3, h4⟩ := d.ex
  exact ⟨f, _, fun_mk h2 h3 h4, PySem.W.mg_of X G h1⟩
/-- an error class over ValueError, its __init__ the def st of the name q -/
structure DEr (K : PySem.W.Frag) (x q : Str) (st : Stmt) : Prop where
  ex : ∃ (C f : Addr) (nm q2 : Str) (N : Addr) (bs bm : List Value) (sn : List Str) (sub : List Value) (ab : Bool) (col : Option Bool) (dd : Option Addr) (m0 m1 m2 m3 m5 : Option Value) (oc : Value) (od : Option Addr) (osl : Array (Option Value)) (kV doc pm : Value) (an : Option Addr) (cdv ct : Value),
    PySem.W.nsIn K mainGlobals x = some (some (.ref C)) ∧ K.lookup C = some (excClassObj nm q2 C N bs bm true sn sub ab col dd m0 m1 m2 m3 m5 "ValueError.__new__") ∧ PySem.HandSPX.refsVE bm = true ∧
    PySem.W.findIn K (.ref C) "__setattr__" = some (some (.builtin "object.__setattr__")) ∧ PySem.W.subIn K (.ref C) (.type "BaseException") = some true ∧ PySem.W.typeIn K (.ref C) = some (.type "type") ∧ PySem.W.keepIn K (.ref C) = true ∧
    PySem.W.findIn K (.ref C) "__init__" = some (some (.ref f)) ∧ PySem.W.typeIn K (.ref f) = some (.type "function") ∧ PySem.W.findIn K (.ref C) "__getattribute__" = some (some (.builtin "BaseException.__getattribute__")) ∧ PySem.W.findIn K (.ref C) "__getattr__" = some none ∧
    PySem.W.hasDictIn K C = true ∧ PySem.W.findIn K (.ref C) "what" = some none ∧ PySem.W.isClsIn K C = true ∧ PySem.W.subIn K (.ref C) (.ref C) = some true ∧
    K.lookup f = some ⟨oc, od, .func (PySem.W.fnOf "__init__" q (defArgs st) (defBody st) (defScope st) .none kV doc pm an cdv ct), osl⟩ ∧ PySem.W.codeIn K cdv q = true ∧ PySem.W.keepIn K (.ref f) = true
theorem DEr.er {K : PySem.W.Frag} {h : Heap} {mg : Str → Option Value} {x q : Str} {st : Stmt} (d : DEr K x q st) (X : K.In h) (G : h.Ns mainGlobals mg) : ∃ (C f : Addr) (fd : FuncData), Er K mg x C f ∧ Fun K "__init__" q st f fd := by
  obtain ⟨C, f, nm, q2, N, bs, bm, sn, sub, ab, col, dd, m0, m1, m2, m3, m5, oc, od, osl, kV, doc, pm, an, cdv, ct, h1, h2, h3, h4, h5, h6, h7, h8, h9, h10, h11, h12, h13, h14, h15, h16, h17, h18⟩ := d.ex
  exact ⟨C, f, _, ⟨PySem.W.mg_of X G h1, ⟨⟨nm, q2, N, bs, bm, sn, sub, ab, col, dd, m0, m1, m2, m3, m5, h2, h3⟩, h4, h5, h6, h7⟩, h8, h9, ⟨h10, h11, h5, h12⟩, h13, exm_self h5 h14 h6 h15⟩, fun_mk h16 h17 h18⟩
/-- the class Calendar -/
structure DCal (K : PySem.W.Frag) (st : Stmt) : Prop where
  ex : ∃ (C f : Addr) (oc : Value) (od : Option Addr) (osl : Array (Option Value)) (kV doc pm : Value) (an : Option Addr) (cdv ct : Value),
    PySem.W.nsIn K mainGlobals "Calendar" = some (some (.ref C)) ∧ PySem.W.plainGet K C Str.empty = true ∧ PySem.W.hasDictIn K C = true ∧ PySem.W.plainOver K C = true ∧ PySem.W.findIn K (.ref C) "__setattr__" = some (some (.builtin "object.__setattr__")) ∧
    PySem.W.makesIn K C = true ∧ PySem.W.keepIn K (.ref C) = true ∧ PySem.W.findIn K (.ref C) "born" = some none ∧ PySem.W.findIn K (.ref C) "days" = some none ∧ PySem.W.findIn K (.ref C) "__init__" = some (some (.ref f)) ∧ PySem.W.isFn K (.ref f) = true ∧
    K.lookup f = some ⟨oc, od, .func (PySem.W.fnOf "__init__" "Calendar.__init__" (defArgs st) (defBody st) (defScope st) .none kV doc pm an cdv ct), osl⟩ ∧ PySem.W.codeIn K cdv "Calendar.__init__" = true ∧ PySem.W.keepIn K (.ref f) = true
theorem DCal.cl {K : PySem.W.Frag} {h : Heap} {mg : Str → Option Value} {st : Stmt} (d : DCal K st) (X : K.In h) (G : h.Ns mainGlobals mg) : ∃ (C f : Addr) (fd : FuncData), ClC K mg C f ∧ Fun K "__init__" "Calendar.__init__" st f fd := by
  obtain ⟨C, f, oc, od, osl, kV, doc, pm, an, cdv, ct, h1, h2, h3, h4, h5, h6, h7, h8, h9, h10, h11, h12, h13, h14⟩ := d.ex
  exact ⟨C, f, _, ⟨⟨h2, h3, h4, h5⟩, h8, h9, PySem.W.mg_of X G h1, ⟨h6, h10, h11, h7⟩⟩, fun_mk h12 h13 h14⟩
/-- built-in names that the module does not bind -/
structure DBl (K : PySem.W.Frag) : Prop where
  ex : PySem.W.nsIn K mainGlobals "len" = some none ∧ PySem.W.nsIn K mainGlobals "sum" = some none ∧ PySem.W.nsIn K mainGlobals "min" = some none ∧ PySem.W.nsIn K mainGlobals "max" = some none ∧ PySem.W.nsIn K mainGlobals "int" = some none ∧ PySem.W.nsIn K mainGlobals "tuple" = some none ∧
    PySem.W.nsIn K mainGlobals "isinstance" = some none ∧ PySem.W.nsIn K mainGlobals "all" = some none ∧ PySem.W.nsIn K mainGlobals "range" = some none ∧ PySem.W.nsIn K mainGlobals "enumerate" = some none ∧ PySem.W.nsIn K mainGlobals "zip" = some none ∧ PySem.W.nsIn K mainGlobals "bool" = some none ∧ PySem.W.nsIn K mainGlobals "list" = some none
theorem DBl.bl {K : PySem.W.Frag} {h : Heap} {mg : Str → Option Value} (d : DBl K) (X : K.In h) (G : h.Ns mainGlobals mg) : Bl mg := by
  obtain ⟨h1, h2, h3, h4, h5, h6, h7, h8, h9, h10, h11, h12, h13⟩ := d.ex
  exact ⟨PySem.W.mg_none_of X G h1, PySem.W.mg_none_of X G h2, PySem.W.mg_none_of X G h3, PySem.W.mg_none_of X G h4, PySem.W.mg_none_of X G h5, PySem.W.mg_none_of X G h6, PySem.W.mg_none_of X G h7, PySem.W.mg_none_of X G h8, PySem.W.mg_none_of X G h9, PySem.W.mg_none_of X G h10, PySem.W.mg_none_of X G h11, PySem.W.mg_none_of X G h12, PySem.W.mg_none_of X G h13⟩
/-- a number of the module -/
structure DKn (K : PySem.W.Frag) (x : Str) (n : Int) : Prop where
  ex : ∃ t, PySem.W.nsIn K mainGlobals x = some (some (.int n t))
theorem DKn.kn {K : PySem.W.Frag} {h : Heap} {mg : Str → Option Value} {x : Str} {n : Int} (d : DKn K x n) (X : K.In h) (G : h.Ns mainGlobals mg) : ∃ t, mg x = some (.int n t) := by
  obtain ⟨t, e⟩ := d.ex
  exact ⟨t, PySem.W.mg_of X G e⟩
/-- two defs of different names stand apart -/
theorem fun_ne {K : PySem.W.Frag} {x y : Str} {st st2 : Stmt} {f g : Addr} {fd fd2 : FuncData} (F : Fun K x x st f fd) (G : Fun K y y st2 g fd2) (h : x ≠ y) : f ≠ g := by
  intro e
  subst e
  obtain ⟨oc, od, kV, doc, pm, an, cdv, ct, osl, rfl, lk, _⟩ := F.ex
  obtain ⟨oc2, od2, kV2, doc2, pm2, an2, cdv2, ct2, osl2, rfl, lk2, _⟩ := G.ex
  rw [lk] at lk2
  have e1 := Option.some.inj lk2
  injection e1 with _ _ e2 _
  injection e2 with e3
  have e4 := congrArg FuncData.name e3
  exact h e4
theorem Df.of {K : PySem.W.Frag} {x : Str} {st : Stmt} {f : Addr} {oc : Value} {od : Option Addr} {osl : Array (Option Value)} {kV doc pm : Value} {an : Option Addr} {cdv ct : Value} (h1 : PySem.W.nsIn K mainGlobals x = some (some (.ref f))) (h2 : K.lookup f = some ⟨oc, od, .func (PySem.W.fnOf x x (defArgs st) (defBody st) (defScope st) .none kV doc pm an cdv ct), osl⟩) (h3 : PySem.W.codeIn K cdv x = true) (h4 : PySem.W.keepIn K (.ref f) = true) : Df K x st := ⟨⟨f, oc, od, osl, kV, doc, pm, an, cdv, ct, h1, h2, h3, h4⟩⟩
theorem DEr.of {K : PySem.W.Frag} {x q : Str} {st : Stmt} {C f : Addr} {nm q2 : Str} {N : Addr} {bs bm : List Value} {sn : List Str} {sub : List Value} {ab : Bool} {col : Option Bool} {dd : Option Addr} {m0 m1 m2 m3 m5 : Option Value} {oc : Value} {od : Option Addr} {osl : Array (Option Value)} {kV doc pm : Value} {an : Option Addr} {cdv ct : Value} (h1 : PySem.W.nsIn K mainGlobals x = some (some (.ref C))) (h2 : K.lookup C = some (excClassObj nm q2 C N bs bm true sn sub ab col dd m0 m1 m2 m3 m5 "ValueError.__new__")) (h3 : PySem.HandSPX.refsVE bm = true) (h4 : PySem.W.findIn K (.ref C) "__setattr__" = some (some (.builtin "object.__setattr__"))) (h5 : PySem.W.subIn K (.ref C) (.type "BaseException") = some true) (h6 : PySem.W.typeIn K (.ref C) = some (.type "type")) (h7 : PySem.W.keepIn K (.ref C) = true) (h8 : PySem.W.findIn K (.ref C) "__init__" = some (some (.ref f))) (h9 : PySem.W.typeIn K (.ref f) = some (.type "function")) (h10 : PySem.W.findIn K (.ref C) "__getattribute__" = some (some (.builtin "BaseException.__getattribute__"))) (h11 : PySem.W.findIn K (.ref C) "__getattr__" = some none) (h12 : PySem.W.hasDictIn K C = true) (h13 : PySem.W.findIn K (.ref C) "what" = some none) (h14 : PySem.W.isClsIn K C = true) (h15 : PySem.W.subIn K (.ref C) (.ref C) = some true) (h16 : K.lookup f = some ⟨oc, od, .func (PySem.W.fnOf "__init__" q (defArgs st) (defBody st) (defScope st) .none kV doc pm an cdv ct), osl⟩) (h17 : PySem.W.codeIn K cdv q = true) (h18 : PySem.W.keepIn K (.ref f) = true) : DEr K x q st := ⟨⟨C, f, nm, q2, N, bs, bm, sn, sub, ab, col, dd, m0, m1, m2, m3, m5, oc, od, osl, kV, doc, pm, an, cdv, ct, h1, h2, h3, h4, h5, h6, h7, h8, h9, h10, h11, h12, h13, h14, h15, h16, h17, h18⟩⟩
theorem DCal.of {K : PySem.W.Frag} {st : Stmt} {C f : Addr} {oc : Value} {od : Option Addr} {osl : Array (Option Value)} {kV doc pm : Value} {an : Option Addr} {cdv ct : Value} (h1 : PySem.W.nsIn K mainGlobals "Calendar" = some (some (.ref C))) (h2 : PySem.W.plainGet K C Str.empty = true) (h3 : PySem.W.hasDictIn K C = true) (h4 : PySem.W.plainOver K C = true) (h5 : PySem.W.findIn K (.ref C) "__setattr__" = some (some (.builtin "object.__setattr__"))) (h6 : PySem.W.makesIn K C = true) (h7 : PySem.W.keepIn K (.ref C) = true) (h8 : PySem.W.findIn K (.ref C) "born" = some none) (h9 : PySem.W.findIn K (.ref C) "days" = some none) (h10 : PySem.W.findIn K (.ref C) "__init__" = some (some (.ref f))) (h11 : PySem.W.isFn K (.ref f) = true) (h12 : K.lookup f = some ⟨oc, od, .func (PySem.W.fnOf "__init__" "Calendar.__init__" (defArgs st) (defBody st) (defScope st) .none kV doc pm an cdv ct), osl⟩) (h13 : PySem.W.codeIn K cdv "Calendar.__init__" = true) (h14 : PySem.W.keepIn K (.ref f) = true) : DCal K st := ⟨⟨C, f, oc, od, osl, kV, doc, pm, an, cdv, ct, h1, h2, h3, h4, h5, h6, h7, h8, h9, h10, h11, h12, h13, h14⟩⟩
theorem DKn.of {K : PySem.W.Frag} {x : Str} {n : Int} {t : Tok} (h : PySem.W.nsIn K mainGlobals x = some (some (.int n t))) : DKn K x n := ⟨⟨t, h⟩⟩
end DL
set_option Elab.async false
set_option linter.all false
set_option maxRecDepth 100000
set_option maxHeartbeats 4000000
/-! tuples whose object is known: displays, sums, products, slices -/
namespace DL
open PySem PySem.Spec PyProof.Rows L2 RZ
section
variable {X : Cx} {es : List Expr} {t : TA} {pos : Pos}
def tTupD (t : TA) : TE := fun σ H Q => t σ H fun xs H1 => xs.length ≤ sizeLine ∧ NewT xs H1 Q
theorem pe_tupD {x1} (h : PA X es t) : PE X (.Tuple es x1 pos) (tTupD t) := by
  refine ⟨fun pins s σ H Q I hq => ?_⟩
  refine wpAny_Tuple_spliced (thn (h.run pos pins s σ H _ I hq) fun us s1 ⟨xs, H1, I1, r, z, q⟩ => ⟨by rw [← r.length]; exact z, ?_⟩)
  obtain ⟨H', I', s', d'⟩ := laidD (t := s1.toks) I1 z r
  exact ⟨.ref s1.heap.objs.size, H', I', rfl, q _ _ s' d'⟩
def rCatD : R2 := fun x y H Q => ∃ a b xs ys, x = .ref a ∧ y = .ref b ∧ TupD H a xs ∧ TupD H b ys ∧ xs.length + ys.length ≤ sizeLine ∧ NewT (xs ++ ys) H Q
theorem op_catD : OpR X (binaryOp .Add) rCatD := by
  intro pins s σ H x y v u Q I rx ry h
  obtain ⟨a, b, xs, ys, rfl, rfl, ha, hb, hz, q⟩ := h
  cases rx
  cases ry
  obtain ⟨its, r1, p1, _⟩ := I.tuple (ha.sq (K := X.K))
  obtain ⟨its2, r2, p2, _⟩ := I.tuple (hb.sq (K := X.K))
  by_cases hx : xs = []
  · subst hx
    cases r1
    exact cat_tup0 p1 p2 ⟨.ref b, H, I, rfl, q b H (Same.refl H) hb⟩
  · refine HT.cat_tup p1 p2 (fun z => hx (r1.nil_iff.mp z)) (fun z => ⟨.ref a, H, I, rfl, q a H (Same.refl H) ?_⟩) (fun z => ?_) (by rw [← r1.length, ← r2.length]; exact hz)
    · have e : ys = [] := r2.nil_iff.mp z
      rw [e, List.append_nil]
      exact ha
    · obtain ⟨H', I', s', d'⟩ := laidD (t := s.toks) I (by rw [List.length_append]; exact hz) (r1.append r2)
      exact ⟨.ref s.heap.objs.size, H', I', rfl, q _ _ s' d'⟩
def rSlD : V → Option Int → Option Int → Hp → VK → Prop := fun x lo hi H Q => ∃ a xs, x = .ref a ∧ TupD H a xs ∧ NewT (cutV xs lo hi) H Q
theorem sl_tupD : SlR X rSlD := by
  intro pins s σ H x v vl vu lo hi sl Q I rx hs pl pu h
  obtain ⟨a, xs, rfl, hx, q⟩ := h
  cases rx
  obtain ⟨its, r, ht, hz⟩ := I.tuple (hx.sq (K := X.K))
  have hlen : its.toArray.size = xs.length := by rw [List.size_toArray]; exact r.length.symm
  refine ⟨"tuple", _, PyProof.Rows.slot_tuple_getitem.lookup, ht.typeIs, ?_⟩
  by_cases hw : HT.sIx xs.length 0 lo = 0 ∧ HT.sIx xs.length xs.length hi = xs.length
  · refine getItem_tuple_whole ht hs pl pu (by rw [hlen]; exact hw) ⟨.ref a, H, I, rfl, q a H (Same.refl H) ?_⟩
    have e : cutV xs lo hi = xs := by
      unfold cutV
      rw [hw.1, hw.2]
      simp
    rw [e]
    exact hx
  · refine HT.getItem_tuple_cut ht hs pl pu (by rw [hlen]; exact hw) ?_ (by rw [hlen]; exact hz)
    rw [hlen]
    obtain ⟨H', I', s', d'⟩ := laidD (t := s.toks) I (Nat.le_trans (cutV_length xs lo hi) hz) ((r.drop (HT.sIx xs.length 0 lo)).take (HT.sIx xs.length xs.length hi - HT.sIx xs.length 0 lo))
    exact ⟨.ref s.heap.objs.size, H', I', rfl, q _ _ s' d'⟩
end
theorem tuple_mul1 (l : Addr) (items : Array Value) (n : Nat) (dd : Option Addr) (sl : Array (Option Value)) (x : Int) (u : Tok) (c0 : (decide (x < -(2 ^ 63)) || decide (x ≥ 2 ^ 63)) = false) (c1 : (items.isEmpty || x == 1) = true) :
    Meets (Builtin.«tuple.__mul__» ⟨[.ref l, .int x u], []⟩) (fun _ R s => s.heap.get? l = some { cls := .type "tuple", dict := dd, data := .seq items n, slots := sl } ∧ R (.ok (.ret (Value.ref l))) s) :=
  .of_wp fun prog w A R s h => by
    obtain ⟨hp, g, d, tk, os⟩ := s
    obtain ⟨hl, h⟩ := h
    have f1 := AutoSeq1.idx_int
    wp_walk using wpAny_loadPart' hl
    repeat (first
      | (refine wpAny_ite_false (decide_eq_false (by rw [c0]; exact Bool.false_ne_true)) ?_; wp_walk using wpAny_loadPart' hl)
      | (refine wpAny_ite_true (decide_eq_true (by rw [c1])) ?_; wp_walk using wpAny_loadPart' hl))
    exact ⟨_, rfl, h⟩
theorem tuple_mul0 (l : Addr) (items : Array Value) (n : Nat) (dd : Option Addr) (sl : Array (Option Value)) (x : Int) (u : Tok) (c0 : (decide (x < -(2 ^ 63)) || decide (x ≥ 2 ^ 63)) = false) (c1 : (items.isEmpty || x == 1) = false) (c2 : (decide (x ≤ 0) || items.isEmpty) = true) :
    Meets (Builtin.«tuple.__mul__» ⟨[.ref l, .int x u], []⟩) (fun _ R s => s.heap.get? l = some { cls := .type "tuple", dict := dd, data := .seq items n, slots := sl } ∧
      R (.ok (.ret (Value.ref s.heap.objs.size))) { s with heap := s.heap.push { cls := Value.type "tuple", data := Data.seq #[] }, toks := s.toks }) :=
  .of_wp fun prog w A R s h => by
    obtain ⟨hp, g, d, tk, os⟩ := s
    obtain ⟨hl, h⟩ := h
    have f1 := AutoSeq1.idx_int
    wp_walk using wpAny_loadPart' hl
    repeat (first
      | (refine wpAny_ite_false (decide_eq_false (by rw [c0]; exact Bool.false_ne_true)) ?_; wp_walk using wpAny_loadPart' hl)
      | (refine wpAny_ite_false (decide_eq_false (by rw [c1]; exact Bool.false_ne_true)) ?_; wp_walk using wpAny_loadPart' hl)
      | (refine wpAny_ite_true (decide_eq_true (by rw [c2])) ?_; wp_walk using wpAny_loadPart' hl))
    exact ⟨_, rfl, h⟩
def rRepD : R2 := fun x y H Q => ∃ l k xs, x = .ref l ∧ y = .int k ∧ TupD H l xs ∧ -1000 ≤ k ∧ k ≤ 1000 ∧ xs.length ≤ 1000 ∧ NewT (List.replicate k.toNat xs).flatten H Q
section
variable {X : Cx}
theorem op_repD : OpR X (binaryOp .Mult) rRepD := by
  intro pins s σ H x y v u Q I rx ry h
  obtain ⟨l, k, xs, rfl, rfl, hT, h1, h2, hz, q⟩ := h
  cases rx
  obtain ⟨t, rfl⟩ := ry
  obtain ⟨its, r, ⟨⟨cls, dd, data, sl⟩, ho, hc, n, hd⟩, hs⟩ := I.tuple (hT.sq (K := X.K))
  simp only at hc hd
  subst hc hd
  have hle : its.length = xs.length := r.length.symm
  have hsz0 : its.toArray.size = xs.length := by rw [List.size_toArray, hle]
  have c0 : (decide (k < -(2 ^ 63)) || decide (k ≥ 2 ^ 63)) = false := by
    rw [decide_eq_false (by omega), decide_eq_false (by omega)] <;> rfl
  by_cases e1 : (its.toArray.isEmpty || k == 1) = true
  · have ex : (List.replicate k.toNat xs).flatten = xs := by
      rcases (Bool.or_eq_true_iff.mp e1) with h | h
      · have hx : xs = [] := by
          have : its = [] := by simpa using h
          rw [this] at hle
          exact List.eq_nil_of_length_eq_zero hle.symm
        subst hx
        simp
      · have hk : k = 1 := by simpa using h
        subst hk
        simp
    refine wpAny_binaryOp_repeat_ref (T := "tuple") (U := "int") (by decide) ⟨_, ho, rfl⟩ (fun s' => typeIs_int s' k t) noFill_tuple_mul F.fills_int_mul F.slot_int_rmul repeat_tuple F.slot_int_index.lookup
      (call_meets F.slot_int_rmul (typeIs_int s k t) F.entry_int_rmul (F.args_int_rmul_2 _ _) (int_rmul_tuple k t l its.toArray n dd sl)
        ⟨ho, rfl, ⟨_, ho, rfl⟩, call_meets F.slot_tuple_mul ⟨_, ho, rfl⟩ F.entry_tuple_mul (F.args_tuple_mul_2 _ _) (tuple_mul1 l its.toArray n dd sl k t c0 e1) ⟨ho, ?_⟩⟩)
    exact ⟨.ref l, H, I, rfl, q l H (Same.refl H) (by rw [ex]; exact hT)⟩
  · have c1 : (its.toArray.isEmpty || k == 1) = false := by simpa using e1
    have hne : its.toArray.isEmpty = false := (Bool.or_eq_false_iff.mp c1).1
    have hk1 : k ≠ 1 := by
      have := (Bool.or_eq_false_iff.mp c1).2
      simpa using this
    by_cases e2 : k ≤ 0
    · have c2 : (decide (k ≤ 0) || its.toArray.isEmpty) = true := by rw [decide_eq_true e2]; rfl
      refine wpAny_binaryOp_repeat_ref (T := "tuple") (U := "int") (by decide) ⟨_, ho, rfl⟩ (fun s' => typeIs_int s' k t) noFill_tuple_mul F.fills_int_mul F.slot_int_rmul repeat_tuple F.slot_int_index.lookup
        (call_meets F.slot_int_rmul (typeIs_int s k t) F.entry_int_rmul (F.args_int_rmul_2 _ _) (int_rmul_tuple k t l its.toArray n dd sl)
          ⟨ho, rfl, ⟨_, ho, rfl⟩, call_meets F.slot_tuple_mul ⟨_, ho, rfl⟩ F.entry_tuple_mul (F.args_tuple_mul_2 _ _) (tuple_mul0 l its.toArray n dd sl k t c0 c1 c2) ⟨ho, ?_⟩⟩)
      obtain ⟨H', I', s', d'⟩ := laidD (xs := []) (us := []) (t := s.toks) I (Nat.zero_le _) .nil
      refine ⟨.ref s.heap.objs.size, H', I', rfl, q _ _ s' ?_⟩
      rw [show k.toNat = 0 by omega]
      exact d'
    · have hm : ((its.toArray.size : Nat) : Int) * k ≤ 1000000 := by
        rw [hsz0]
        have a1 : ((xs.length : Nat) : Int) * k ≤ 1000 * k := Int.mul_le_mul_of_nonneg_right (by omega) (by omega)
        omega
      have flen : (List.replicate k.toNat its).flatten.length ≤ sizeLine := by
        rw [PyProof.Rows.lm_len_rep_flat, hle, sizeLine_eq]
        have a1 : k.toNat * xs.length ≤ 1000 * 1000 := Nat.mul_le_mul (by omega) hz
        omega
      have c2 : (decide (k ≤ 0) || its.toArray.isEmpty) = false := by
        rw [hne, Bool.or_false]
        exact decide_eq_false e2
      have c4 : Builtin.Tuple.tupleTooMany (((its.toArray.size : Nat) : Int) * k) = false := by
        unfold Builtin.Tuple.tupleTooMany
        rw [sizeLine_eq]
        exact decide_eq_false (by omega)
      refine wpAny_binaryOp_repeat_ref (T := "tuple") (U := "int") (by decide) ⟨_, ho, rfl⟩ (fun s' => typeIs_int s' k t) noFill_tuple_mul F.fills_int_mul F.slot_int_rmul repeat_tuple F.slot_int_index.lookup
        (call_meets F.slot_int_rmul (typeIs_int s k t) F.entry_int_rmul (F.args_int_rmul_2 _ _) (int_rmul_tuple k t l its.toArray n dd sl)
          ⟨ho, rfl, ⟨_, ho, rfl⟩, call_meets F.slot_tuple_mul ⟨_, ho, rfl⟩ F.entry_tuple_mul (F.args_tuple_mul_2 _ _) (tuple_mulW l its.toArray n dd sl k t c0 c1 c2 (by omega) c4 (by rw [size_rep, List.size_toArray]; exact flen)) ⟨ho, ?_⟩⟩)
      rw [size_rep]
      have hx : (List.replicate k.toNat xs).flatten.length ≤ sizeLine := by
        rw [PyProof.Rows.lm_len_rep_flat, ← hle, ← PyProof.Rows.lm_len_rep_flat]
        exact flen
      obtain ⟨H', I', s', d'⟩ := laidD (t := s.toks) I hx (r.rep k.toNat)
      exact ⟨.ref s.heap.objs.size, H', I', rfl, q _ _ s' d'⟩
end
end DL
set_option Elab.async false
set_option linter.all false
set_option maxRecDepth 100000
set_option maxHeartbeats 2000000
/-! deep equality of rows of rows -/
namespace DL
open PySem PySem.Spec PyProof.Rows L2 RZ
theorem eqv_map {α : Type} [DecidableEq α] {f : α → PyData} (h : ∀ x y, PyData.eqv (f x) (f y) = decide (x = y)) : ∀ a b : List α, PyData.eqvAll (a.map f) (b.map f) = decide (a = b)
  | [], [] => by simp [PyData.eqvAll]
  | [], _ :: _ => by simp [PyData.eqvAll]
  | _ :: _, [] => by simp [PyData.eqvAll]
  | x :: a, y :: b => by
    simp only [List.map_cons, PyData.eqvAll, h x y, eqv_map h a b]
    by_cases e : x = y
    · subst e
      simp
    · simp [e]
theorem lay_map {α : Type} {f : α → PyData} (h : ∀ x, (f x).canLay0 = true) : ∀ a : List α, PyData.canLayAll0 (a.map f) = true
  | [] => by simp [PyData.canLayAll0]
  | x :: a => by simp [PyData.canLayAll0, h x, lay_map h a]
theorem depth_map {α : Type} {f : α → PyData} {n : Nat} (h : ∀ x, (f x).depth ≤ n) : ∀ a : List α, PyData.depthAll (a.map f) ≤ n
  | [] => by simp [PyData.depthAll]
  | x :: a => by
    have h1 := h x
    have h2 := depth_map h a
    simp [PyData.depthAll]
    omega
theorem dp_map {α : Type} {f : α → PyData} {K : PySem.W.Frag} {H : Hp} : ∀ (qs : List Addr) (xs : List α), qs.length = xs.length → (∀ (i : Nat) (q : Addr) (x : α), qs[i]? = some q → xs[i]? = some x → Dp K H (.ref q) (f x)) → DpAll K H (qs.map V.ref) (xs.map f)
  | [], [], _, _ => .nil
  | [], _ :: _, e, _ => by cases e
  | _ :: _, [], e, _ => by cases e
  | q :: qs, x :: xs, e, h => .cons (h 0 q x rfl rfl) (dp_map qs xs (by simpa using e) fun i r y h1 h2 => h (i + 1) r y h1 h2)
def P1 (ns : List Int) : PyData := .tuple (ns.map PyData.int)
def P2 (nss : List (List Int)) : PyData := .tuple (nss.map P1)
def PL2 (nss : List (List Int)) : PyData := .list (nss.map P1)
theorem lay1 (ns : List Int) : (P1 ns).canLay0 = true := by simp [P1, PyData.canLay0, lay_ints]
theorem depth1 (ns : List Int) : (P1 ns).depth ≤ 1 := by simp [P1, PyData.depth, depth_ints]
theorem eqv1 (a b : List Int) : PyData.eqv (P1 a) (P1 b) = decide (a = b) := eqv_tup a b
theorem eqvL2 (a b : List (List Int)) : PyData.eqv (PL2 a) (PL2 b) = decide (a = b) := by
  unfold PL2
  simp only [PyData.eqv]
  exact eqv_map eqv1 a b
theorem eqv2 (a b : List (List Int)) : PyData.eqv (P2 a) (P2 b) = decide (a = b) := by
  unfold P2
  simp only [PyData.eqv]
  exact eqv_map eqv1 a b
theorem shapedL2 (a : List (List Int)) : SeqAt.shaped (PL2 a) = true := by
  have := depth_map depth1 a
  unfold SeqAt.shaped PL2
  simp [PyData.canLay0, lay_map lay1, PyData.depth]
  omega
theorem lay2 (a : List (List Int)) : (P2 a).canLay0 = true := by simp [P2, PyData.canLay0, lay_map lay1]
theorem depth2 (a : List (List Int)) : (P2 a).depth ≤ 2 := by
  have := depth_map depth1 a
  simp [P2, PyData.depth]
  omega
theorem dpL2 {K : PySem.W.Frag} {H : Hp} {a : Addr} {qs : List Addr} {nss : List (List Int)} (h : SqL K H a (qs.map V.ref)) (hl : qs.length = nss.length) (hq : ∀ (i : Nat) (q : Addr) (ns : List Int), qs[i]? = some q → nss[i]? = some ns → TupI K H q ns) : Dp K H (.ref a) (PL2 nss) :=
  .lst h (dp_map qs nss hl fun i q x h1 h2 => dp_tup (hq i q x h1 h2))
theorem dp2 {K : PySem.W.Frag} {H : Hp} {a : Addr} {nss : List (List Int)} (h : TupTI K H a nss) : Dp K H (.ref a) (P2 nss) := by
  obtain ⟨qs, h1, h2, h3⟩ := h
  exact .tup h1 (dp_map qs nss h2 fun i q x a b => dp_tup (h3 i q x a b))
/-- (births, days) -/
def P3 (bs : List Int) (ds : List (List Int)) : PyData := .tuple [P1 bs, P2 ds]
theorem shaped3 (bs : List Int) (ds : List (List Int)) : SeqAt.shaped (P3 bs ds) = true := by
  have h1 := depth1 bs
  have h2 := depth2 ds
  unfold SeqAt.shaped P3
  simp [PyData.canLay0, PyData.canLayAll0, lay1, lay2, PyData.depth, PyData.depthAll]
  omega
theorem eqv3 (bs bs' : List Int) (ds ds' : List (List Int)) : PyData.eqv (P3 bs ds) (P3 bs' ds') = (decide (bs = bs') && decide (ds = ds')) := by
  unfold P3
  simp [PyData.eqv, PyData.eqvAll, eqv1, eqv2]
theorem dp3 {K : PySem.W.Frag} {H : Hp} {a b d : Addr} {bs : List Int} {ds : List (List Int)} (h : SqT K H a [.ref b, .ref d]) (hb : TupI K H b bs) (hd : TupTI K H d ds) : Dp K H (.ref a) (P3 bs ds) :=
  .tup h (.cons (dp_tup hb) (.cons (dp2 hd) .nil))
end DL
namespace DL
open PySem PySem.Spec PyProof.Rows L2 RZ
theorem filt_nil {α : Type} (k : α → Bool) : ∀ l : List α, decide ((l.filter fun x => !k x).length = 0) = (l.map k).all id
  | [] => by simp
  | x :: r => by
    have ih := filt_nil k r
    cases h : k x
    · simp [h]
    · simp [h] at ih ⊢
      exact ih
theorem zip_filt_snd {α β : Type} (k : β → Bool) : ∀ (qs : List α) (ds : List β), qs.length = ds.length → ((qs.zip ds).filter fun p => k p.2).map Prod.snd = ds.filter k
  | [], [], _ => rfl
  | [], _ :: _, h => by cases h
  | _ :: _, [], h => by cases h
  | q :: qs, d :: ds, h => by
    have ih := zip_filt_snd k qs ds (by simpa using h)
    cases e : k d
    · simp [e, ih]
    · simp [e, ih]
theorem nil_dec {α : Type} [DecidableEq α] (l : List α) : decide (l = []) = decide (l.length = 0) := by
  cases l <;> simp
end DL
namespace DL
open PySem PySem.Spec PyProof.Rows L2 RZ
section
variable {X : Cx}
theorem call_reprB : CallR X (.builtin "repr") (fun xs H Q => ∃ b : Bool, xs = [.bl b] ∧ Q (.str (if b then "True" else "False")) H) := by
  intro pins s σ H xs us Q I r h
  obtain ⟨b, rfl, q⟩ := h
  obtain ⟨u, rfl, r1⟩ := vals1 r
  cases r1
  exact PySem.P.repr_of_bool ⟨.str _, H, I.tok _, ⟨_, rfl⟩, q⟩
end
structure BlR (mg : Str → Option Value) : Prop where
  repr : mg "repr" = none
end DL
set_option Elab.async false
set_option linter.all false
set_option maxRecDepth 100000
set_option maxHeartbeats 2000000
/-! plain and level calendars: the mathematics -/
namespace DL
open PySem PySem.Spec PyProof.Rows L2 RZ
def countsL (bs : List Int) (ds : List (List Int)) : List Int := (List.range (ds.length + 1)).map (aliveAt bs ds)
def plainB (bs : List Int) (ds : List (List Int)) : Bool := (bs.map fun b => decide (b = 0)).all id && ((ds.map fun p => decide (p = [2])).all id && decide ((ds.length : Int) = (bs.length : Int) - 1))
/-- the sizes of all days, in a row -/
def sizesL (ds : List (List Int)) : List Int := ds.flatten
def fullB (bs : List Int) (ds : List (List Int)) : Bool := (List.range ds.length).all fun i => decide ((ds.getD i []).sum = aliveAt bs ds i)
def alikeB (ns : List Int) : Bool := (ns.map fun s => decide (s = ns.headD 0)).all id
def levelB (bs : List Int) (ds : List (List Int)) : Bool := fullB bs ds && (alikeB (sizesL ds) && decide (aliveAt bs ds ds.length = 1))
theorem all_true {α : Type} {l : List α} {f : α → Bool} (h : (l.map f).all id = true) : ∀ x ∈ l, f x = true := by
  intro x hx
  rw [List.all_eq_true] at h
  exact h _ (List.mem_map_of_mem hx)
theorem sum_twos : ∀ {ds : List (List Int)}, (∀ p ∈ ds, p = [2]) → (ds.map lessI).sum = (ds.length : Int)
  | [], _ => rfl
  | p :: r, h => by
    have e := h p List.mem_cons_self
    subst e
    have ih := sum_twos (ds := r) fun q hq => h q (List.mem_cons_of_mem _ hq)
    rw [List.map_cons, List.sum_cons, ih]
    simp [lessI]
    omega
theorem plain_end {bs : List Int} {ds : List (List Int)} (h1 : (bs.map fun b => decide (b = 0)).all id = true) (h2 : (ds.map fun p => decide (p = [2])).all id = true) :
    decide (aliveAt bs ds ds.length = 1) = decide ((ds.length : Int) = (bs.length : Int) - 1) := by
  have a1 := all_true h1
  have a2 := all_true h2
  have e1 : (bs.filter fun b => decide (b ≤ (ds.length : Int))) = bs := by
    rw [List.filter_eq_self]
    intro b hb
    have := of_decide_eq_true (a1 b hb)
    simp
    omega
  have e2 : (ds.map lessI).sum = (ds.length : Int) := sum_twos fun p hp => of_decide_eq_true (a2 p hp)
  unfold aliveAt
  rw [e1, List.take_length, e2]
  congr 1
  apply propext
  constructor <;> intro h <;> omega
theorem sizes_len {ds : List (List Int)} (h : ∀ p ∈ ds, p.length ≤ 1000) : (sizesL ds).length ≤ 1000 * ds.length := by
  induction ds with
  | nil => simp [sizesL]
  | cons p r ih =>
    have h1 := h p List.mem_cons_self
    have h2 := ih fun q hq => h q (List.mem_cons_of_mem _ hq)
    simp only [sizesL, List.flatten_cons, List.length_append, List.length_cons] at h2 ⊢
    omega
theorem sizes_next {ds : List (List Int)} {i : Nat} {p : List Int} (h : ds[i]? = some p) : sizesL (ds.take (i + 1)) = sizesL (ds.take i) ++ p := by
  have e : ds.take (i + 1) = ds.take i ++ [p] := by rw [List.take_add_one, h] <;> rfl
  rw [e]
  simp [sizesL]
theorem full_of {bs : List Int} {ds : List (List Int)} (h : ∀ i p, ds[i]? = some p → p.sum = aliveAt bs ds i) : fullB bs ds = true := by
  unfold fullB
  rw [List.all_eq_true]
  intro i hi
  have hi' : i < ds.length := by simpa using hi
  have e : ds[i]? = some ds[i] := by simp
  rw [List.getD_eq_getElem?_getD, e]
  simp only [Option.getD_some]
  exact decide_eq_true (h i _ e)
theorem full_not {bs : List Int} {ds : List (List Int)} {i : Nat} {p : List Int} (h : ds[i]? = some p) (hn : p.sum ≠ aliveAt bs ds i) : fullB bs ds = false := by
  unfold fullB
  rw [List.all_eq_false]
  refine ⟨i, ?_, ?_⟩
  · have := (List.getElem?_eq_some_iff.mp h).1
    simpa using this
  · rw [List.getD_eq_getElem?_getD, h]
    simpa using hn
end DL
set_option Elab.async false
set_option linter.all false
set_option maxRecDepth 100000
set_option maxHeartbeats 2000000
/-! leaves at drawn depths: the mathematics -/
namespace DL
open PySem PySem.Spec PyProof.Rows L2 RZ
structure LevOk (r g : Int) (bs : List Int) (ds : List (List Int)) : Prop where
  g1 : 1 ≤ g
  room : (bs.length : Int) + g * r ≤ 12
  pat : ∀ p ∈ ds, patB p = true ∧ p ≠ [] ∧ p.length ≤ 1000
  born : ∀ b ∈ bs, 0 ≤ b ∧ b ≤ (ds.length : Int)
  fit : ∀ (i : Nat) (p : List Int), ds[i]? = some p → p.sum ≤ aliveAt (bs ++ List.replicate g.toNat 0) ds i
theorem patB_rep {r : Int} (hr : 2 ≤ r) : ∀ n : Nat, patB (List.replicate n r) = true
  | 0 => rfl
  | n + 1 => by
    rw [List.replicate_succ']
    refine patB_app (patB_rep hr n) hr fun y hy => ?_
    have := List.mem_of_getLast? hy
    have := List.eq_of_mem_replicate this
    omega
theorem sum_rep (n : Nat) (r : Int) : (List.replicate n r).sum = n * r := by
  induction n with
  | zero => simp
  | succ n ih =>
    rw [List.replicate_succ, List.sum_cons, ih]
    rw [Int.natCast_succ, Int.add_mul]
    omega
theorem filt_rep (n : Nat) {k : Int → Bool} (h : k 0 = true) : ((List.replicate n (0 : Int)).filter k).length = n := by
  rw [List.filter_eq_self.mpr]
  · simp
  · intro x hx
    rw [List.eq_of_mem_replicate hx, h]
section
variable {r g b c : Int} {bs : List Int} {ds : List (List Int)}
theorem up_filt (m : Nat) (bs : List Int) : ((bs.map (· + 1)).filter fun x => decide (x ≤ ((m + 1 : Nat) : Int))).length = (bs.filter fun x => decide (x ≤ (m : Int))).length := by
  rw [List.filter_map, List.length_map]
  congr 1
  apply List.filter_congr
  intro x _
  simp
theorem up_filt0 (h : ∀ x ∈ bs, 0 ≤ x) : ((bs.map (· + 1)).filter fun x => decide (x ≤ ((0 : Nat) : Int))).length = 0 := by
  rw [List.length_eq_zero_iff, List.filter_eq_nil_iff]
  intro x hx
  obtain ⟨y, hy, rfl⟩ := List.mem_map.mp hx
  have := h y hy
  simp
  omega
theorem lev_alive0 {p : List Int} (h : ∀ x ∈ bs, 0 ≤ x) (hb : 0 ≤ b) (hc : 0 ≤ c) : aliveAt ((bs.map (· + 1) ++ List.replicate c.toNat 0) ++ List.replicate b.toNat 0) (p :: ds) 0 = b + c := by
  unfold aliveAt
  rw [List.filter_append, List.filter_append, List.length_append, List.length_append, up_filt0 h, filt_rep _ (by simp), filt_rep _ (by simp)]
  simp
  omega
theorem lev_aliveS (hg : 1 ≤ g) (hb : 0 ≤ b) (hc : 0 ≤ c) (e : b + c = g * r) (i : Nat) : aliveAt ((bs.map (· + 1) ++ List.replicate c.toNat 0) ++ List.replicate b.toNat 0) (List.replicate g.toNat r :: ds) (i + 1) = aliveAt (bs ++ List.replicate g.toNat 0) ds i := by
  unfold aliveAt
  rw [List.filter_append, List.filter_append, List.length_append, List.length_append, up_filt, filt_rep _ (by simp; omega), filt_rep _ (by simp; omega), List.filter_append, List.length_append, filt_rep _ (by simp)]
  rw [List.take_succ_cons, List.map_cons, List.sum_cons]
  have e1 : lessI (List.replicate g.toNat r) = g * r - g := by
    unfold lessI
    rw [sum_rep, List.length_replicate, show ((g.toNat : Nat) : Int) = g by omega]
  rw [e1]
  omega
theorem LevOk.start {r : Int} (h : r ≤ 4) : LevOk r 1 [] [] := ⟨by omega, by simp; omega, fun p h => (nomatch h), fun b h => (nomatch h), fun i p h => by cases h⟩
theorem LevOk.pats (h : LevOk r g bs ds) (hr : 2 ≤ r) : ∀ p ∈ List.replicate g.toNat r :: ds, patB p = true ∧ p ≠ [] ∧ p.length ≤ 1000 := by
  intro p hp
  have h1 := h.g1
  have h2 := h.room
  rcases List.mem_cons.mp hp with rfl | hp
  · have h3 : g * 2 ≤ g * r := Int.mul_le_mul_of_nonneg_left hr (by omega)
    refine ⟨patB_rep hr _, ?_, ?_⟩
    · intro z
      have := congrArg List.length z
      simp at this
      omega
    · simp
      omega
  · exact h.pat p hp
theorem LevOk.borns (h : LevOk r g bs ds) {k : Nat} : ∀ x ∈ bs.map (· + 1) ++ List.replicate k 0, 0 ≤ x ∧ x ≤ (((List.replicate g.toNat r :: ds).length : Nat) : Int) := by
  intro x hx
  rcases List.mem_append.mp hx with hx | hx
  · obtain ⟨y, hy, rfl⟩ := List.mem_map.mp hx
    have := h.born y hy
    simp
    omega
  · rw [List.eq_of_mem_replicate hx]
    simp
    omega
theorem LevOk.fits (h : LevOk r g bs ds) (hb : 0 ≤ b) (hc : 0 ≤ c) (e : b + c = g * r) : ∀ (i : Nat) (p : List Int), (List.replicate g.toNat r :: ds)[i]? = some p → p.sum ≤ aliveAt ((bs.map (· + 1) ++ List.replicate c.toNat 0) ++ List.replicate b.toNat 0) (List.replicate g.toNat r :: ds) i := by
  intro i p hp
  have h1 := h.g1
  cases i with
  | zero =>
    cases hp
    rw [lev_alive0 (fun x hx => (h.born x hx).1) hb hc, sum_rep, show ((g.toNat : Nat) : Int) = g by omega]
    omega
  | succ i =>
    rw [lev_aliveS h1 hb hc e]
    exact h.fit i p hp
theorem LevOk.cut (h : LevOk r g bs ds) (hr : 2 ≤ r) (hb : 0 ≤ b) (hc : 0 ≤ c) (e : b + c = g * r) (hd : ds.length ≤ 10) : CalOk ((bs.map (· + 1) ++ List.replicate c.toNat 0) ++ List.replicate b.toNat 0) (List.replicate g.toNat r :: ds) := by
  have h1 := h.g1
  have h2 := h.room
  have h3 : g * 2 ≤ g * r := Int.mul_le_mul_of_nonneg_left hr (by omega)
  refine ⟨by simp; omega, by simp; omega, by simp; omega, h.pats hr, fun x hx => ?_, h.fits hb hc e⟩
  rcases List.mem_append.mp hx with hx | hx
  · exact h.borns x hx
  · rw [List.eq_of_mem_replicate hx]
    simp
    omega
theorem LevOk.next (h : LevOk r g bs ds) (hr : 2 ≤ r) (hb : 1 ≤ b) (hc : 0 ≤ c) (e : b + c = g * r) (hz : (((bs.map (· + 1) ++ List.replicate c.toNat 0).length : Nat) : Int) + b * r ≤ 12) : LevOk r b (bs.map (· + 1) ++ List.replicate c.toNat 0) (List.replicate g.toNat r :: ds) :=
  ⟨hb, hz, h.pats hr, h.borns, h.fits (by omega) hc e⟩
theorem LevOk.fin (h : LevOk r g bs ds) (hr : 2 ≤ r) (hd : ds.length ≤ 11) : CalOk (bs ++ List.replicate g.toNat 0) ds := by
  have h1 := h.g1
  have h2 := h.room
  have h3 : g * 2 ≤ g * r := Int.mul_le_mul_of_nonneg_left hr (by omega)
  refine ⟨by simp; omega, by simp; omega, hd, h.pat, fun x hx => ?_, h.fit⟩
  rcases List.mem_append.mp hx with hx | hx
  · exact h.born x hx
  · rw [List.eq_of_mem_replicate hx]
    omega
end
end DL
set_option Elab.async false
set_option linter.all false
set_option maxRecDepth 100000
set_option maxHeartbeats 2000000
/-! plain ones, stars, changed calendars: the mathematics; rows of tuples in parts -/
namespace DL
open PySem PySem.Spec PyProof.Rows L2 RZ
def zerosL (n : Int) : List Int := List.replicate n.toNat 0
def twosL (n : Int) : List (List Int) := List.replicate (n - 1).toNat [2]
def oneDay (n : Int) : List (List Int) := [[n]]
theorem less_twos (k : Nat) : ((List.replicate k [(2 : Int)]).map lessI).sum = k := by
  induction k with
  | zero => rfl
  | succ k ih =>
    rw [List.replicate_succ, List.map_cons, List.sum_cons, ih]
    simp [lessI]
    omega
theorem cal_plain {n : Int} (h1 : 1 ≤ n) (h2 : n ≤ 12) : CalOk (zerosL n) (twosL n) := by
  refine ⟨by simp [zerosL]; omega, by simp [zerosL]; omega, by simp [twosL]; omega, fun p hp => ?_, fun b hb => ?_, fun i p hp => ?_⟩
  · rw [List.eq_of_mem_replicate hp]
    exact ⟨rfl, by simp, by simp⟩
  · rw [List.eq_of_mem_replicate hb]
    omega
  · have hm := List.eq_of_mem_replicate (List.mem_of_getElem? hp)
    have hi := (List.getElem?_eq_some_iff.mp hp).1
    simp [twosL] at hi
    subst hm
    have e1 : (twosL n).take i = List.replicate i [2] := by
      unfold twosL
      rw [List.take_replicate, Nat.min_eq_left (by omega)]
    unfold aliveAt zerosL
    rw [filt_rep _ (by simp), e1, less_twos]
    simp
    omega
theorem cal_star {n : Int} (h1 : 2 ≤ n) (h2 : n ≤ 12) : CalOk (zerosL n) (oneDay n) := by
  refine ⟨by simp [zerosL]; omega, by simp [zerosL]; omega, by simp [oneDay], fun p hp => ?_, fun b hb => ?_, fun i p hp => ?_⟩
  · rw [List.mem_singleton.mp hp]
    exact ⟨by simp [patB, h1], by simp, by simp⟩
  · rw [List.eq_of_mem_replicate hb]
    omega
  · cases i with
    | zero =>
      cases hp
      unfold aliveAt zerosL
      rw [filt_rep _ (by simp)]
      simp
      omega
    | succ i => cases hp
theorem cal_one : CalOk [0] [] := ⟨by decide, by decide, by decide, fun p h => (nomatch h), fun b hb => by rw [List.mem_singleton.mp hb]; decide, fun i p h => by cases h⟩
/-- addresses of tuples that hold these rows -/
def RowsD (H : Hp) (qs : List Addr) (ds : List (List Int)) : Prop := qs.length = ds.length ∧ ∀ (i : Nat) (q : Addr) (ns : List Int), qs[i]? = some q → ds[i]? = some ns → TupD H q (ns.map V.int)
theorem TupTD.rows {H : Hp} {a : Addr} {ds : List (List Int)} (h : TupTD H a ds) : ∃ qs : List Addr, TupD H a (qs.map V.ref) ∧ RowsD H qs ds := by
  obtain ⟨qs, h1, h2, h3⟩ := h
  exact ⟨qs, h1, h2, h3⟩
theorem RowsD.td {H : Hp} {a : Addr} {qs : List Addr} {ds : List (List Int)} (h : RowsD H qs ds) (t : TupD H a (qs.map V.ref)) : TupTD H a ds := ⟨qs, t, h.1, h.2⟩
theorem RowsD.same {H H' : Hp} {qs : List Addr} {ds : List (List Int)} (h : RowsD H qs ds) (s : Same H H') : RowsD H' qs ds := ⟨h.1, fun i q ns a b => (h.2 i q ns a b).same s⟩
theorem RowsD.tk {H H' : Hp} {qs : List Addr} {ds : List (List Int)} (h : RowsD H qs ds) (s : TK H H') : RowsD H' qs ds := ⟨h.1, fun i q ns a b => (h.2 i q ns a b).tk s⟩
theorem RowsD.one {H : Hp} {q : Addr} {ns : List Int} (h : TupD H q (ns.map V.int)) : RowsD H [q] [ns] := ⟨rfl, fun i r ms h1 h2 => by
  cases i with
  | zero =>
    cases h1
    cases h2
    exact h
  | succ i => cases h1⟩
theorem RowsD.app {H : Hp} {qs qs' : List Addr} {ds ds' : List (List Int)} (h : RowsD H qs ds) (h' : RowsD H qs' ds') : RowsD H (qs ++ qs') (ds ++ ds') := by
  refine ⟨by rw [List.length_append, List.length_append, h.1, h'.1], fun i q ns h1 h2 => ?_⟩
  by_cases hi : i < qs.length
  · rw [List.getElem?_append_left hi] at h1
    rw [List.getElem?_append_left (by rw [← h.1]; exact hi)] at h2
    exact h.2 i q ns h1 h2
  · rw [List.getElem?_append_right (by omega)] at h1
    rw [List.getElem?_append_right (by rw [← h.1]; omega), ← h.1] at h2
    exact h'.2 _ q ns h1 h2
theorem RowsD.take {H : Hp} {qs : List Addr} {ds : List (List Int)} (h : RowsD H qs ds) (k : Nat) : RowsD H (qs.take k) (ds.take k) := by
  refine ⟨by rw [List.length_take, List.length_take, h.1], fun i q ns h1 h2 => ?_⟩
  by_cases hi : i < k
  · rw [List.getElem?_take_of_lt hi] at h1 h2
    exact h.2 i q ns h1 h2
  · rw [List.getElem?_take, if_neg hi] at h1
    cases h1
theorem RowsD.drop {H : Hp} {qs : List Addr} {ds : List (List Int)} (h : RowsD H qs ds) (k : Nat) : RowsD H (qs.drop k) (ds.drop k) := by
  refine ⟨by rw [List.length_drop, List.length_drop, h.1], fun i q ns h1 h2 => ?_⟩
  rw [List.getElem?_drop] at h1 h2
  exact h.2 _ q ns h1 h2
/-- what a change leaves: to be cut to a calendar -/
structure Rough (bs : List Int) (ds : List (List Int)) : Prop where
  n1 : 1 ≤ bs.length
  n12 : bs.length ≤ 12
  m12 : ds.length ≤ 12
  pat : ∀ p ∈ ds, patB p = true ∧ p ≠ [] ∧ p.length ≤ 1000
  nn : ∀ b ∈ bs, 0 ≤ b
theorem Rough.of {bs : List Int} {ds : List (List Int)} (h : CalOk bs ds) : Rough bs ds := ⟨h.n1, h.n12, by have := h.m11; omega, h.pat, fun b hb => (h.born b hb).1⟩
theorem Rough.cal {bs : List Int} {ds : List (List Int)} (h : Rough bs ds) (hm : ds.length < 12) (hf : ∀ (i : Nat) (p : List Int), ds[i]? = some p → p.sum ≤ aliveAt (bs.map (capB (ds.length : Int))) ds i) : CalOk (bs.map (capB (ds.length : Int))) ds := by
  refine ⟨by simpa using h.n1, by simpa using h.n12, by omega, h.pat, fun b hb => ?_, hf⟩
  obtain ⟨x, hx, rfl⟩ := List.mem_map.mp hb
  have := h.nn x hx
  unfold capB
  split <;> omega
theorem cap_min (m w : Int) : (if m < w then m else w) = capB m w := rfl
end DL
set_option Elab.async false
set_option linter.all false
set_option maxRecDepth 100000
set_option maxHeartbeats 2000000
/-! a try whose clauses all name what they catch, with one name: the rule of one such clause, taken for several -/
namespace DL
open PySem PySem.Spec PyProof.Rows L2
/-- what clauses one behind the other wish, each of them with the name at slot i -/
def wSome (K : PySem.W.Frag) (i : Nat) (Wo : WX) (D : Ends) : List (Value × (Addr → Value → Option Addr → TS)) → WX
  | [] => Wo
  | cl :: more => wAs K cl.1 i cl.2 (wSome K i Wo D more) D
inductive Clauses (X : Cx) (n : Str) : List ExceptHandler → List (Value × (Addr → Value → Option Addr → TS)) → Prop
  | stop : Clauses X n [] []
  | more {y : Str} {cv : Value} {tq : Addr → Value → Option Addr → TS} {st0 : Stmt} {sts : List Stmt} {q1 q2 : Pos} {hl : List ExceptHandler} {ll : List (Value × (Addr → Value → Option Addr → TS))} (nm : Names X y cv)
      (run : ∀ (ea : Addr) (eo : Obj) (ec : Value) (ed : Option Addr) (ps : List (Addr × Obj)), Zc ec ed eo → (∃ fv, eo.data = .fields fv) → PSs (X.suite ea ((ea, eo) :: ps)) (st0 :: sts) (tq ea ec ed)) (tl : Clauses X n hl ll) :
      Clauses X n (.ExceptHandler (some (.Name y q1)) (some n) (st0 :: sts) q2 :: hl) ((cv, tq) :: ll)
section
variable {X : Cx} {n : Str} {i : Nat} {body : List Stmt} {hd : ExceptHandler} {hl : List ExceptHandler} {ll : List (Value × (Addr → Value → Option Addr → TS))} {q0 : Pos} {tb : WX → TS} {Wo : WX}
theorem ps_trySome (stk : X.stack = X.env :: X.outer) (frm : X.env.frame = some X.env.locals) (nod : X.N.Nodup) (slt : X.N[i]? = some n) (knd : X.env.kindOf n = some .local) (tk : Takes X Wo)
    (bd : ∀ (W : WX) (ps : List (Addr × Obj)) (xw : Value → Shared → Prop), Takes (X.tr ps xw) W → PassesOwn (model X.prog X.w) X.A X.env xw → PSs (X.tr ps xw) body (tb W))
    (all : Clauses X n (hd :: hl) ll) : PS X (.Try body (hd :: hl) [] [] q0) (fun D σ H => tb (wSome X.K i Wo D ll) D σ H) := by
  refine ⟨fun pp s σ H D J0 want => ?_⟩
  have okk := J0.ok
  have fr0 : X.A.frames = some (X.env :: X.outer) := okk.frames.trans (congrArg some stk)
  refine wpAny_Try_except (wpAny_mono ((bd (wSome X.K i Wo D ll) (X.pn ++ pp) (fun ex z1 => wpAny (model X.prog X.w) X.A (noteFrame ex X.env) (fun _ z2 => wpAny (model X.prog X.w) X.A (setFlight ex none) (fun _ z3 => wpAny (model X.prog X.w) X.A (handleBy ex X.env (hd :: hl)) (SP X pp D) X.xe z3) X.xe z2) X.xe z1) (fun _ z4 got => ?_) PassesOwn.looking).run [] s σ H D (J0.toTry _) want) (fun fl z5 got => ?_) fun _ _ got => got)
  · obtain ⟨ea, B, zI, pq, σc, Hc, ec, ed, rfl, Jt, nb, up, sky, fresh, os, ag, goal⟩ := got
    have Jc : Inv X pp σc Hc zI := Jt.ofTry okk
    have sky2 : Sky B (X.env :: X.outer) ea (Zc ec ed) X.env.locals z4.heap := stk ▸ sky
    show wpAny (model X.prog X.w) X.A (noteFrame (.ref ea) X.env) _ _ _
    refine Sky.land Zc.steady fr0 frm sky2 fun g3 f3 u3 => ?_
    have up3 := up.trans u3
    have Jl : Inv X pp σc Hc { z4 with heap := g3 } := Jc.landed nb f3.1 up3 os ag
    obtain ⟨eo3, fv3, at3, cls3, dat3⟩ := f3.there
    have outside : ea ∉ frs (X.env :: X.outer) := fun hm => by
      obtain ⟨_, eo', at', nof⟩ := f3.2.2.1.mem hm
      rw [at3] at at'
      cases at'
      exact nof _ dat3
    have offL : ea ≠ X.env.locals := fun z => outside (List.mem_filterMap.mpr ⟨X.env, List.mem_cons_self, frm.trans (congrArg some z.symm)⟩)
    have offF : ea ∉ X.fs := fun hm => by
      obtain ⟨ev, hev, qev⟩ := List.mem_filterMap.mp hm
      exact outside (List.mem_filterMap.mpr ⟨ev, List.mem_cons_of_mem _ hev, qev⟩)
    have Js := Jl.suite at3 dat3 fresh offL offF
    have lks : PySem.W.Looks (model X.prog X.w) g3 (typeOf (.ref ea)) ec := fun A' Q' E' z6 kk q6 => wpAny_typeOf_ref (kk _ _ at3) (by rw [cls3.1]; exact q6)
    have walk : ∀ {hl' : List ExceptHandler} {ll' : List (Value × (Addr → Value → Option Addr → TS))}, Clauses X n hl' ll' → wSome X.K i Wo D ll' ec ed σc Hc → wpAny (model X.prog X.w) X.A (handleBy (.ref ea) X.env hl') (SP X pp D) X.xe { z4 with heap := g3 } := by
      intro hl' ll' hk
      induction hk with
      | stop =>
        intro goal2
        obtain ⟨_, _, _, ox, fvx, Tx, oTx, tsx, atx, _, datx, fx, _⟩ := id f3
        refine wpAny_handleBy_nil (by
          unfold PySem.passOn
          refine wpAny_bind (wpAny_field atx datx fx ?_)
          rw [if_neg (show ¬ ((Value.ref Tx == Value.none) = true) from by simp)]
          have last : wpAny (model X.prog X.w) X.A (setFlight (.ref ea) X.env.frame) (fun _ z7 => wpAny (model X.prog X.w) X.A (throw (.ref ea) : Sem Flow) (SP X pp D) X.xe z7) X.xe { z4 with heap := g3 } := by
            rw [frm]
            exact HandSPX.setFlight_upZ f3 fun g4 f4 u4 => wpAny_throw (tk _ _ ⟨ea, B, zI, pp, σc, Hc, ec, ed, rfl, Jc, nb, up3.trans u4, .inr (.inr (by rw [stk]; exact f4)), fresh, os, ag, goal2⟩)
          first | exact wpAny_bind (wpAny_pure (wpAny_bind last)) | exact wpAny_bind last)
      | @more y cv tq st0 sts q1 q2 hl2 ll2 nm run tl ih =>
        rintro ⟨yes, hy, onYes, onNo⟩
        refine wpAny_handleBy_cons (codeAny_handlers_test ?_) (by intro q; cases q)
        have seen := PySem.W.exm_one (M := model X.prog X.w) Jl.kIn lks hy
        have ask : ∀ {Q' E' : Value → Shared → Prop}, Q' cv { z4 with heap := g3 } → wpAny (model X.prog X.w) (X.A.mark (some (.ref ea))) (eval (.Name y q1) X.env) Q' E' { z4 with heap := g3 } := fun {Q' E'} q7 => by
          obtain ⟨gl, dbg, own | ⟨own, bt, nn⟩⟩ := nm
          · exact ld_glob (X := X.suite ea ((ea, eo3) :: (X.pn ++ pp))) Js gl own q7 dbg
          · exact ld_blt (X := X.suite ea ((ea, eo3) :: (X.pn ++ pp))) Js gl own bt q7 nn dbg
        refine ask (seen.here ?_)
        cases yes with
        | false => exact ih (onNo rfl)
        | true =>
          refine codeAny_handlers_suite_as (HandSPX.lands_againZ f3 fun g4 f4 u4 => ?_)
          obtain ⟨eo4, fv4, at4, cls4, dat4⟩ := f4.there
          have Jl4 : Inv X pp σc Hc { z4 with heap := g4 } := Jc.landed nb f4.1 (up3.trans u4) os ag
          have Js4 := Jl4.suite at4 dat4 fresh offL offF
          refine store_ok (X := X.suite ea ((ea, eo4) :: (X.pn ++ pp))) (v := .ref ea) Js4 nod slt (.inl knd) rfl (fun z8 J8 => ?_) (.inr knd)
          refine wpAny_mono ((run ea eo4 ec ed (X.pn ++ pp) cls4 ⟨_, dat4⟩).run [] z8 _ Hc _ J8 (onYes rfl ea fresh)) (fun fl z9 got => ?_) fun _ _ z => False.elim z
          have out : ∀ {σ9 : L2.St} {H9 : Hp} {Q' : Shared → Prop}, Inv (X.suite ea ((ea, eo4) :: (X.pn ++ pp))) [] σ9 H9 z9 → (∀ z10, Inv X pp (σ9.set i none) H9 z10 → Q' z10) → wpAny (model X.prog X.w) X.A (do bindName X.env n .none; unbindBehindTheSuite X.env n q2) (fun _ z10 => Q' z10) X.xe z9 := fun J9 hq => gone_ok (J9.unsuite okk) nod slt knd hq
          cases fl with
          | next =>
            obtain ⟨_, _, J9, g⟩ := got
            exact out J9 fun _ J10 => ⟨_, _, J10, g⟩
          | brk =>
            obtain ⟨_, _, J9, g⟩ := got
            exact out J9 fun _ J10 => ⟨_, _, J10, g⟩
          | cont =>
            obtain ⟨_, _, J9, g⟩ := got
            exact out J9 fun _ J10 => ⟨_, _, J10, g⟩
          | ret u =>
            obtain ⟨_, _, _, J9, rr, g⟩ := got
            exact out J9 fun _ J10 => ⟨_, _, _, J10, rr, g⟩
    exact walk all goal
  · cases fl with
    | next =>
      obtain ⟨_, _, J5, g⟩ := got
      exact wpAny_execs_nil ⟨_, _, J5.ofTry okk, g⟩
    | brk =>
      obtain ⟨_, _, J5, g⟩ := got
      exact ⟨_, _, J5.ofTry okk, g⟩
    | cont =>
      obtain ⟨_, _, J5, g⟩ := got
      exact ⟨_, _, J5.ofTry okk, g⟩
    | ret u =>
      obtain ⟨_, _, _, J5, rr, g⟩ := got
      exact ⟨_, _, _, J5.ofTry okk, rr, g⟩
end
end DL
set_option Elab.async false
set_option linter.all false
set_option maxRecDepth 100000
set_option maxHeartbeats 2000000
/-! a call by keywords alone that may raise; rows and numbers told with a word -/
namespace DL
open PySem PySem.Spec PyProof.Rows L2 RZ
section
variable {X : Cx} {k j : Nat} {x : Str} {st : Stmt} {ps ks : List Str} {sp : Sp} {E : L2.St → XK} {p pos : Pos} {tk : TA} {kws : List Keyword}
theorem kw_run {CX : CXT} {f : Addr} {fd : FuncData} {g : List Value → List Value} {gV : List V → List V} {pq : List (Addr × Obj)} {σ : L2.St} {H : Hp} {s : Shared} {Q : VK} {ws : List Value} {zs : List V} (F : FnOk X.prog X.w X.K X.mg X.base CX k f fd ps sp) (room : Room k X.A)
    (tb : BindsTo s fd ⟨[], ks.zip ws⟩ (ps.zip (g ws))) (out : PassesAt CX X σ (E σ)) (J : Inv X pq σ H s) (rel : Vals (gV zs) (g ws)) (want : sp (gV zs) H Q (E σ)) : wpAny (model X.prog X.w) X.A (call (.ref f) [] (ks.zip ws)) (EP X pq σ Q) X.xe s := by
  refine wpAny_call (codeAny_mono (F.run X.A X.stack s H ⟨[], ks.zip ws⟩ (g ws) (gV zs) Q (E σ) room J.env0 tb rel want) fun ends z got => ?_)
  rcases ends with e | fl
  · exact out pq H s e z J got
  · cases fl with
    | ret u => exact J.after got
    | next => exact got.elim
    | brk => exact got.elim
    | cont => exact got.elim
def tCallKE (m : Nat) (sp : Sp) (gV : List V → List V) (E : L2.St → XK) (tk : TA) : TE := fun σ H Q => tk σ H fun zs H1 => zs.length = m ∧ sp (gV zs) H1 Q (E σ)
theorem pe_cakE {g : List Value → List Value} {gV : List V → List V} (c : Ca X.prog X.w X.K X.mg X.base k x st ps sp) (b : KwOk x st ps ks g) (hgv : ∀ {zs : List V} {ws : List Value}, Vals zs ws → Vals (gV zs) (g ws)) (hr : Room j X.A) (hx : ∀ σ, PassesAt (L2.CX X.prog X.w) X σ (E σ)) (hkw : PK X kws tk) (hk : k ≤ j := by decide) (hg : Gl X x := by rfl)
    (named : (backToKw pos (keywordEach kws X.env)).all (·.1.isSome) = true := by rfl) (names : (backToKw pos (keywordEach kws X.env)).filterMap (·.1) = ks := by rfl) (dbg : (x == ("__debug__" : Str)) = false := by decide)
    (bare : ((backTo pos (starEach [] X.env)).any (·.1) || (backToKw pos (keywordEach kws X.env)).any (·.1.isNone)) = false := by rfl) :
    PE X (.Call (.Name x p) [] kws pos) (tCallKE ks.length sp gV E tk) := by
  obtain ⟨f, fd, F, hm, G⟩ := c.ex
  have keep := F.kp
  obtain ⟨oc, od, kV, doc, pm, an, cdv, ct, osl, rfl, lk, hcd⟩ := F.ex
  refine ⟨fun pq s σ H Q J want => wpAny_Call_Name_kw (ld_glob J hg hm (PySem.W.callWith_KW0 (h₀ := X.base) J.ok.mod.kin keep named (thn (hkw.run pos pq s σ H _ J want) fun ws s2 ⟨zs, H2, J2, rz, l2, q2⟩ => ⟨J2.kIn, ?_⟩) bare) dbg)⟩
  rw [names]
  exact kw_run G (hr.mono hk) (.of_eq (b kV doc pm an cdv ct ws (rz.length.symm.trans l2))) (hx σ) J2 (hgv rz) q2
end
/-- ("word", rows) -/
def PT2 (s : Str) (nss : List (List Int)) : PyData := .tuple [.str s, P2 nss]
theorem shapedT2 (s : Str) (nss : List (List Int)) (hs : PyData.strOk s = true := by decide +kernel) : SeqAt.shaped (PT2 s nss) = true := by
  have := depth2 nss
  unfold SeqAt.shaped PT2
  simp [PyData.canLay0, PyData.canLayAll0, lay2, PyData.depth, PyData.depthAll, hs]
  omega
theorem eqvT2 (s : Str) (a b : List (List Int)) : PyData.eqv (PT2 s a) (PT2 s b) = decide (a = b) := by
  simp [PT2, PyData.eqv, PyData.eqvAll, eqv2]
theorem dpT2 {K : PySem.W.Frag} {H : Hp} {a r : Addr} {s : Str} {nss : List (List Int)} (h : SqT K H a [.str s, .ref r]) (hr : TupTI K H r nss) : Dp K H (.ref a) (PT2 s nss) :=
  .tup h (.cons (.str s) (.cons (dp2 hr) .nil))
/-- ("word", number) -/
def PTi (s : Str) (n : Int) : PyData := .tuple [.str s, .int n]
theorem shapedTi (s : Str) (n : Int) (hs : PyData.strOk s = true := by decide +kernel) : SeqAt.shaped (PTi s n) = true := by
  unfold SeqAt.shaped PTi
  simp [PyData.canLay0, PyData.canLayAll0, PyData.depth, PyData.depthAll, hs]
theorem eqvTi (s : Str) (a b : Int) : PyData.eqv (PTi s a) (PTi s b) = decide (a = b) := by
  simp only [PTi, PyData.eqv, PyData.eqvAll, beq_self_eq_true, Bool.true_and, Bool.and_true]
  by_cases h : a = b
  · subst h
    simp
  · rw [decide_eq_false h]
    exact beq_eq_false_iff_ne.mpr h
theorem dpTi {K : PySem.W.Frag} {H : Hp} {a : Addr} {s : Str} {n : Int} (h : SqT K H a [.str s, .int n]) : Dp K H (.ref a) (PTi s n) := .tup h (.cons (.str s) (.cons (.int n) .nil))
/-- a name of the module that holds an object -/
structure DGl (K : PySem.W.Frag) (x : Str) : Prop where
  ex : ∃ C : Addr, PySem.W.nsIn K mainGlobals x = some (some (.ref C))
theorem DGl.gl {K : PySem.W.Frag} {h : Heap} {mg : Str → Option Value} {x : Str} (d : DGl K x) (X : K.In h) (G : h.Ns mainGlobals mg) : ∃ C : Addr, mg x = some (.ref C) := by
  obtain ⟨C, e⟩ := d.ex
  exact ⟨C, PySem.W.mg_of X G e⟩
theorem DGl.of {K : PySem.W.Frag} {x : Str} {C : Addr} (h : PySem.W.nsIn K mainGlobals x = some (some (.ref C))) : DGl K x := ⟨⟨C, h⟩⟩
end DL
set_option Elab.async false
set_option linter.all false
set_option maxRecDepth 100000
set_option maxHeartbeats 2000000
/-! a tuple of numbers told with a word -/
namespace DL
open PySem PySem.Spec PyProof.Rows L2 RZ
def PT1 (s : Str) (ns : List Int) : PyData := .tuple [.str s, P1 ns]
theorem shapedT1 (s : Str) (ns : List Int) (hs : PyData.strOk s = true := by decide +kernel) : SeqAt.shaped (PT1 s ns) = true := by
  have := depth1 ns
  unfold SeqAt.shaped PT1
  simp [PyData.canLay0, PyData.canLayAll0, lay1, PyData.depth, PyData.depthAll, hs]
  omega
theorem eqvT1 (s : Str) (a b : List Int) : PyData.eqv (PT1 s a) (PT1 s b) = decide (a = b) := by
  have h := eqv1 a b
  simp only [P1, PyData.eqv] at h
  simp [PT1, P1, PyData.eqv, PyData.eqvAll, h]
theorem dpT1 {K : PySem.W.Frag} {H : Hp} {a r : Addr} {s : Str} {ns : List Int} (h : SqT K H a [.str s, .ref r]) (hr : TupI K H r ns) : Dp K H (.ref a) (PT1 s ns) :=
  .tup h (.cons (.str s) (.cons (dp_tup hr) .nil))
/-- three keywords, the other way about -/
def rev3 {α : Type} : List α → List α
  | [x, y, z] => [z, y, x]
  | l => l
theorem kv3 : ∀ {zs : List V} {ws : List Value}, Vals zs ws → Vals (rev3 zs) (rev3 ws)
  | _, _, .nil => .nil
  | _, _, .cons a .nil => .cons a .nil
  | _, _, .cons a (.cons b .nil) => .cons a (.cons b .nil)
  | _, _, .cons a (.cons b (.cons c .nil)) => .cons c (.cons b (.cons a .nil))
  | _, _, .cons a (.cons b (.cons c (.cons d r))) => .cons a (.cons b (.cons c (.cons d r)))
def rev2 {α : Type} : List α → List α
  | [x, y] => [y, x]
  | l => l
theorem kv2 : ∀ {zs : List V} {ws : List Value}, Vals zs ws → Vals (rev2 zs) (rev2 ws)
  | _, _, .nil => .nil
  | _, _, .cons a .nil => .cons a .nil
  | _, _, .cons a (.cons b .nil) => .cons b (.cons a .nil)
  | _, _, .cons a (.cons b (.cons c r)) => .cons a (.cons b (.cons c r))
def rev4 {α : Type} : List α → List α
  | [x, y, z, t] => [t, z, y, x]
  | l => l
theorem kv4 : ∀ {zs : List V} {ws : List Value}, Vals zs ws → Vals (rev4 zs) (rev4 ws)
  | _, _, .nil => .nil
  | _, _, .cons a .nil => .cons a .nil
  | _, _, .cons a (.cons b .nil) => .cons a (.cons b .nil)
  | _, _, .cons a (.cons b (.cons c .nil)) => .cons a (.cons b (.cons c .nil))
  | _, _, .cons a (.cons b (.cons c (.cons d .nil))) => .cons d (.cons c (.cons b (.cons a .nil)))
  | _, _, .cons a (.cons b (.cons c (.cons d (.cons e r)))) => .cons a (.cons b (.cons c (.cons d (.cons e r))))
end DL
set_option Elab.async false
set_option linter.all false
set_option maxRecDepth 100000
set_option maxHeartbeats 2000000
/-! sorted(xs) said as a function of what stands in xs: whole numbers, tuples of whole numbers of any lengths -/
namespace DL
open PySem PySem.Spec PyProof.Rows L2 RZ PySem.W
theorem dataLe_tups {β : Type} (x : β → List Int) : dataLe false (fun b => P1 (x b)) = fun p q => decide (x p ≤ x q) := by
  funext p q
  show (!dataLt (.tuple ((x q).map .int)) (.tuple ((x p).map .int))) = _
  rw [dataLt_tuple]
  have e := dataLt_ints (x q) (x p)
  unfold rowLt at e
  rw [e]
  by_cases h : x q < x p
  · rw [decide_eq_true h, decide_eq_false fun r => List.not_lt.mpr r h]
    rfl
  · rw [decide_eq_false h, decide_eq_true (List.not_lt.mp h)]
    rfl
theorem each_vals {xs : List V} {us : List Value} (r : Vals xs us) : EachIs (fun u x => RelV x u) us xs := by
  induction r with
  | nil => exact .nil
  | cons a _ ih => exact .cons a ih
theorem each_to {β : Type} {f : β → V} : ∀ {L : List β} {us : List Value}, Vals (L.map f) us → EachIs (fun u b => RelV (f b) u) us L
  | [], _, h => by
    cases h
    exact .nil
  | b :: L, _, h => by
    cases h with
    | cons a t => exact .cons a (each_to t)
theorem each_back {β : Type} {f : β → V} : ∀ {L : List β} {us : List Value}, EachIs (fun u b => RelV (f b) u) us L → Vals (L.map f) us
  | _, _, .nil => .nil
  | _, _, .cons a t => .cons a (each_back t)
theorem each_with {β : Type} {R S : Value → β → Prop} : ∀ {L : List β} {us : List Value}, EachIs R us L → (∀ u b, b ∈ L → R u b → S u b) → EachIs S us L
  | _, _, .nil, _ => .nil
  | _, _, .cons a t, h => .cons (h _ _ List.mem_cons_self a) (each_with t fun u b hb => h u b (List.mem_cons_of_mem _ hb))
def lstLe (ns ms : List Int) : Bool := decide (ns ≤ ms)
def rowLe (p q : Addr × List Int) : Bool := lstLe p.2 q.2
section
variable {X : Cx}
/-- sorted(xs) of tuples of whole numbers, none of them empty -/
def rSortR (K : PySem.W.Frag) : List V → Hp → VK → Prop := fun vs H Q => ∃ (a : Addr) (L : List (Addr × List Int)), vs = [V.ref a] ∧ SqL K H a (L.map fun p => V.ref p.1) ∧ (∀ p ∈ L, SqT K H p.1 (p.2.map V.int) ∧ p.2 ≠ []) ∧
  ∀ p : Addr, H p = none → Q (.ref p) (upd H p (.lst ((L.mergeSort rowLe).map fun p => V.ref p.1)))
theorem cr_sortR (hu : X.A.units + 64 < cLine) : CallR X (.builtin "sorted") (rSortR X.K) := by
  intro pins s σ H vs us Q I r h
  obtain ⟨a, L, rfl, hs, hL, q⟩ := h
  obtain ⟨its, rv, hl, hz⟩ := I.list hs
  rw [Vals.ref1 r]
  have e0 := each_to rv
  have hz' : L.length ≤ sizeLine := by simpa using hz
  refine PySem.W.sorted_data (bs := L) (enc := fun p => P1 p.2) (R := fun u (p : Addr × List Int) => RelV (V.ref p.1) u) hl.isList e0 (each_with e0 fun u p hp hr => Dp.reads I _ _ _ (dp_tup (hL p hp).1) hr) ?_ ?_ hz' (fun p _ => ?_) fun out ho eo => ?_
  · exact AllAlike.of fun b b' => by
      unfold P1
      simp only [alike]
      exact alike_ints _ _
  · refine .inl fun d hd => ?_
    obtain ⟨p, hp, rfl⟩ := List.mem_map.mp hd
    have hne := (hL p hp).2
    cases e : p.2 with
    | nil => exact absurd e hne
    | cons x t => exact ⟨.int x, t.map .int, by simp [P1, e]⟩
  · have := depth1 p.2
    omega
  · obtain ⟨ep, he'⟩ := sortedAll_at s.heap its (List.toArray out)
    have ed : dataLe false (fun p : Addr × List Int => P1 p.2) = rowLe := by
      rw [dataLe_tups]
      rfl
    rw [ed] at eo
    have eb := each_back eo
    have hlen : ((L.mergeSort rowLe).map fun p => V.ref p.1).length ≤ sizeLine := by
      rw [List.length_map, List.length_mergeSort]
      exact hz'
    exact ⟨.ref _, upd H (s.heap.objs.size + 1) (.lst ((L.mergeSort rowLe).map fun p => V.ref p.1)), I.laid (t' := s.toks) (fun _ _ => sortedAll_old) (Nat.le_succ _) ⟨hlen, out, ep, eb, by simpa using he'⟩, rfl, q _ (I.hok.fresh (Nat.le_succ _))⟩
/-- sorted(xs) of whole numbers -/
def upI (ns : List Int) : List Int := ns.mergeSort fun a b => decide (a ≤ b)
def rSortZ (K : PySem.W.Frag) : List V → Hp → VK → Prop := fun vs H Q => ∃ (a : Addr) (ns : List Int), vs = [V.ref a] ∧ SqL K H a (ns.map V.int) ∧ ∀ p : Addr, H p = none → Q (.ref p) (upd H p (.lst ((upI ns).map V.int)))
theorem cr_sortZ (hu : X.A.units + 64 < cLine) : CallR X (.builtin "sorted") (rSortZ X.K) := by
  intro pins s σ H vs us Q I r h
  obtain ⟨a, L, rfl, hs, q⟩ := h
  obtain ⟨its, rv, hl, hz⟩ := I.list hs
  rw [Vals.ref1 r]
  have e0 := each_to rv
  have hz' : L.length ≤ sizeLine := by simpa using hz
  refine PySem.W.sorted_data (bs := L) (enc := PyData.int) (R := fun u (n : Int) => RelV (V.int n) u) hl.isList e0 (each_with e0 fun u n hp hr => Dp.reads I _ _ _ (.int n) hr) ?_ ?_ hz' (fun p _ => ?_) fun out ho eo => ?_
  · exact AllAlike.of fun b b' => by simp [alike]
  · exact Sortable.others fun b => ⟨by simp, fun xs => by simp⟩
  · simp [PyData.depth]
    omega
  · obtain ⟨ep, he'⟩ := sortedAll_at s.heap its (List.toArray out)
    have ed : dataLe false (fun n : Int => PyData.int n) = fun a b => decide (a ≤ b) := dataLe_int fun n => n
    rw [ed] at eo
    have eb := each_back eo
    have hlen : ((upI L).map V.int).length ≤ sizeLine := by
      unfold upI
      rw [List.length_map, List.length_mergeSort]
      exact hz'
    exact ⟨.ref _, upd H (s.heap.objs.size + 1) (.lst ((upI L).map V.int)), I.laid (t' := s.toks) (fun _ _ => sortedAll_old) (Nat.le_succ _) ⟨hlen, out, ep, eb, by simpa using he'⟩, rfl, q _ (I.hok.fresh (Nat.le_succ _))⟩
end
end DL
set_option Elab.async false
set_option linter.all false
set_option maxRecDepth 100000
set_option maxHeartbeats 2000000
/-! trees: what stands in them, rows of names, who is alive -/
namespace DL
open PySem PySem.Spec PyProof.Rows L2 RZ
section
variable {X : Cx}
/-- one < two of numbers or of tuples of numbers -/
def rLtX (K : PySem.W.Frag) : R2 := fun x y H Q => (∃ i j, x = .int i ∧ y = .int j ∧ Q (.bl (decide (i < j))) H) ∨ ∃ a b ns ms, x = .ref a ∧ y = .ref b ∧ SqT K H a (ns.map V.int) ∧ SqT K H b (ms.map V.int) ∧ Q (.bl (HT.lexLt ns ms)) H
theorem op_ltX (K : PySem.W.Frag) (h : X.K = K) (hu : X.A.units + 64 < cLine) : OpR X (compareOp .Lt) (rLtX K) := by
  subst h
  intro pins s σ H x y v u Q I rx ry h
  rcases h with h | h
  · exact op_lt pins s σ H x y v u Q I rx ry h
  · exact op_ltT (by omega) pins s σ H x y v u Q I rx ry h
theorem cr_sortRK (K : PySem.W.Frag) (h : X.K = K) (hu : X.A.units + 64 < cLine) : CallR X (.builtin "sorted") (rSortR K) := by
  subst h
  exact cr_sortR hu
theorem cr_sortZK (K : PySem.W.Frag) (h : X.K = K) (hu : X.A.units + 64 < cLine) : CallR X (.builtin "sorted") (rSortZ K) := by
  subst h
  exact cr_sortZ hu
theorem cr_sortedRevK (K : PySem.W.Frag) (h : X.K = K) : CallRK X (.builtin "sorted") ["reverse"] (rSortedKw K true [.bl true]) := by
  subst h
  exact cr_sortedRev
end
/-- the order of tuples as Lean has it for lists -/
theorem lexLt_lt : ∀ ns ms : List Int, HT.lexLt ns ms = decide (ns < ms)
  | [], [] => by simp [HT.lexLt]
  | [], y :: q => by simp [HT.lexLt]
  | x :: r, [] => by simp [HT.lexLt]
  | x :: r, y :: q => by
    rw [HT.lexLt_cons]
    by_cases e : x = y
    · rw [if_pos e, lexLt_lt r q]
      simp [e, List.cons_lt_cons_iff]
    · rw [if_neg e]
      simp [e, List.cons_lt_cons_iff]
/-! numbers and rows that rise -/
def risB (ns : List Int) : Bool := ((ns.zip (ns.drop 1)).map fun p => decide (p.1 < p.2)).all id
def risR (rs : List (List Int)) : Bool := ((rs.zip (rs.drop 1)).map fun p => HT.lexLt p.1 p.2).all id
/-- the leaves that are born d -/
def newbornL (bs : List Int) (d : Int) : List Int := ((List.range bs.length).filter fun i => decide (bs.getD i 0 = d)).map fun (i : Nat) => (i : Int)
/-- who is gone when the groups of a row have met -/
def goneL (row : List (List Int)) : List Int := row.flatMap List.tail
def nextNames (bs : List Int) (d : Nat) (names : List Int) (row : List (List Int)) : List Int := upI ((names.filter fun x => !(goneL row).contains x) ++ newbornL bs ((d : Int) + 1))
def namesAt (bs : List Int) (T : List (List (List Int))) : Nat → List Int
  | 0 => newbornL bs 0
  | d + 1 => nextNames bs d (namesAt bs T d) (T.getD d [])
structure RowOk (names pat : List Int) (row : List (List Int)) : Prop where
  grp : ∀ g ∈ row, (∀ x ∈ g, x ∈ names) ∧ risB g = true
  siz : (row.map fun g => (g.length : Int)).Perm pat
  ris : risR row = true
  nod : row.flatten.Nodup
structure TreeOk (bs : List Int) (ds : List (List Int)) (T : List (List (List Int))) : Prop where
  len : T.length = ds.length
  row : ∀ (d : Nat) (p : List Int) (r : List (List Int)), ds[d]? = some p → T[d]? = some r → RowOk (namesAt bs T d) p r
/-- a tuple of tuples of tuples of numbers -/
def TupTTI (K : PySem.W.Frag) (H : Hp) (a : Addr) (T : List (List (List Int))) : Prop := ∃ qs : List Addr, SqT K H a (qs.map V.ref) ∧ qs.length = T.length ∧ ∀ (i : Nat) (q : Addr) (r : List (List Int)), qs[i]? = some q → T[i]? = some r → TupTI K H q r
theorem TupTTI.same {K : PySem.W.Frag} {H H' : Hp} {a : Addr} {T : List (List (List Int))} (h : TupTTI K H a T) (e : Same H H') : TupTTI K H' a T := by
  obtain ⟨qs, h1, h2, h3⟩ := h
  exact ⟨qs, Same.seqT e h1, h2, fun i q r a b => (h3 i q r a b).same e⟩
theorem givn_range {n : Nat} (k : Nat → Bool) : givn n k (fun i => V.int (i : Nat)) = (((List.range n).filter k).map fun (i : Nat) => (i : Int)).map V.int := by
  unfold givn
  rw [List.map_map]
  rfl
/-- two rows of sizes, none of them rising, that are one another's arrangement -/
theorem desc_perm : ∀ {a b : List Int}, a.Perm b → a.Pairwise (· ≥ ·) → b.Pairwise (· ≥ ·) → a = b
  | [], b, h, _, _ => (List.nil_perm.mp h).symm ▸ rfl
  | x :: r, [], h, _, _ => by
    have := h.length_eq
    simp at this
  | x :: r, y :: q, h, h1, h2 => by
    rw [List.pairwise_cons] at h1 h2
    have e : x = y := by
      have m1 : x ∈ y :: q := h.mem_iff.mp List.mem_cons_self
      have m2 : y ∈ x :: r := h.mem_iff.mpr List.mem_cons_self
      rcases List.mem_cons.mp m1 with e | m1
      · exact e
      · rcases List.mem_cons.mp m2 with e | m2
        · exact e.symm
        · have a1 := h2.1 x m1
          have a2 := h1.1 y m2
          omega
    subst e
    rw [desc_perm ((List.perm_cons x).mp h) h1.2 h2.2]
end DL
namespace DL
open PySem PySem.Spec PyProof.Rows L2 RZ
section
variable {X : Cx}
theorem op_inK (K : PySem.W.Frag) (h : X.K = K) : OpR X (compareOp .In) (rIn K false) := by
  subst h
  exact op_in_seq
theorem op_notInK (K : PySem.W.Frag) (h : X.K = K) : OpR X (compareOp .NotIn) (rIn K true) := by
  subst h
  exact op_notIn_seq
end
theorem all_flat (ns : List Int) : (ns.map V.int).all flatV = true := by
  rw [List.all_eq_true]
  intro x hx
  obtain ⟨z, _, rfl⟩ := List.mem_map.mp hx
  rfl
end DL
namespace DL
open PySem PySem.Spec PyProof.Rows L2 RZ
theorem in_ints (x : Int) : ∀ ns : List Int, inV (.int x) (ns.map V.int) = ns.contains x
  | [] => rfl
  | y :: r => by
    have ih := in_ints x r
    unfold inV at ih ⊢
    rw [List.map_cons, List.any_cons, ih, List.contains_cons]
    congr 1
    show (y == x) = (x == y)
    rw [Bool.eq_iff_iff]
    simp
    omega
end DL
set_option Elab.async false
set_option linter.all false
set_option maxRecDepth 100000
set_option maxHeartbeats 2000000
/-! comprehensions of two for: an invariant for the outer turns, one for the inner -/
namespace DL
open PySem PySem.Spec PyProof.Rows L2 RZ
/-- what an inner walk asks -/
def InStep (J1 : It) (g1 : TG) (tt1 : TT) (te : TE) (vs1 : List Nat) (D : Addr) (σ2 : L2.St) (H4 : Hp) (Nx : Hp → Prop) : Prop := ∃ W1 : Nat → Nat → Hp → Prop, (∃ m, W1 0 m H4) ∧ ∀ j k H, W1 j k H →
  (J1.stop j H ∧ Nx H) ∨ (J1.go j H ∧ ∃ Nx1 : Hp → Prop, (∀ H', Nx1 H' → ∃ k', k' < k ∧ W1 (j + 1) k' H') ∧ ∀ x H', J1.yld j H x H' → g1 x (wipe σ2 vs1) H' fun σ3 H5 => wipe σ3 vs1 = wipe σ2 vs1 ∧ tt1 σ3 H5 fun b H6 =>
    if b = true then te σ3 H6 fun y H7 => ∃ acc, H7 D = some (.lst acc) ∧ acc.length < sizeLine ∧ Nx1 (upd H7 D (.lst (acc ++ [y]))) else Nx1 H6)
section
variable {J J1 : It} {n n1 : Nat} {G G1 : Hp → Prop} {Y Y1 : Nat → Hp → V → Hp → Prop}
theorem in_it (w : Walk J1 n1 G1 Y1) {g1 : TG} {tt1 : TT} {te : TE} {vs1 : List Nat} {D : Addr} {σ2 : L2.St} {H4 : Hp} {Nx : Hp → Prop} (Pv : Nat → Hp → Prop) (h0 : Pv 0 H4) (hG : ∀ i H, i ≤ n1 → Pv i H → G1 H)
    (hs : ∀ i x H H', i < n1 → Pv i H → Y1 i H x H' → g1 x (wipe σ2 vs1) H' fun σ3 H5 => wipe σ3 vs1 = wipe σ2 vs1 ∧ tt1 σ3 H5 fun b H6 =>
      if b = true then te σ3 H6 fun y H7 => ∃ acc, H7 D = some (.lst acc) ∧ acc.length < sizeLine ∧ Pv (i + 1) (upd H7 D (.lst (acc ++ [y]))) else Pv (i + 1) H6) (hd : ∀ H, Pv n1 H → Nx H) : InStep J1 g1 tt1 te vs1 D σ2 H4 Nx := by
  refine ⟨fun i m H => m = n1 - i ∧ i ≤ n1 ∧ Pv i H, ⟨n1, by omega, by omega, h0⟩, ?_⟩
  rintro i m H ⟨rfl, hi, p⟩
  rcases Nat.lt_or_ge i n1 with hlt | hge
  · exact .inr ⟨w.goes i H hlt (hG i H hi p), Pv (i + 1), fun H' p' => ⟨n1 - (i + 1), by omega, rfl, hlt, p'⟩, fun x H' y => hs i x H H' hlt p (w.yields i H x H' hlt (hG i H hi p) y)⟩
  · obtain rfl : i = n1 := by omega
    exact .inl ⟨w.stops H (hG i H hi p), hd H p⟩
theorem lc2_it (w : Walk J n G Y) {g g1 : TG} {tt tt1 : TT} {wi1 : TI} {te : TE} {vs vs1 : List Nat} {σ : L2.St} {H1 : Hp} {D : Addr} {Qd : Hp → Prop} (Pv : Nat → Hp → Prop) (h0 : Pv 0 (upd H1 D (.lst []))) (hG : ∀ i H, i ≤ n → Pv i H → G H)
    (hs : ∀ i x H H', i < n → Pv i H → Y i H x H' → g x (wipe σ vs) H' fun σ2 H2 => wipe σ2 vs = wipe σ vs ∧ tt σ2 H2 fun b H3 =>
      if b = true then wi1 σ2 H3 fun J1 H4 => InStep J1 g1 tt1 te vs1 D σ2 H4 (Pv (i + 1)) else Pv (i + 1) H3) (hd : ∀ H, Pv n H → Qd H) :
    ∃ W : Nat → Nat → Hp → Prop, (∃ m, W 0 m (upd H1 D (.lst []))) ∧ ∀ i m H, W i m H →
      (J.stop i H ∧ Qd H) ∨ (J.go i H ∧ ∃ Nx : Hp → Prop, (∀ H', Nx H' → ∃ m', m' < m ∧ W (i + 1) m' H') ∧ ∀ x H', J.yld i H x H' → g x (wipe σ vs) H' fun σ2 H2 => wipe σ2 vs = wipe σ vs ∧ tt σ2 H2 fun b H3 =>
        if b = true then wi1 σ2 H3 fun J1 H4 => InStep J1 g1 tt1 te vs1 D σ2 H4 Nx else Nx H3) := by
  refine ⟨fun i m H => m = n - i ∧ i ≤ n ∧ Pv i H, ⟨n, by omega, by omega, h0⟩, ?_⟩
  rintro i m H ⟨rfl, hi, p⟩
  rcases Nat.lt_or_ge i n with hlt | hge
  · exact .inr ⟨w.goes i H hlt (hG i H hi p), Pv (i + 1), fun H' p' => ⟨n - (i + 1), by omega, rfl, hlt, p'⟩, fun x H' y => hs i x H H' hlt p (w.yields i H x H' hlt (hG i H hi p) y)⟩
  · obtain rfl : i = n := by omega
    exact .inl ⟨w.stops H (hG i H hi p), hd H p⟩
end
/-- the list at D so far -/
def Acc (H0 : Hp) (D : Addr) (L : List V) (H : Hp) : Prop := H0 D = none ∧ Same H0 H ∧ H D = some (.lst L)
theorem Acc.start {H0 : Hp} {D : Addr} (h : H0 D = none) : Acc H0 D [] (upd H0 D (.lst [])) := ⟨h, Same.new h, upd_same⟩
theorem Acc.put {H0 H H4 : Hp} {D : Addr} {L L' : List V} {y : V} (p : Acc H0 D L H) (e : Same H H4) (hz : L.length < 100000) (hL : L' = L ++ [y]) : ∃ acc, H4 D = some (.lst acc) ∧ acc.length < sizeLine ∧ Acc H0 D L' (upd H4 D (.lst (acc ++ [y]))) := by
  obtain ⟨p1, p2, p3⟩ := p
  refine ⟨L, e _ _ p3, Nat.lt_of_lt_of_le hz (by decide), p1, Same.mut (p2.trans e) p1, ?_⟩
  rw [hL]
  exact upd_same
theorem take_flat {α : Type} {rs : List (List α)} {i : Nat} {r : List α} (h : rs[i]? = some r) : (rs.take (i + 1)).flatten = (rs.take i).flatten ++ r := by
  rw [List.take_add_one, h]
  simp
theorem take_flatMap {α β : Type} {f : α → List β} {rs : List α} {i : Nat} {r : α} (h : rs[i]? = some r) : (rs.take (i + 1)).flatMap f = (rs.take i).flatMap f ++ f r := by
  rw [List.take_add_one, h]
  simp
end DL
namespace DL
open PySem PySem.Spec PyProof.Rows L2 RZ
section
variable {X : Cx} {e tg : Expr} {t : TE}
theorem pi_tupK (K : PySem.W.Frag) (h : X.K = K) (he : PE X e t) : PI X tg e (iTup K t) := by
  subst h
  exact pi_tup he
end
end DL
namespace DL
theorem flat_take_le {α : Type} (rs : List (List α)) (k : Nat) : ((rs.take k).flatten).length ≤ rs.flatten.length := by
  have h := congrArg List.length (congrArg List.flatten (List.take_append_drop k rs))
  rw [List.flatten_append, List.length_append] at h
  omega
end DL
namespace DL
open PySem PySem.Spec PyProof.Rows L2 RZ
section
variable {X : Cx}
theorem sl_tupSK (K : PySem.W.Frag) (h : X.K = K) : SlR X (DL.rSlS K) := by
  subst h
  exact DL.sl_tupS
end
end DL
set_option Elab.async false
set_option linter.all false
set_option maxRecDepth 100000
set_option maxHeartbeats 2000000
/-! right trees: how much stands in a row -/
namespace DL
open PySem PySem.Spec PyProof.Rows L2 RZ
theorem desc_of : ∀ {ns : List Int}, (∀ p ∈ ns.zip (ns.drop 1), p.2 ≤ p.1) → ns.Pairwise (· ≥ ·)
  | [], _ => .nil
  | [x], _ => by simp
  | x :: y :: r, h => by
    have ih := desc_of (ns := y :: r) fun p hp => h p (by
      simp only [List.drop_succ_cons, List.drop_zero, List.zip_cons_cons] at hp ⊢
      exact List.mem_cons_of_mem _ hp)
    have h1 : y ≤ x := h (x, y) (by simp)
    rw [List.pairwise_cons] at ih ⊢
    refine ⟨fun z hz => ?_, List.pairwise_cons.mpr ih⟩
    rcases List.mem_cons.mp hz with rfl | hz
    · exact h1
    · have := ih.1 z hz
      omega
theorem patB_desc {ns : List Int} (h : patB ns = true) : ns.Pairwise (· ≥ ·) := desc_of ((patB_iff ns).mp h).2
theorem flat_sum : ∀ row : List (List Int), (row.flatten.length : Int) = (row.map fun g => (g.length : Int)).sum
  | [] => rfl
  | g :: r => by
    have ih := flat_sum r
    simp only [List.flatten_cons, List.length_append, List.map_cons, List.sum_cons] at ih ⊢
    omega
theorem sum_perm {a b : List Int} (h : a.Perm b) : a.sum = b.sum := by
  induction h with
  | nil => rfl
  | cons x _ ih => simp [ih]
  | swap x y l =>
    simp
    omega
  | trans _ _ i1 i2 => exact i1.trans i2
theorem new_le (bs : List Int) (d : Int) : (newbornL bs d).length ≤ bs.length := by
  unfold newbornL
  rw [List.length_map]
  have h := List.length_filter_le (fun i => decide (bs.getD i 0 = d)) (List.range bs.length)
  rw [List.length_range] at h
  exact h
theorem names_le (bs : List Int) (T : List (List (List Int))) : ∀ d : Nat, (namesAt bs T d).length ≤ bs.length * (d + 1)
  | 0 => by
    have := new_le bs 0
    simp only [namesAt]
    omega
  | d + 1 => by
    have ih := names_le bs T d
    have h1 := new_le bs ((d : Int) + 1)
    have h2 := List.length_filter_le (fun x => !(goneL (T.getD d [])).contains x) (namesAt bs T d)
    simp only [namesAt, nextNames, upI, List.length_mergeSort, List.length_append]
    have h3 : bs.length * (d + 1 + 1) = bs.length * (d + 1) + bs.length := Nat.mul_succ _ _
    omega
theorem CalOk.pre {bs : List Int} {ds : List (List Int)} (h : CalOk bs ds) : Pre bs ds := ⟨h.pat, h.fit⟩
theorem row_bd {bs : List Int} {ds : List (List Int)} (ok : CalOk bs ds) {d : Nat} {p names : List Int} {r : List (List Int)} (hp : ds[d]? = some p) (h : RowOk names p r) : r.flatten.length ≤ 12 ∧ r.length ≤ 6 := by
  have h1 := flat_sum r
  rw [sum_perm h.siz] at h1
  have h2 := ok.fit d p hp
  have h3 := alive_le ok.pre d
  have h4 := ok.n12
  have h5 := len_le_sum (patB_ge (ok.pat p (List.mem_of_getElem? hp)).1)
  have h6 := h.siz.length_eq
  rw [List.length_map] at h6
  constructor <;> omega
end DL
namespace DL
open PySem PySem.Spec PyProof.Rows L2 RZ
/-- lines, ascending -/
def upR (L : List (List Int)) : List (List Int) := L.mergeSort lstLe
def withNew (bs : List Int) (d : Int) (L : List (List Int)) : List (List Int) := upR (L ++ (newbornL bs d).map fun x => [x])
theorem upR_rows (L : List (Addr × List Int)) : (L.mergeSort rowLe).map Prod.snd = upR (L.map Prod.snd) := by
  unfold upR
  exact List.map_mergeSort fun a _ b _ => rfl
end DL
namespace DL
open PySem PySem.Spec PyProof.Rows L2 RZ
theorem zip_rows {H : Hp} {qs : List Addr} {L : List (List Int)} (hl : qs.length = L.length) (h : ∀ (i : Nat) (q : Addr) (ns : List Int), qs[i]? = some q → L[i]? = some ns → TupD H q (ns.map V.int)) : ∀ p ∈ qs.zip L, TupD H p.1 (p.2.map V.int) := by
  intro p hp
  obtain ⟨j, hj1, hj2⟩ := List.getElem_of_mem hp
  have hj3 : (qs.zip L)[j]? = some p := by rw [← hj2]; exact List.getElem?_eq_getElem hj1
  rw [List.getElem?_zip_eq_some] at hj3
  exact h j p.1 p.2 hj3.1 hj3.2
theorem zip_fst {qs : List Addr} {L : List (List Int)} (hl : qs.length = L.length) : (qs.zip L).map (fun p => V.ref p.1) = qs.map V.ref := by
  have e : (qs.zip L).map Prod.fst = qs := List.map_fst_zip (by omega)
  conv => rhs; rw [← e]
  rw [List.map_map]
  rfl
/-- pairs, back as a tuple of rows -/
theorem rows_ti {H : Hp} {p : Addr} {M : List (Addr × List Int)} (ht : TupD H p (M.map fun z => V.ref z.1)) (h : ∀ z ∈ M, TupD H z.1 (z.2.map V.int)) : TupTD H p (M.map Prod.snd) := by
  refine ⟨M.map Prod.fst, ?_, by simp, fun i q ns h1 h2 => ?_⟩
  · rw [List.map_map]
    exact ht
  · rw [List.getElem?_map] at h1 h2
    cases e : M[i]? with
    | none =>
      rw [e] at h1
      cases h1
    | some z =>
      rw [e] at h1 h2
      cases h1
      cases h2
      exact h z (List.mem_of_getElem? e)
end DL
set_option Elab.async false
set_option linter.all false
set_option maxRecDepth 100000
set_option maxHeartbeats 2000000
/-! dicts from whole numbers to rows; what a row of groups makes of lines -/
namespace DL
open PySem PySem.Spec PyProof.Rows L2 RZ
abbrev AL := List (Int × List Int)
abbrev DM := List (Int × Addr × List Int)
def alOf (M : DM) : AL := M.map fun e => (e.1, e.2.2)
def kvsOf (M : DM) : List (L2.Key × V) := M.map fun e => (Sum.inl e.1, V.ref e.2.1)
def keysL (m : AL) : List Int := m.map Prod.fst
def look (m : AL) (k : Int) : List Int := ((m.find? fun e => decide (e.1 = k)).map Prod.snd).getD []
/-- lines fall together under the first name of the group -/
def stepG (m : AL) (g : List Int) : AL := (m.filter fun e => !g.contains e.1) ++ [(g.headD 0, upI (g.flatMap (look m)))]
def runRow (m : AL) (row : List (List Int)) : AL := row.foldl stepG m
def outL (m : AL) : List (List Int) := (upI (keysL m)).map (look m)
def startL (L : List (List Int)) : AL := L.map fun l => (l.headD 0, l)
def joinL (L row : List (List Int)) : List (List Int) := outL (runRow (startL L) row)
def DictL (H : Hp) (D : Addr) (M : DM) : Prop := H D = some (.dK (kvsOf M)) ∧ ∀ e ∈ M, TupD H e.2.1 (e.2.2.map V.int)
theorem keys_al (M : DM) : keysL (alOf M) = M.map Prod.fst := by
  unfold keysL alOf
  rw [List.map_map]
  rfl
theorem val_of : ∀ {M : DM} {e : Int × Addr × List Int}, (M.map Prod.fst).Nodup → e ∈ M → valV (kvsOf M) (Sum.inl e.1) = some (.ref e.2.1) ∧ look (alOf M) e.1 = e.2.2
  | [], _, _, h => nomatch h
  | x :: r, e, hn, h => by
    rw [List.map_cons, List.nodup_cons] at hn
    rcases List.mem_cons.mp h with rfl | h
    · constructor
      · exact valV_pos rfl
      · simp [look, alOf]
    · have hne : ¬ x.1 = e.1 := fun z => hn.1 (by rw [z]; exact List.mem_map_of_mem h)
      obtain ⟨i1, i2⟩ := val_of hn.2 h
      constructor
      · show valV ((Sum.inl x.1, V.ref x.2.1) :: kvsOf r) (Sum.inl e.1) = _
        rw [valV_neg (fun z => hne (Sum.inl.inj z))]
        exact i1
      · rw [← i2]
        simp [look, alOf, hne]
theorem drop_of (M : DM) (k : Int) : dropK (kvsOf M) (Sum.inl k) = kvsOf (M.filter fun e => decide (e.1 ≠ k)) := by
  unfold dropK kvsOf
  rw [List.filter_map]
  congr 1
  apply List.filter_congr
  intro x _
  simp
theorem put_of {M : DM} {k : Int} (a : Addr) (ns : List Int) (h : k ∉ M.map Prod.fst) : putK (kvsOf M) (Sum.inl k) (.ref a) = kvsOf (M ++ [(k, a, ns)]) := by
  unfold putK
  rw [if_neg]
  · simp [kvsOf]
  · intro z
    rw [List.any_eq_true] at z
    obtain ⟨x, hx, hk⟩ := z
    unfold kvsOf at hx
    obtain ⟨e, he, rfl⟩ := List.mem_map.mp hx
    have hk' : e.1 = k := by simpa using hk
    exact h (by rw [← hk']; exact List.mem_map_of_mem he)
theorem TK.dk {H : Hp} {l : Addr} {kvs : List (L2.Key × V)} {o : HO} (h : H l = some (.dK kvs)) : TK H (upd H l o) := fun b ys => ⟨fun e => by rw [upd_ne (ne_of e h (fun z => by cases z))]; exact e, fun u e => by rw [upd_ne (ne_of e h (fun z => by cases z))]; exact e⟩
theorem DictL.tk {H H' : Hp} {D : Addr} {M : DM} (h : DictL H D M) (t : TK H H') (e : H' D = H D) : DictL H' D M := ⟨e.trans h.1, fun x hx => (h.2 x hx).tk t⟩
theorem DictL.same {H H' : Hp} {D : Addr} {M : DM} (h : DictL H D M) (s : Same H H') : DictL H' D M := ⟨s _ _ h.1, fun x hx => (h.2 x hx).same s⟩
theorem DictL.drop {H : Hp} {D : Addr} {M : DM} (h : DictL H D M) (k : Int) : DictL (upd H D (.dK (dropK (kvsOf M) (Sum.inl k)))) D (M.filter fun e => decide (e.1 ≠ k)) :=
  ⟨by rw [upd_same, drop_of], fun x hx => (h.2 x (List.mem_filter.mp hx).1).tk (TK.dk h.1)⟩
theorem DictL.put {H : Hp} {D a : Addr} {M : DM} {k : Int} {ns : List Int} (h : DictL H D M) (hk : k ∉ M.map Prod.fst) (ha : TupD H a (ns.map V.int)) : DictL (upd H D (.dK (putK (kvsOf M) (Sum.inl k) (.ref a)))) D (M ++ [(k, a, ns)]) := by
  refine ⟨by rw [upd_same, put_of a ns hk], fun x hx => TupD.tk ?_ (TK.dk h.1)⟩
  rcases List.mem_append.mp hx with z | z
  · exact h.2 x z
  · rw [List.mem_singleton.mp z]
    exact ha
/-- numbers, ascending, that are one another's arrangement -/
theorem asc_perm : ∀ {a b : List Int}, a.Perm b → a.Pairwise (· ≤ ·) → b.Pairwise (· ≤ ·) → a = b
  | [], b, h, _, _ => (List.nil_perm.mp h).symm ▸ rfl
  | x :: r, [], h, _, _ => by
    have := h.length_eq
    simp at this
  | x :: r, y :: q, h, h1, h2 => by
    rw [List.pairwise_cons] at h1 h2
    have e : x = y := by
      have m1 : x ∈ y :: q := h.mem_iff.mp List.mem_cons_self
      have m2 : y ∈ x :: r := h.mem_iff.mpr List.mem_cons_self
      rcases List.mem_cons.mp m1 with e | m1
      · exact e
      · rcases List.mem_cons.mp m2 with e | m2
        · exact e.symm
        · have a1 := h2.1 x m1
          have a2 := h1.1 y m2
          omega
    subst e
    rw [asc_perm ((List.perm_cons x).mp h) h1.2 h2.2]
theorem upI_perm (ns : List Int) : (upI ns).Perm ns := List.mergeSort_perm _ _
theorem upI_asc (ns : List Int) : (upI ns).Pairwise (· ≤ ·) := by
  have h := List.pairwise_mergeSort (le := fun a b : Int => decide (a ≤ b)) (fun a b c h1 h2 => by simp at h1 h2 ⊢; omega) (fun a b => by simp; omega) ns
  unfold upI
  exact h.imp fun h => by simpa using h
theorem upI_of {a b : List Int} (h : a.Perm b) (hs : a.Pairwise (· ≤ ·)) : a = upI b := asc_perm (h.trans (upI_perm b).symm) hs (upI_asc b)
/-! what is left of the names -/
theorem step_keys (m : AL) (g : List Int) : keysL (stepG m g) = ((keysL m).filter fun k => !g.contains k) ++ [g.headD 0] := by
  unfold keysL stepG
  rw [List.map_append, List.filter_map]
  rfl
structure RowFit (keys : List Int) (row : List (List Int)) : Prop where
  grp : ∀ g ∈ row, g ≠ [] ∧ ∀ x ∈ g, x ∈ keys
  nod : row.flatten.Nodup
theorem run_take {m : AL} {row : List (List Int)} {i : Nat} {g : List Int} (h : row[i]? = some g) : runRow m (row.take (i + 1)) = stepG (runRow m (row.take i)) g := by
  unfold runRow
  rw [List.take_add_one, h, List.foldl_append]
  rfl
theorem head_mem {g : List Int} (h : g ≠ []) : g.headD 0 ∈ g := by
  cases g with
  | nil => exact absurd rfl h
  | cons x r => simp
theorem step_nodup {m : AL} {g : List Int} (hn : (keysL m).Nodup) (hg : g ≠ []) : (keysL (stepG m g)).Nodup := by
  rw [step_keys, List.nodup_append]
  refine ⟨hn.filter _, by simp, fun x hx y hy => ?_⟩
  rw [List.mem_singleton.mp hy]
  have hx2 := (List.mem_filter.mp hx).2
  intro e
  rw [e] at hx2
  have hc : g.contains (g.headD 0) = true := List.elem_eq_true_of_mem (head_mem hg)
  rw [hc] at hx2
  cases hx2
/-- ahead of group i all its names are there -/
theorem run_keys {m : AL} {row : List (List Int)} (hn : (keysL m).Nodup) (f : RowFit (keysL m) row) : ∀ i : Nat, i ≤ row.length → (keysL (runRow m (row.take i))).Nodup ∧ ∀ x ∈ keysL m, x ∉ (row.take i).flatten → x ∈ keysL (runRow m (row.take i))
  | 0, _ => ⟨hn, fun x hx _ => hx⟩
  | i + 1, hi => by
    obtain ⟨i1, i2⟩ := run_keys hn f i (by omega)
    have hr : row[i]? = some row[i] := by simp
    obtain ⟨g1, g2⟩ := f.grp row[i] (List.getElem_mem _)
    rw [run_take hr]
    refine ⟨step_nodup i1 g1, fun x hx hnx => ?_⟩
    rw [take_flat hr, List.mem_append, not_or] at hnx
    rw [step_keys]
    exact List.mem_append_left _ (List.mem_filter.mpr ⟨i2 x hx hnx.1, by simpa using hnx.2⟩)
theorem fit_at {m : AL} {row : List (List Int)} (hn : (keysL m).Nodup) (f : RowFit (keysL m) row) {i : Nat} {g : List Int} (h : row[i]? = some g) : g.Nodup ∧ ∀ x ∈ g, x ∈ keysL (runRow m (row.take i)) := by
  have hi : i < row.length := (List.getElem?_eq_some_iff.mp h).1
  have hnod := f.nod
  have e : row.flatten = (row.take (i + 1)).flatten ++ (row.drop (i + 1)).flatten := by rw [← List.flatten_append, List.take_append_drop]
  rw [e, take_flat h] at hnod
  have h1 := (List.nodup_append.mp hnod).1
  obtain ⟨_, h2, h3⟩ := List.nodup_append.mp h1
  refine ⟨h2, fun x hx => (run_keys hn f i (by omega)).2 x ((f.grp g (List.mem_of_getElem? h)).2 x hx) fun z => h3 x z x hx rfl⟩
theorem run_len (m : AL) : ∀ row : List (List Int), (runRow m row).length ≤ m.length + row.length := by
  intro row
  induction row generalizing m with
  | nil => simp [runRow]
  | cons g r ih =>
    have h1 := ih (stepG m g)
    have h2 := List.length_filter_le (fun e : Int × List Int => !g.contains e.1) m
    have h3 : runRow m (g :: r) = runRow (stepG m g) r := rfl
    rw [h3]
    simp only [stepG, List.length_append, List.length_cons, List.length_nil] at h1 ⊢
    omega
end DL
set_option Elab.async false
set_option linter.all false
set_option maxRecDepth 100000
set_option maxHeartbeats 2000000
/-! the lines of a tree at its moments, as the program makes them -/
namespace DL
open PySem PySem.Spec PyProof.Rows L2 RZ
def linesM (bs : List Int) (T : List (List (List Int))) : Nat → List (List Int)
  | 0 => withNew bs 0 []
  | d + 1 => withNew bs ((d : Int) + 1) (joinL (linesM bs T d) (T.getD d []))
/-- a row that can be laid upon these lines -/
structure JoinOk (L row : List (List Int)) : Prop where
  n : L.length ≤ 30
  m : row.length ≤ 20
  ne : ∀ l ∈ L, l ≠ [] ∧ l.length ≤ 100
  nod : (L.map fun l => l.headD 0).Nodup
  fit : RowFit (L.map fun l => l.headD 0) row
  fl : row.flatten.length ≤ 100
  bd : ∀ (i : Nat) (g : List Int), row[i]? = some g → (g.flatMap (look (runRow (startL L) (row.take i)))).length ≤ 1000
  out : ∀ l ∈ joinL L row, l ≠ []
  oz : (joinL L row).length ≤ 1000
theorem RaisesW.same {C : Addr} {v : V} {H H1 : Hp} {E : XK} (h : RaisesW C v H E) (s : Same H H1) : RaisesW C v H1 E := fun d H' s' hn hd => h d H' (s.trans s') (same_back s hn) hd
end DL
set_option Elab.async false
set_option linter.all false
set_option maxRecDepth 100000
set_option maxHeartbeats 2000000
/-! lines: what stays true row by row -/
namespace DL
open PySem PySem.Spec PyProof.Rows L2 RZ
def valsL (m : AL) : List Int := m.flatMap Prod.snd
structure AInv (m : AL) : Prop where
  nod : (keysL m).Nodup
  line : ∀ e ∈ m, e.2 ≠ [] ∧ e.2.Pairwise (· < ·) ∧ e.2.headD 0 = e.1
  vals : (valsL m).Nodup
theorem look_of : ∀ {m : AL} {e : Int × List Int}, (keysL m).Nodup → e ∈ m → look m e.1 = e.2
  | [], _, _, h => nomatch h
  | x :: r, e, hn, h => by
    unfold keysL at hn
    rw [List.map_cons, List.nodup_cons] at hn
    rcases List.mem_cons.mp h with rfl | h
    · simp [look]
    · have hne : ¬ x.1 = e.1 := fun z => hn.1 (by rw [z]; exact List.mem_map_of_mem h)
      have ih := look_of (m := r) hn.2 h
      rw [← ih]
      simp [look, hne]
theorem keys_perm {m m' : AL} (h : m.Perm m') : (keysL m).Perm (keysL m') := h.map _
theorem look_perm {m m' : AL} (h : m.Perm m') (hn : (keysL m).Nodup) (k : Int) : look m k = look m' k := by
  have hn' : (keysL m').Nodup := (keys_perm h).nodup_iff.mp hn
  by_cases hk : k ∈ keysL m
  · obtain ⟨e, he, rfl⟩ := List.mem_map.mp hk
    rw [look_of hn he, look_of hn' (h.mem_iff.mp he)]
  · have hk' : k ∉ keysL m' := fun z => hk ((keys_perm h).mem_iff.mpr z)
    have none_of : ∀ {m : AL}, k ∉ keysL m → look m k = [] := by
      intro m hm
      unfold look
      rw [List.find?_eq_none.mpr]
      · rfl
      · intro e he
        have : e.1 ≠ k := fun z => hm (by rw [← z]; exact List.mem_map_of_mem he)
        simpa using this
    rw [none_of hk, none_of hk']
theorem upI_congr {a b : List Int} (h : a.Perm b) : upI a = upI b := upI_of ((upI_perm a).trans h) (upI_asc a)
theorem outL_perm {m m' : AL} (h : m.Perm m') (hn : (keysL m).Nodup) : outL m = outL m' := by
  unfold outL
  rw [upI_congr (keys_perm h)]
  apply List.map_congr_left
  intro k _
  exact look_perm h hn k
theorem stepG_perm {m m' : AL} (h : m.Perm m') (hn : (keysL m).Nodup) (g : List Int) : (stepG m g).Perm (stepG m' g) := by
  unfold stepG
  have e : g.flatMap (look m) = g.flatMap (look m') := by
    congr 1
    funext k
    exact look_perm h hn k
  rw [e]
  exact (h.filter _).append (List.Perm.refl _)
/-- the entries of the group, as the group tells them -/
theorem grp_perm {m : AL} {g : List Int} (hn : (keysL m).Nodup) (gn : g.Nodup) (gk : ∀ x ∈ g, x ∈ keysL m) : (m.filter fun e => g.contains e.1).Perm (g.map fun k => (k, look m k)) := by
  have n1 : (m.filter fun e => g.contains e.1).Nodup := by
    have h0 : m.Nodup := List.Pairwise.of_map Prod.fst (fun a b h e => h (congrArg Prod.fst e)) hn
    exact List.Pairwise.filter _ h0
  have n2 : (g.map fun k => (k, look m k)).Nodup := by
    refine List.Pairwise.of_map (S := (· ≠ ·)) Prod.fst (fun a b h e => h (congrArg Prod.fst e)) ?_
    rw [List.map_map]
    have : (Prod.fst ∘ fun k => (k, look m k)) = (id : Int → Int) := rfl
    rw [this, List.map_id]
    exact gn
  rw [List.perm_ext_iff_of_nodup n1 n2]
  intro e
  rw [List.mem_filter, List.mem_map]
  constructor
  · rintro ⟨h1, h2⟩
    refine ⟨e.1, by simpa using h2, ?_⟩
    rw [look_of hn h1]
  · rintro ⟨k, hk, rfl⟩
    obtain ⟨e, he, rfl⟩ := List.mem_map.mp (gk k hk)
    refine ⟨?_, List.elem_eq_true_of_mem hk⟩
    rw [look_of hn he]
    exact he
theorem split_perm (m : AL) (g : List Int) : m.Perm ((m.filter fun e => !g.contains e.1) ++ (m.filter fun e => g.contains e.1)) := by
  have h := (List.filter_append_perm (fun e : Int × List Int => !g.contains e.1) m).symm
  simpa using h
/-- all leaves stand as before -/
theorem step_vals {m : AL} {g : List Int} (hn : (keysL m).Nodup) (gn : g.Nodup) (gk : ∀ x ∈ g, x ∈ keysL m) : (valsL (stepG m g)).Perm (valsL m) := by
  have h1 := (split_perm m g).flatMap_right Prod.snd
  have h2 := (grp_perm hn gn gk).flatMap_right Prod.snd
  have e : (g.map fun k => (k, look m k)).flatMap Prod.snd = g.flatMap (look m) := by
    rw [List.flatMap_map]
  rw [e] at h2
  unfold valsL stepG
  rw [List.flatMap_append]
  refine List.Perm.trans ?_ h1.symm
  rw [List.flatMap_append]
  refine List.Perm.append_left _ ?_
  rw [List.flatMap_cons, List.flatMap_nil, List.append_nil]
  exact (upI_perm _).trans h2.symm
end DL
namespace DL
open PySem PySem.Spec PyProof.Rows L2 RZ
theorem asc_of : ∀ {ns : List Int}, (∀ p ∈ ns.zip (ns.drop 1), p.1 < p.2) → ns.Pairwise (· < ·)
  | [], _ => .nil
  | [x], _ => by simp
  | x :: y :: r, h => by
    have ih := asc_of (ns := y :: r) fun p hp => h p (by
      simp only [List.drop_succ_cons, List.drop_zero, List.zip_cons_cons] at hp ⊢
      exact List.mem_cons_of_mem _ hp)
    have h1 : x < y := h (x, y) (by simp)
    rw [List.pairwise_cons] at ih ⊢
    refine ⟨fun z hz => ?_, List.pairwise_cons.mpr ih⟩
    rcases List.mem_cons.mp hz with rfl | hz
    · exact h1
    · have := ih.1 z hz
      omega
theorem risB_asc {ns : List Int} (h : risB ns = true) : ns.Pairwise (· < ·) := by
  unfold risB at h
  rw [List.all_eq_true] at h
  exact asc_of fun p hp => by simpa using h _ (List.mem_map_of_mem hp)
theorem head_le {ns : List Int} (h : ns.Pairwise (· < ·)) : ∀ y ∈ ns, ns.headD 0 ≤ y := by
  cases ns with
  | nil => exact fun y hy => nomatch hy
  | cons x r =>
    intro y hy
    rw [List.pairwise_cons] at h
    rcases List.mem_cons.mp hy with rfl | hy
    · simp
    · have := h.1 y hy
      simp
      omega
theorem asc_lt : ∀ {ns : List Int}, ns.Pairwise (· ≤ ·) → ns.Nodup → ns.Pairwise (· < ·)
  | [], _, _ => .nil
  | x :: r, h, n => by
    rw [List.pairwise_cons] at h ⊢
    rw [List.nodup_cons] at n
    refine ⟨fun y hy => ?_, asc_lt h.2 n.2⟩
    have h1 := h.1 y hy
    have h2 : x ≠ y := fun e => n.1 (by rw [e]; exact hy)
    omega
theorem look_mem {m : AL} (h : AInv m) {k : Int} (hk : k ∈ keysL m) : (k, look m k) ∈ m := by
  obtain ⟨e, he, rfl⟩ := List.mem_map.mp hk
  rw [look_of h.nod he]
  exact he
theorem grp_vals {m : AL} (h : AInv m) {g : List Int} (gn : g.Nodup) (gk : ∀ x ∈ g, x ∈ keysL m) : (g.flatMap (look m)).Nodup := by
  have h1 := step_vals h.nod gn gk
  have h2 := h1.nodup_iff.mpr h.vals
  unfold valsL stepG at h2
  rw [List.flatMap_append, List.flatMap_cons, List.flatMap_nil, List.append_nil] at h2
  exact (upI_perm _).nodup_iff.mp (List.nodup_append.mp h2).2.1
theorem AInv.step {m : AL} (h : AInv m) {g : List Int} (g0 : g ≠ []) (gr : g.Pairwise (· < ·)) (gk : ∀ x ∈ g, x ∈ keysL m) : AInv (stepG m g) := by
  have gn : g.Nodup := gr.imp fun h => by omega
  refine ⟨step_nodup h.nod g0, fun e he => ?_, (step_vals h.nod gn gk).nodup_iff.mpr h.vals⟩
  unfold stepG at he
  rcases List.mem_append.mp he with he | he
  · exact h.line e (List.mem_filter.mp he).1
  · rw [List.mem_singleton.mp he]
    have hd := head_mem g0
    have hx := look_mem h (gk _ hd)
    obtain ⟨x1, x2, x3⟩ := h.line _ hx
    have hxF : g.headD 0 ∈ g.flatMap (look m) := by
      rw [List.mem_flatMap]
      refine ⟨_, hd, ?_⟩
      have := head_mem x1
      rw [x3] at this
      exact this
    have hge : ∀ y ∈ g.flatMap (look m), g.headD 0 ≤ y := by
      intro y hy
      obtain ⟨k, hk, hy⟩ := List.mem_flatMap.mp hy
      obtain ⟨_, y2, y3⟩ := h.line _ (look_mem h (gk k hk))
      have h1 := head_le y2 y hy
      have h2 := head_le gr k hk
      have y3' : (look m k).headD 0 = k := y3
      omega
    have hasc : (upI (g.flatMap (look m))).Pairwise (· < ·) := asc_lt (upI_asc _) ((upI_perm _).nodup_iff.mpr (grp_vals h gn gk))
    have hne : upI (g.flatMap (look m)) ≠ [] := by
      intro e
      have := (upI_perm (g.flatMap (look m))).mem_iff.mpr hxF
      rw [e] at this
      cases this
    refine ⟨hne, hasc, ?_⟩
    have a1 := head_le hasc _ ((upI_perm (g.flatMap (look m))).mem_iff.mpr hxF)
    have a2 := hge _ ((upI_perm (g.flatMap (look m))).mem_iff.mp (head_mem hne))
    show (upI (g.flatMap (look m))).headD 0 = g.headD 0
    omega
theorem self_map {m : AL} (h : AInv m) : (keysL m).map (fun k => (k, look m k)) = m := by
  unfold keysL
  rw [List.map_map]
  conv => rhs; rw [← List.map_id m]
  apply List.map_congr_left
  intro e he
  show (e.1, look m e.1) = e
  rw [look_of h.nod he]
/-- the lines told and taken up again -/
theorem start_out {m : AL} (h : AInv m) : (startL (outL m)).Perm m := by
  have e : startL (outL m) = (upI (keysL m)).map fun k => (k, look m k) := by
    unfold startL outL
    rw [List.map_map]
    apply List.map_congr_left
    intro k hk
    have h3 := (h.line _ (look_mem h ((upI_perm _).mem_iff.mp hk))).2.2
    show ((look m k).headD 0, look m k) = (k, look m k)
    rw [show (look m k).headD 0 = k from h3]
  rw [e]
  have := (upI_perm (keysL m)).map fun k => (k, look m k)
  rw [self_map h] at this
  exact this
end DL
set_option Elab.async false
set_option linter.all false
set_option maxRecDepth 100000
set_option maxHeartbeats 2000000
/-! the lines of a right tree -/
namespace DL
open PySem PySem.Spec PyProof.Rows L2 RZ
theorem AInv.perm {m m' : AL} (h : AInv m) (p : m.Perm m') : AInv m' :=
  ⟨(keys_perm p).nodup_iff.mp h.nod, fun e he => h.line e (p.mem_iff.mpr he), (p.flatMap_right Prod.snd).nodup_iff.mp h.vals⟩
theorem keys_vals {m : AL} (h : AInv m) {k : Int} (hk : k ∈ keysL m) : k ∈ valsL m := by
  obtain ⟨e, he, rfl⟩ := List.mem_map.mp hk
  obtain ⟨h1, _, h3⟩ := h.line e he
  unfold valsL
  rw [List.mem_flatMap]
  refine ⟨e, he, ?_⟩
  have := head_mem h1
  rw [h3] at this
  exact this
def singles (nb : List Int) : AL := nb.map fun x => (x, [x])
theorem keys_singles (nb : List Int) : keysL (singles nb) = nb := by
  unfold keysL singles
  rw [List.map_map]
  exact List.map_id nb
theorem vals_singles (nb : List Int) : valsL (singles nb) = nb := by
  unfold valsL singles
  rw [List.flatMap_map]
  induction nb with
  | nil => rfl
  | cons x r ih => rw [List.flatMap_cons, ih]; rfl
theorem keys_app (m m' : AL) : keysL (m ++ m') = keysL m ++ keysL m' := List.map_append
theorem vals_app (m m' : AL) : valsL (m ++ m') = valsL m ++ valsL m' := List.flatMap_append
theorem AInv.add {m : AL} (h : AInv m) {nb : List Int} (hn : nb.Nodup) (hd : ∀ x ∈ nb, x ∉ valsL m) : AInv (m ++ singles nb) := by
  refine ⟨?_, fun e he => ?_, ?_⟩
  · rw [keys_app, keys_singles, List.nodup_append]
    exact ⟨h.nod, hn, fun x hx y hy e => hd y hy (by rw [← e]; exact keys_vals h hx)⟩
  · rcases List.mem_append.mp he with he | he
    · exact h.line e he
    · obtain ⟨x, hx, rfl⟩ := List.mem_map.mp he
      exact ⟨by simp, by simp, rfl⟩
  · rw [vals_app, vals_singles, List.nodup_append]
    exact ⟨h.vals, hn, fun x hx y hy e => hd y hy (by rw [← e]; exact hx)⟩
theorem AInv.nil : AInv [] := ⟨.nil, fun e h => (nomatch h), .nil⟩
section
variable {m : AL} {row : List (List Int)}
/-- row by row it stays so -/
theorem run_inv (h : AInv m) (f : RowFit (keysL m) row) (ha : ∀ g ∈ row, g.Pairwise (· < ·)) : ∀ i : Nat, i ≤ row.length → AInv (runRow m (row.take i)) ∧ (valsL (runRow m (row.take i))).Perm (valsL m)
  | 0, _ => ⟨h, List.Perm.refl _⟩
  | i + 1, hi => by
    obtain ⟨i1, i2⟩ := run_inv h f ha i (by omega)
    have hr : row[i]? = some row[i] := by simp
    obtain ⟨gn, gk⟩ := fit_at h.nod f hr
    rw [run_take hr]
    exact ⟨i1.step (f.grp _ (List.getElem_mem _)).1 (ha _ (List.getElem_mem _)) gk, (step_vals i1.nod gn gk).trans i2⟩
theorem gone_take {i : Nat} {g : List Int} (h : row[i]? = some g) : goneL (row.take (i + 1)) = goneL (row.take i) ++ g.tail := take_flatMap h
theorem gone_sub {x : Int} {rs : List (List Int)} (h : x ∈ goneL rs) : x ∈ rs.flatten := by
  obtain ⟨g, hg, hx⟩ := List.mem_flatMap.mp h
  exact List.mem_flatten.mpr ⟨g, hg, List.mem_of_mem_tail hx⟩
/-- who is left of the names -/
theorem run_names (hn : (keysL m).Nodup) (f : RowFit (keysL m) row) : ∀ i : Nat, i ≤ row.length → ∀ x, x ∈ keysL (runRow m (row.take i)) ↔ x ∈ keysL m ∧ x ∉ goneL (row.take i)
  | 0, _, x => by
    show x ∈ keysL m ↔ x ∈ keysL m ∧ x ∉ []
    simp
  | i + 1, hi, x => by
    have ih := run_names hn f i (by omega) x
    have hr : row[i]? = some row[i] := by simp
    obtain ⟨g0, g1⟩ := f.grp row[i] (List.getElem_mem _)
    have hnod := f.nod
    have e : row.flatten = (row.take (i + 1)).flatten ++ (row.drop (i + 1)).flatten := by rw [← List.flatten_append, List.take_append_drop]
    rw [e, take_flat hr] at hnod
    obtain ⟨_, h2, h3⟩ := List.nodup_append.mp (List.nodup_append.mp hnod).1
    rw [run_take hr, step_keys, gone_take hr]
    cases eg : row[i] with
    | nil => exact absurd eg g0
    | cons y t =>
      rw [eg] at h2 h3 g1
      rw [List.nodup_cons] at h2
      have hy : y ∉ goneL (row.take i) := fun z => h3 y (gone_sub z) y List.mem_cons_self rfl
      rw [List.mem_append, List.mem_filter, List.mem_append, ih]
      simp only [List.headD_cons, List.mem_singleton, List.tail_cons]
      constructor
      · rintro (⟨⟨a1, a2⟩, a3⟩ | rfl)
        · have a4 : x ∉ y :: t := by simpa using a3
          rw [List.mem_cons, not_or] at a4
          exact ⟨a1, fun z => z.elim a2 a4.2⟩
        · exact ⟨g1 _ List.mem_cons_self, fun z => z.elim hy h2.1⟩
      · rintro ⟨a1, a2⟩
        rw [not_or] at a2
        by_cases hxy : x = y
        · exact .inr hxy
        · refine .inl ⟨⟨a1, a2.1⟩, ?_⟩
          have : x ∉ y :: t := by
            rw [List.mem_cons, not_or]
            exact ⟨hxy, a2.2⟩
          simpa using this
end
theorem startL_perm {L L' : List (List Int)} (h : L.Perm L') : (startL L).Perm (startL L') := h.map _
theorem withNew_perm (bs : List Int) (d : Int) (L : List (List Int)) : (startL (withNew bs d L)).Perm (startL L ++ singles (newbornL bs d)) := by
  have h1 : (withNew bs d L).Perm (L ++ (newbornL bs d).map fun x => [x]) := List.mergeSort_perm _ _
  have h2 := startL_perm h1
  have e : startL (L ++ (newbornL bs d).map fun x => [x]) = startL L ++ singles (newbornL bs d) := by
    unfold startL singles
    rw [List.map_append, List.map_map]
    rfl
  rw [e] at h2
  exact h2
theorem newborn_mem {bs : List Int} {d x : Int} : x ∈ newbornL bs d ↔ 0 ≤ x ∧ x.toNat < bs.length ∧ bs.getD x.toNat 0 = d := by
  unfold newbornL
  rw [List.mem_map]
  constructor
  · rintro ⟨i, hi, rfl⟩
    rw [List.mem_filter, List.mem_range] at hi
    refine ⟨by omega, by simpa using hi.1, by simpa using hi.2⟩
  · rintro ⟨h0, h1, h2⟩
    refine ⟨x.toNat, List.mem_filter.mpr ⟨List.mem_range.mpr h1, by simpa using h2⟩, by omega⟩
theorem newborn_nodup (bs : List Int) (d : Int) : (newbornL bs d).Nodup := by
  unfold newbornL
  have h0 : ((List.range bs.length).filter fun i => decide (bs.getD i 0 = d)).Pairwise (· ≠ ·) := List.Pairwise.filter _ List.nodup_range
  refine List.Pairwise.map (R := fun a b : Nat => a ≠ b) _ (fun a b h e => ?_) h0
  have e' : (a : Int) = (b : Int) := e
  omega
end DL
namespace DL
open PySem PySem.Spec PyProof.Rows L2 RZ
/-- the lines at moment d: their names are the tree's names, their leaves are born by then -/
structure LInv (bs : List Int) (T : List (List (List Int))) (d : Nat) : Prop where
  inv : AInv (startL (linesM bs T d))
  nam : ∀ x, x ∈ keysL (startL (linesM bs T d)) ↔ x ∈ namesAt bs T d
  lea : ∀ x ∈ valsL (startL (linesM bs T d)), 0 ≤ x ∧ x.toNat < bs.length ∧ bs.getD x.toNat 0 ≤ (d : Int)
theorem next_mem (bs : List Int) (d : Nat) (names : List Int) (row : List (List Int)) (x : Int) : x ∈ nextNames bs d names row ↔ (x ∈ names ∧ x ∉ goneL row) ∨ x ∈ newbornL bs ((d : Int) + 1) := by
  unfold nextNames
  rw [(upI_perm _).mem_iff, List.mem_append, List.mem_filter]
  simp
theorem linv0 {bs : List Int} {T : List (List (List Int))} : LInv bs T 0 := by
  have p := withNew_perm bs 0 []
  have e0 : startL ([] : List (List Int)) = [] := rfl
  rw [e0, List.nil_append] at p
  have a : AInv (singles (newbornL bs 0)) := by
    have := AInv.nil.add (newborn_nodup bs 0) (fun x _ h => nomatch h)
    rw [List.nil_append] at this
    exact this
  refine ⟨a.perm p.symm, fun x => ?_, fun x hx => ?_⟩
  · show x ∈ keysL (startL (withNew bs 0 [])) ↔ x ∈ newbornL bs 0
    rw [(keys_perm p).mem_iff, keys_singles]
  · have hx2 := ((p.flatMap_right Prod.snd).mem_iff).mp hx
    have hx3 : x ∈ valsL (singles (newbornL bs 0)) := hx2
    rw [vals_singles, newborn_mem] at hx3
    exact ⟨hx3.1, hx3.2.1, by omega⟩
theorem row_fit {bs p : List Int} {T : List (List (List Int))} {d : Nat} {r : List (List Int)} (l : LInv bs T d) (h : RowOk (namesAt bs T d) p r) (hp : ∀ s ∈ p, 2 ≤ s) : RowFit (keysL (startL (linesM bs T d))) r := by
  refine ⟨fun g hg => ⟨?_, fun x hx => (l.nam x).mpr ((h.grp g hg).1 x hx)⟩, h.nod⟩
  intro e
  have h1 : ((g.length : Nat) : Int) ∈ r.map fun g => (g.length : Int) := List.mem_map_of_mem hg
  have h2 := hp _ (h.siz.mem_iff.mp h1)
  rw [e] at h2
  simp at h2
theorem linv_next {bs p : List Int} {T : List (List (List Int))} {d : Nat} {r : List (List Int)} (l : LInv bs T d) (hT : T[d]? = some r) (h : RowOk (namesAt bs T d) p r) (hp : ∀ s ∈ p, 2 ≤ s) : LInv bs T (d + 1) := by
  have fit := row_fit l h hp
  have asc : ∀ g ∈ r, g.Pairwise (· < ·) := fun g hg => risB_asc (h.grp g hg).2
  obtain ⟨ri, rv⟩ := run_inv l.inv fit asc r.length (Nat.le_refl _)
  have rn := run_names l.inv.nod fit r.length (Nat.le_refl _)
  rw [List.take_length] at ri rv rn
  have so := start_out ri
  have e1 : linesM bs T (d + 1) = withNew bs ((d : Int) + 1) (joinL (linesM bs T d) r) := by
    simp only [linesM]
    rw [getD_of hT]
  have e2 : namesAt bs T (d + 1) = nextNames bs d (namesAt bs T d) r := by
    simp only [namesAt]
    rw [getD_of hT]
  have p := withNew_perm bs ((d : Int) + 1) (joinL (linesM bs T d) r)
  have p2 : (startL (linesM bs T (d + 1))).Perm (runRow (startL (linesM bs T d)) r ++ singles (newbornL bs ((d : Int) + 1))) := by
    rw [e1]
    exact p.trans (so.append_right _)
  have lv : ∀ x ∈ valsL (runRow (startL (linesM bs T d)) r), 0 ≤ x ∧ x.toNat < bs.length ∧ bs.getD x.toNat 0 ≤ (d : Int) := fun x hx => l.lea x (rv.mem_iff.mp hx)
  have dis : ∀ x ∈ newbornL bs ((d : Int) + 1), x ∉ valsL (runRow (startL (linesM bs T d)) r) := by
    intro x hx hv
    have h1 := (newborn_mem.mp hx).2.2
    have h2 := (lv x hv).2.2
    omega
  refine ⟨(ri.add (newborn_nodup _ _) dis).perm p2.symm, fun x => ?_, fun x hx => ?_⟩
  · rw [(keys_perm p2).mem_iff, keys_app, keys_singles, List.mem_append, rn, e2, next_mem, l.nam]
  · have hx2 : x ∈ valsL (runRow (startL (linesM bs T d)) r ++ singles (newbornL bs ((d : Int) + 1))) := ((p2.flatMap_right Prod.snd).mem_iff).mp hx
    rw [vals_app, vals_singles, List.mem_append] at hx2
    rcases hx2 with h1 | h1
    · have := lv x h1
      exact ⟨this.1, this.2.1, by omega⟩
    · have := newborn_mem.mp h1
      exact ⟨this.1, this.2.1, by omega⟩
theorem linv {bs : List Int} {ds : List (List Int)} {T : List (List (List Int))} (ok : CalOk bs ds) (tr : TreeOk bs ds T) : ∀ d : Nat, d ≤ ds.length → LInv bs T d
  | 0, _ => linv0
  | d + 1, hd => by
    have hi : d < T.length := by have := tr.len; omega
    have hT : T[d]? = some T[d] := by simp
    have hds : ds[d]? = some ds[d] := by simp
    exact linv_next (linv ok tr d (by omega)) hT (tr.row d _ _ hds hT) (patB_ge (ok.pat _ (List.getElem_mem _)).1)
end DL
set_option Elab.async false
set_option linter.all false
set_option maxRecDepth 100000
set_option maxHeartbeats 2000000
/-! right trees: a row can be laid upon the lines ahead of it -/
namespace DL
open PySem PySem.Spec PyProof.Rows L2 RZ
theorem ints_len {n : Nat} {l : List Int} (h : l.Nodup) (hb : ∀ x ∈ l, 0 ≤ x ∧ x.toNat < n) : l.length ≤ n := by
  have h1 : (l.map Int.toNat).Nodup := by
    induction l with
    | nil => exact .nil
    | cons x r ih =>
      rw [List.nodup_cons] at h
      rw [List.map_cons, List.nodup_cons]
      refine ⟨fun z => ?_, ih h.2 fun y hy => hb y (List.mem_cons_of_mem _ hy)⟩
      obtain ⟨y, hy, e⟩ := List.mem_map.mp z
      have b1 := hb x List.mem_cons_self
      have b2 := hb y (List.mem_cons_of_mem _ hy)
      have : y = x := by omega
      exact h.1 (by rw [← this]; exact hy)
  have h2 := L2.nat_nodup_len (l.map Int.toNat) (List.range n) h1 fun x hx => by
    obtain ⟨y, hy, rfl⟩ := List.mem_map.mp hx
    exact List.mem_range.mpr (hb y hy).2
  simpa using h2
theorem len_vals : ∀ {m : AL}, (∀ e ∈ m, e.2 ≠ []) → m.length ≤ (valsL m).length
  | [], _ => Nat.le_refl _
  | e :: r, h => by
    have ih := len_vals (m := r) fun x hx => h x (List.mem_cons_of_mem _ hx)
    have h1 := List.length_pos_iff.mpr (h e List.mem_cons_self)
    unfold valsL at ih ⊢
    rw [List.flatMap_cons, List.length_append, List.length_cons]
    omega
theorem mem_vals_len {m : AL} {e : Int × List Int} (h : e ∈ m) : e.2.length ≤ (valsL m).length := by
  induction m with
  | nil => cases h
  | cons x r ih =>
    unfold valsL at ih ⊢
    rw [List.flatMap_cons, List.length_append]
    rcases List.mem_cons.mp h with rfl | h
    · omega
    · have := ih h
      omega
theorem startL_keys (L : List (List Int)) : keysL (startL L) = L.map fun l => l.headD 0 := by
  unfold keysL startL
  rw [List.map_map]
  rfl
theorem join_ok {bs : List Int} {ds : List (List Int)} {T : List (List (List Int))} (ok : CalOk bs ds) (tr : TreeOk bs ds T) (d : Nat) (hd : d < ds.length) : JoinOk (linesM bs T d) (T.getD d []) := by
  have hi : d < T.length := by have := tr.len; omega
  have hT : T[d]? = some T[d] := by simp
  have hds : ds[d]? = some ds[d] := by simp
  rw [getD_of hT]
  have l := linv ok tr d (by omega)
  have hok := tr.row d _ _ hds hT
  have hp := patB_ge (ok.pat _ (List.getElem_mem hd)).1
  have fit := row_fit l hok hp
  have asc : ∀ g ∈ T[d], g.Pairwise (· < ·) := fun g hg => risB_asc (hok.grp g hg).2
  obtain ⟨b1, b2⟩ := row_bd ok hds hok
  have n12 := ok.n12
  have hv : (valsL (startL (linesM bs T d))).length ≤ 12 := by
    have := ints_len l.inv.vals fun x hx => ⟨(l.lea x hx).1, (l.lea x hx).2.1⟩
    omega
  have hlen : (linesM bs T d).length ≤ 12 := by
    have h1 := len_vals (m := startL (linesM bs T d)) fun e he => (l.inv.line e he).1
    have h2 : (startL (linesM bs T d)).length = (linesM bs T d).length := List.length_map _
    omega
  have hne : ∀ x ∈ linesM bs T d, x ≠ [] ∧ x.length ≤ 100 := by
    intro x hx
    have he : (x.headD 0, x) ∈ startL (linesM bs T d) := List.mem_map_of_mem hx
    have h1 := (l.inv.line _ he).1
    have h2 := mem_vals_len he
    exact ⟨h1, by
      have h3 : x.length ≤ (valsL (startL (linesM bs T d))).length := h2
      omega⟩
  have hr := run_inv l.inv fit asc T[d].length (Nat.le_refl _)
  rw [List.take_length] at hr
  have hjl : (joinL (linesM bs T d) T[d]).length ≤ 100 := by
    have h1 := run_len (startL (linesM bs T d)) T[d]
    have h2 : (startL (linesM bs T d)).length = (linesM bs T d).length := List.length_map _
    have h3 : (joinL (linesM bs T d) T[d]).length = (runRow (startL (linesM bs T d)) T[d]).length := by
      unfold joinL outL upI keysL
      rw [List.length_map, List.length_mergeSort, List.length_map]
    omega
  refine ⟨by omega, by omega, hne, by rw [← startL_keys]; exact l.inv.nod, by rw [← startL_keys]; exact fit, by omega, fun i g hg => ?_, fun x hx => ?_, by omega⟩
  · have hi2 : i < T[d].length := (List.getElem?_eq_some_iff.mp hg).1
    obtain ⟨i1, i2⟩ := run_inv l.inv fit asc i (by omega)
    obtain ⟨gn, gk⟩ := fit_at l.inv.nod fit hg
    have h1 := ((step_vals i1.nod gn gk).trans i2).length_eq
    unfold valsL at h1 hv
    unfold stepG at h1
    rw [List.flatMap_append, List.flatMap_cons, List.flatMap_nil, List.append_nil, List.length_append, (upI_perm _).length_eq] at h1
    omega
  · unfold joinL outL at hx
    obtain ⟨k, hk, rfl⟩ := List.mem_map.mp hx
    exact (hr.1.line _ (look_mem hr.1 ((upI_perm _).mem_iff.mp hk))).1
end DL
set_option Elab.async false
set_option linter.all false
set_option maxRecDepth 100000
set_option maxHeartbeats 2000000
/-! all leaves first, then row by row: the same lines -/
namespace DL
open PySem PySem.Spec PyProof.Rows L2 RZ
def runRows (m : AL) (rows : List (List (List Int))) : AL := rows.foldl runRow m
/-- leaves born by d -/
def bornL (bs : List Int) (d : Int) : List Int := ((List.range bs.length).filter fun i => decide (bs.getD i 0 ≤ d)).map fun (i : Nat) => (i : Int)
def lateL (bs : List Int) (e d : Int) : List Int := ((List.range bs.length).filter fun i => decide (e < bs.getD i 0 ∧ bs.getD i 0 ≤ d)).map fun (i : Nat) => (i : Int)
def lawM (bs : List Int) (T : List (List (List Int))) (d : Nat) : List (List Int) := outL (runRows (singles (bornL bs d)) (T.take d))
theorem filt_perm {α : Type} (p q r : α → Bool) : ∀ l : List α, (∀ x ∈ l, p x = (q x || r x) ∧ (q x && r x) = false) → (l.filter p).Perm (l.filter q ++ l.filter r)
  | [], _ => List.Perm.refl _
  | x :: l, h => by
    have ih := filt_perm p q r l fun y hy => h y (List.mem_cons_of_mem _ hy)
    obtain ⟨h1, h2⟩ := h x List.mem_cons_self
    cases hq : q x with
    | true =>
      rw [hq] at h1 h2
      have hr : r x = false := by simpa using h2
      have hp : p x = true := by simpa using h1
      simp only [List.filter_cons, hp, hq, hr, if_true, List.cons_append]
      simpa using ih.cons x
    | false =>
      rw [hq] at h1
      cases hr : r x with
      | true =>
        have hp : p x = true := by rw [h1, hr]; rfl
        simp only [List.filter_cons, hp, hq, hr, if_true]
        have := (ih.cons x).trans List.perm_middle.symm
        simpa using this
      | false =>
        have hp : p x = false := by rw [h1, hr]; rfl
        simpa [List.filter_cons, hp, hq, hr] using ih
theorem born_split {bs : List Int} (hb : ∀ b ∈ bs, 0 ≤ b) (d : Int) (hd : 0 ≤ d) : (bornL bs d).Perm (newbornL bs 0 ++ lateL bs 0 d) := by
  unfold bornL newbornL lateL
  rw [← List.map_append]
  refine List.Perm.map _ (filt_perm _ _ _ _ fun i hi => ?_)
  have hi' := List.mem_range.mp hi
  have hmem : bs.getD i 0 ∈ bs := by
    rw [List.getD_eq_getElem?_getD, List.getElem?_eq_getElem hi']
    exact List.getElem_mem _
  have h0 := hb _ hmem
  generalize bs.getD i 0 = x at h0
  constructor
  · rw [Bool.eq_iff_iff]
    simp
    omega
  · rw [Bool.eq_false_iff]
    simp
    omega
theorem late_split (bs : List Int) (e d : Int) (h : e + 1 ≤ d) : (lateL bs e d).Perm (newbornL bs (e + 1) ++ lateL bs (e + 1) d) := by
  unfold newbornL lateL
  rw [← List.map_append]
  refine List.Perm.map _ (filt_perm _ _ _ _ fun i hi => ?_)
  generalize bs.getD i 0 = x
  constructor
  · rw [Bool.eq_iff_iff]
    simp
    omega
  · rw [Bool.eq_false_iff]
    simp
    omega
theorem late_nil (bs : List Int) (d : Int) : lateL bs d d = [] := by
  unfold lateL
  rw [List.map_eq_nil_iff, List.filter_eq_nil_iff]
  intro i _
  simp
theorem late_mem {bs : List Int} {e d x : Int} (h : x ∈ lateL bs e d) : e < bs.getD x.toNat 0 := by
  unfold lateL at h
  obtain ⟨i, hi, rfl⟩ := List.mem_map.mp h
  have := (List.mem_filter.mp hi).2
  simp at this
  simpa using this.1
theorem singles_perm {a b : List Int} (h : a.Perm b) : (singles a).Perm (singles b) := h.map _
theorem singles_app (a b : List Int) : singles (a ++ b) = singles a ++ singles b := List.map_append
theorem look_app {m m' : AL} {k : Int} (hn : (keysL (m ++ m')).Nodup) (hk : k ∈ keysL m) (hm : (keysL m).Nodup) : look (m ++ m') k = look m k := by
  obtain ⟨e, he, rfl⟩ := List.mem_map.mp hk
  rw [look_of hn (List.mem_append_left _ he), look_of hm he]
theorem step_late {m t : AL} {g : List Int} (hn : (keysL (m ++ t)).Nodup) (gk : ∀ x ∈ g, x ∈ keysL m) (gt : ∀ x ∈ g, x ∉ keysL t) : (stepG (m ++ t) g).Perm (stepG m g ++ t) := by
  have hm : (keysL m).Nodup := by
    rw [keys_app] at hn
    exact (List.nodup_append.mp hn).1
  unfold stepG
  have e1 : t.filter (fun e => !g.contains e.1) = t := by
    rw [List.filter_eq_self]
    intro e he
    have : e.1 ∉ g := fun z => gt _ z (List.mem_map_of_mem he)
    simpa using this
  have e2 : g.flatMap (look (m ++ t)) = g.flatMap (look m) := by
    have : ∀ l : List Int, (∀ x ∈ l, x ∈ g) → l.flatMap (look (m ++ t)) = l.flatMap (look m) := by
      intro l
      induction l with
      | nil => intro _; rfl
      | cons x r ih =>
        intro h
        rw [List.flatMap_cons, List.flatMap_cons, ih fun y hy => h y (List.mem_cons_of_mem _ hy), look_app hn (gk x (h x List.mem_cons_self)) hm]
    exact this g fun x hx => hx
  rw [List.filter_append, e1, e2, List.append_assoc, List.append_assoc]
  exact List.Perm.append_left _ List.perm_append_comm
section
variable {m t : AL} {row : List (List Int)}
theorem run_late (hn : (keysL (m ++ t)).Nodup) (f : RowFit (keysL m) row) (ft : ∀ x ∈ row.flatten, x ∉ keysL t) : ∀ i : Nat, i ≤ row.length → (runRow (m ++ t) (row.take i)).Perm (runRow m (row.take i) ++ t) ∧ (keysL (runRow m (row.take i) ++ t)).Nodup
  | 0, _ => ⟨List.Perm.refl _, hn⟩
  | i + 1, hi => by
    obtain ⟨i1, i2⟩ := run_late hn f ft i (by omega)
    have hm : (keysL m).Nodup := by
      rw [keys_app] at hn
      exact (List.nodup_append.mp hn).1
    have hr : row[i]? = some row[i] := by simp
    obtain ⟨gn, gk⟩ := fit_at hm f hr
    have g0 := (f.grp _ (List.getElem_mem (show i < row.length by omega))).1
    have gt : ∀ x ∈ row[i], x ∉ keysL t := fun x hx => ft x (List.mem_flatten.mpr ⟨_, List.getElem_mem _, hx⟩)
    have n0 : (keysL (runRow (m ++ t) (row.take i))).Nodup := (keys_perm i1).nodup_iff.mpr i2
    have p1 := (stepG_perm i1 n0 row[i]).trans (step_late i2 gk gt)
    rw [run_take hr, run_take hr]
    exact ⟨p1, (keys_perm p1).nodup_iff.mp (step_nodup n0 g0)⟩
theorem run_perm {m' : AL} (p : m.Perm m') (hn : (keysL m).Nodup) (h0 : ∀ g ∈ row, g ≠ []) : (runRow m row).Perm (runRow m' row) := by
  induction row generalizing m m' with
  | nil => exact p
  | cons g r ih => exact ih (stepG_perm p hn g) (step_nodup hn (h0 g List.mem_cons_self)) fun x hx => h0 x (List.mem_cons_of_mem _ hx)
end
theorem outL_start {bs : List Int} {T : List (List (List Int))} {d : Nat} (l : LInv bs T d) (hs : (linesM bs T d).Pairwise fun a b => lstLe a b = true) : outL (startL (linesM bs T d)) = linesM bs T d := by
  have hk := startL_keys (linesM bs T d)
  have hne : ∀ x ∈ linesM bs T d, x ≠ [] := fun x hx => (l.inv.line (x.headD 0, x) (List.mem_map_of_mem hx)).1
  have hasc : ((linesM bs T d).map fun l => l.headD 0).Pairwise (· ≤ ·) := by
    rw [List.pairwise_map]
    refine hs.imp_of_mem fun {a b} ha hb hab => ?_
    have n1 := hne a ha
    have n2 := hne b hb
    cases a with
    | nil => exact absurd rfl n1
    | cons x r =>
      cases b with
      | nil => exact absurd rfl n2
      | cons y q =>
        have h1 : ¬ (y :: q) < (x :: r) := List.not_lt.mpr (by simpa [lstLe] using hab)
        rw [List.cons_lt_cons_iff, not_or] at h1
        simp
        omega
  have e : upI (keysL (startL (linesM bs T d))) = (linesM bs T d).map fun l => l.headD 0 := by
    rw [hk]
    exact (upI_of (List.Perm.refl _) hasc).symm
  unfold outL
  rw [e, List.map_map]
  conv => rhs; rw [← List.map_id (linesM bs T d)]
  apply List.map_congr_left
  intro x hx
  exact look_of l.inv.nod (e := (x.headD 0, x)) (List.mem_map_of_mem hx)
theorem linesM_sorted (bs : List Int) (T : List (List (List Int))) (d : Nat) : (linesM bs T d).Pairwise fun a b => lstLe a b = true := by
  have h : ∀ L : List (List Int), (upR L).Pairwise fun a b => lstLe a b = true := by
    intro L
    unfold upR
    refine List.pairwise_mergeSort (fun a b c h1 h2 => ?_) (fun a b => ?_) L
    · simp only [lstLe, decide_eq_true_eq] at h1 h2 ⊢
      exact List.le_trans h1 h2
    · simp only [lstLe, Bool.or_eq_true, decide_eq_true_eq]
      exact List.le_total a b
  cases d with
  | zero => exact h _
  | succ d => exact h _
theorem rows_eq {bs : List Int} {ds : List (List Int)} {T : List (List (List Int))} (ok : CalOk bs ds) (tr : TreeOk bs ds T) (d : Nat) (hd : d ≤ ds.length) : ∀ e : Nat, e ≤ d → (runRows (singles (bornL bs d)) (T.take e)).Perm (startL (linesM bs T e) ++ singles (lateL bs e d))
  | 0, _ => by
    show (singles (bornL bs d)).Perm (startL (withNew bs 0 []) ++ singles (lateL bs 0 d))
    have p := withNew_perm bs 0 []
    have p1 := singles_perm (born_split (fun b hb => (ok.born b hb).1) d (by omega))
    rw [singles_app] at p1
    exact p1.trans (p.symm.append_right _)
  | e + 1, he => by
    have ih := rows_eq ok tr d hd e (by omega)
    have hi : e < T.length := by have := tr.len; omega
    have hT : T[e]? = some T[e] := by simp
    have hds : ds[e]? = some ds[e] := by simp
    have l := linv ok tr e (by omega)
    have hok := tr.row e _ _ hds hT
    have hp := patB_ge (ok.pat _ (List.getElem_mem (show e < ds.length by omega))).1
    have fit := row_fit l hok hp
    have asc : ∀ g ∈ T[e], g.Pairwise (· < ·) := fun g hg => risB_asc (hok.grp g hg).2
    obtain ⟨ri, rv⟩ := run_inv l.inv fit asc T[e].length (Nat.le_refl _)
    rw [List.take_length] at ri rv
    have late_key : ∀ x ∈ lateL bs e d, x ∉ valsL (startL (linesM bs T e)) := fun x hx hv => by
      have h1 := late_mem hx
      have h2 := (l.lea x hv).2.2
      omega
    have late_nd : (lateL bs (e : Int) d).Nodup := by
      unfold lateL
      have h0 : ((List.range bs.length).filter fun i => decide ((e : Int) < bs.getD i 0 ∧ bs.getD i 0 ≤ (d : Int))).Pairwise (· ≠ ·) := List.Pairwise.filter _ List.nodup_range
      refine List.Pairwise.map (R := fun a b : Nat => a ≠ b) _ (fun a b h e => ?_) h0
      have e' : (a : Int) = (b : Int) := e
      omega
    have hn := (l.inv.add late_nd late_key).nod
    have ft : ∀ x ∈ T[e].flatten, x ∉ keysL (singles (lateL bs e d)) := by
      intro x hx
      rw [keys_singles]
      intro hl
      obtain ⟨g, hg, hxg⟩ := List.mem_flatten.mp hx
      exact late_key x hl (keys_vals l.inv ((fit.grp g hg).2 x hxg))
    have p1 := (run_late hn fit ft T[e].length (Nat.le_refl _)).1
    rw [List.take_length] at p1
    have e0 : runRows (singles (bornL bs d)) (T.take (e + 1)) = runRow (runRows (singles (bornL bs d)) (T.take e)) T[e] := by
      unfold runRows
      rw [List.take_add_one, hT, List.foldl_append]
      rfl
    have n1 : (keysL (runRows (singles (bornL bs d)) (T.take e))).Nodup := (keys_perm ih).nodup_iff.mpr hn
    have p2 := (run_perm ih n1 fun g hg => (fit.grp g hg).1).trans p1
    rw [e0]
    refine p2.trans ?_
    have p3 := singles_perm (late_split bs e d (by omega))
    rw [singles_app] at p3
    have p4 := withNew_perm bs ((e : Int) + 1) (joinL (linesM bs T e) T[e])
    have e1 : linesM bs T (e + 1) = withNew bs ((e : Int) + 1) (joinL (linesM bs T e) T[e]) := by
      simp only [linesM]
      rw [getD_of hT]
    rw [e1]
    refine ((start_out ri).symm.append p3).trans ?_
    rw [← List.append_assoc]
    exact p4.symm.append_right _
theorem law_lines {bs : List Int} {ds : List (List Int)} {T : List (List (List Int))} (ok : CalOk bs ds) (tr : TreeOk bs ds T) (d : Nat) (hd : d ≤ ds.length) : lawM bs T d = linesM bs T d := by
  have p := rows_eq ok tr d hd d (Nat.le_refl _)
  have l := linv ok tr d hd
  have e : singles (lateL bs (d : Int) d) = [] := by rw [late_nil]; rfl
  rw [e, List.append_nil] at p
  unfold lawM
  rw [outL_perm p ((keys_perm p).nodup_iff.mpr l.inv.nod)]
  exact outL_start l (linesM_sorted bs T d)
end DL
set_option Elab.async false
set_option linter.all false
set_option maxRecDepth 100000
set_option maxHeartbeats 2000000
/-! sorted(t) of a tuple of whole numbers -/
namespace DL
open PySem PySem.Spec PyProof.Rows L2 RZ PySem.W
theorem ints_each {vs : List Value} {ns : List Int} (h : IntsAre vs ns) : EachIs (fun v (n : Int) => ∃ t, v = Value.int n t) vs ns := by
  induction h with
  | nil => exact .nil
  | cons p t _ ih => exact .cons ⟨t, rfl⟩ ih
theorem each_ints : ∀ {vs : List Value} {ns : List Int}, EachIs (fun v (n : Int) => ∃ t, v = Value.int n t) vs ns → IntsAre vs ns
  | _, _, .nil => .nil
  | _, _, .cons ⟨t, e⟩ r => by
    subst e
    exact .cons _ t (each_ints r)
section
variable {prog : Program} {w : World} {A : Around} {E : Value → Shared → Prop} {s : Shared}
theorem sorted_tupI {t : Addr} {vs : List Value} {ns : List Int} {Q : Value → Shared → Prop} {o : Obj} {n : Nat} (ho : s.heap.get? t = some o) (hc : o.cls = .type "tuple") (hd : o.data = .seq vs.toArray n) (hz : vs.length ≤ sizeLine) (hi : IntsAre vs ns) (hu : A.units + 8 < cLine)
    (h : ∀ (h1 h' : Heap) (p : Addr) (out : List Value) (e : Nat), (∀ b x, s.heap.get? b = some x → h1.get? b = some x) → (∀ b x, h1.get? b = some x → h'.get? b = some x) → h1.objs.size ≤ p → h'.get? p = some (seqObj "list" out.toArray e) → IntsAre out (upI ns) → Q (.ref p) { s with heap := h' }) : wpAny (model prog w) A (call (.builtin "sorted") [.ref t]) Q E s := by
  refine Calls.call_function_entry kind_sorted plain_sorted entry_sorted (args_sorted1 _) ?_; unfold Builtin.«sorted»
  refine wpAny_bind (m := checkCount "sorted" 1 1 _) (wpAny_pure ?_); refine wpAny_bind (wpAny_collect_seq t (.inr rfl) ho hc hd (fun h1 k1 => ?_) (by simpa using hz))
  have ev : vs.toArray.toList = vs := by simp
  rw [ev]
  refine wpAny_bind (wpAny_newList ?_ (by simpa using hz))
  have e0 := ints_each hi
  have hlen := hi.length
  refine wpAny_bind (wpAny_holding (PySem.W.list_sort_data (n := 0) (bs := ns) (enc := PyData.int) (R := fun v (k : Int) => ∃ t, v = Value.int k t) (vs := vs) (Heap.get?_push_size _ rfl) e0 ?_ ?_ ?_ (by omega) (fun k _ => ?_) fun out ho eo => ?_))
  · exact each_with e0 fun u k _ hk => by
      obtain ⟨t, rfl⟩ := hk
      exact ⟨[], .int _ _, fun h => nomatch h⟩
  · exact AllAlike.of fun b b' => by simp [alike]
  · exact Sortable.others fun b => ⟨by simp, fun xs => by simp⟩
  · have e : A.in1.units = A.units + 1 := rfl
    have e1 : A.in1.in1.units = A.units + 2 := rfl
    simp only [PyData.depth]
    omega
  · obtain ⟨e, he⟩ := sortedHeap_at (out := List.toArray out) (show (h1.push { cls := .type "list", data := .seq vs.toArray }).get? h1.objs.size = some (seqObj "list" vs.toArray 0) from Heap.get?_push_size _ rfl)
    have ed : dataLe false (fun n : Int => PyData.int n) = fun a b => decide (a ≤ b) := dataLe_int fun n => n
    rw [ed] at eo
    refine wpAny_pure ⟨_, rfl, h h1 _ _ out e k1 (fun b x hb => ?_) (Nat.le_refl _) he (each_ints eo)⟩
    have hlt := Heap.lt_size hb
    rw [sortedHeap_old (Nat.ne_of_lt hlt) (by rw [size_push']; exact Nat.lt_succ_of_lt hlt)]
    exact Heap.get?_push_of_some _ hb
end
section
variable {X : Cx}
def rSortTI (K : PySem.W.Frag) : List V → Hp → VK → Prop := fun vs H Q => ∃ (a : Addr) (ns : List Int), vs = [V.ref a] ∧ SqT K H a (ns.map V.int) ∧ ∀ (p : Addr), H p = none → Q (.ref p) (upd H p (.lst ((upI ns).map V.int)))
theorem cr_sortTI (K : PySem.W.Frag) (h : X.K = K) (hu : X.A.units + 64 < cLine) : CallR X (.builtin "sorted") (rSortTI K) := by
  subst h
  intro pins s σ H vs us Q I r h
  obtain ⟨a, ns, rfl, hs, q⟩ := h
  obtain ⟨its, rv, ⟨o, ho, hc, n, hd⟩, hz⟩ := I.tuple hs
  rw [Vals.ref1 r]
  refine sorted_tupI ho hc hd (by rw [← rv.length]; exact hz) (rv.ints) (by omega) fun h1 h' p out e k1 k2 hp he hi => ?_
  have I1 := I.kept (t' := s.toks) k1
  have hlen : ((upI ns).map V.int).length ≤ sizeLine := by
    rw [List.length_map, (upI_perm ns).length_eq]
    simpa using hz
  have hv : Vals ((upI ns).map V.int) out := by
    have e1 := ints_each hi
    refine each_back (f := V.int) (each_with e1 fun u b _ hk => ?_)
    exact hk
  exact ⟨.ref p, upd H p (.lst ((upI ns).map V.int)), I1.laid (t' := s.toks) k2 hp ⟨hlen, out, e, hv, he⟩, rfl, q p (I1.hok.fresh hp)⟩
end
end DL
set_option Elab.async false
set_option linter.all false
set_option maxRecDepth 100000
set_option maxHeartbeats 2000000
/-! all leaves first: what each row finds -/
namespace DL
open PySem PySem.Spec PyProof.Rows L2 RZ
theorem run_vals {m : AL} {row : List (List Int)} (hn : (keysL m).Nodup) (f : RowFit (keysL m) row) : ∀ i : Nat, i ≤ row.length → (valsL (runRow m (row.take i))).Perm (valsL m)
  | 0, _ => List.Perm.refl _
  | i + 1, hi => by
    have ih := run_vals hn f i (by omega)
    have hr : row[i]? = some row[i] := by simp
    obtain ⟨gn, gk⟩ := fit_at hn f hr
    rw [run_take hr]
    exact (step_vals (run_keys hn f i (by omega)).1 gn gk).trans ih
structure RowsFit (m : AL) (row : List (List Int)) : Prop where
  nod : (keysL m).Nodup
  fit : RowFit (keysL m) row
  vals : (valsL m).length ≤ 24
  len : m.length ≤ 24
  n : row.length ≤ 6
theorem range_filt_le (n : Nat) (p : Nat → Bool) : (((List.range n).filter p).map fun (i : Nat) => (i : Int)).length ≤ n := by
  rw [List.length_map]
  have h := List.length_filter_le p (List.range n)
  rw [List.length_range] at h
  exact h
theorem rows_fit {bs : List Int} {ds : List (List Int)} {T : List (List (List Int))} (ok : CalOk bs ds) (tr : TreeOk bs ds T) (d : Nat) (hd : d ≤ ds.length) (e : Nat) (he : e < d) : RowsFit (runRows (singles (bornL bs d)) (T.take e)) (T.getD e []) := by
  have p := rows_eq ok tr d hd e (by omega)
  have hi : e < T.length := by have := tr.len; omega
  have hT : T[e]? = some T[e] := by simp
  have hds : ds[e]? = some ds[e] := by simp
  have l := linv ok tr e (by omega)
  have hok := tr.row e _ _ hds hT
  have hp := patB_ge (ok.pat _ (List.getElem_mem (show e < ds.length by omega))).1
  have fit := row_fit l hok hp
  have n12 := ok.n12
  obtain ⟨b1, b2⟩ := row_bd ok hds hok
  have late_key : ∀ x ∈ lateL bs e d, x ∉ valsL (startL (linesM bs T e)) := fun x hx hv => by
    have h1 := late_mem hx
    have h2 := (l.lea x hv).2.2
    omega
  have late_nd : (lateL bs (e : Int) d).Nodup := by
    unfold lateL
    have h0 : ((List.range bs.length).filter fun i => decide ((e : Int) < bs.getD i 0 ∧ bs.getD i 0 ≤ (d : Int))).Pairwise (· ≠ ·) := List.Pairwise.filter _ List.nodup_range
    refine List.Pairwise.map (R := fun a b : Nat => a ≠ b) _ (fun a b h e => ?_) h0
    have e' : (a : Int) = (b : Int) := e
    omega
  have a := l.inv.add late_nd late_key
  have hlate : (lateL bs (e : Int) d).length ≤ bs.length := range_filt_le _ _
  have hv : (valsL (startL (linesM bs T e))).length ≤ bs.length := ints_len l.inv.vals fun x hx => ⟨(l.lea x hx).1, (l.lea x hx).2.1⟩
  have hvl : (valsL (startL (linesM bs T e) ++ singles (lateL bs e d))).length ≤ 24 := by
    rw [vals_app, vals_singles, List.length_append]
    omega
  have hl := len_vals (m := startL (linesM bs T e) ++ singles (lateL bs e d)) fun x hx => (a.line x hx).1
  rw [getD_of hT]
  refine ⟨(keys_perm p).nodup_iff.mpr a.nod, ⟨fun g hg => ⟨(fit.grp g hg).1, fun x hx => (keys_perm p).mem_iff.mpr ?_⟩, fit.nod⟩, ?_, ?_, b2⟩
  · rw [keys_app]
    exact List.mem_append_left _ ((fit.grp g hg).2 x hx)
  · have e9 : (valsL (runRows (singles (bornL bs d)) (T.take e))).length = (valsL (startL (linesM bs T e) ++ singles (lateL bs e d))).length := (p.flatMap_right Prod.snd).length_eq
    omega
  · rw [p.length_eq]
    omega
theorem grp_short {m : AL} {row : List (List Int)} (f : RowsFit m row) {i : Nat} {g : List Int} (h : row[i]? = some g) : (g.flatMap (look (runRow m (row.take i)))).length ≤ 24 := by
  have hi : i < row.length := (List.getElem?_eq_some_iff.mp h).1
  obtain ⟨gn, gk⟩ := fit_at f.nod f.fit h
  have h1 := ((step_vals (run_keys f.nod f.fit i (by omega)).1 gn gk).trans (run_vals f.nod f.fit i (by omega))).length_eq
  have h2 := f.vals
  unfold valsL at h1 h2
  unfold stepG at h1
  rw [List.flatMap_append, List.flatMap_cons, List.flatMap_nil, List.append_nil, List.length_append, (upI_perm _).length_eq] at h1
  omega
end DL
set_option Elab.async false
set_option linter.all false
set_option maxRecDepth 100000
set_option maxHeartbeats 2000000
/-! trees that are drawn: who is alive, as the law reckons it -/
namespace DL
open PySem PySem.Spec PyProof.Rows L2 RZ
/-- all who are gone by moment d -/
def goneT (T : List (List (List Int))) (d : Nat) : List Int := (T.take d).flatMap goneL
def namesM (bs : List Int) (T : List (List (List Int))) (d : Nat) : List Int := ((List.range bs.length).filter fun i => decide (bs.getD i 0 ≤ (d : Int)) && !(goneT T d).contains (i : Int)).map fun (i : Nat) => (i : Int)
/-- rows that are right so far -/
def RowsOk (bs : List Int) (ds : List (List Int)) (T : List (List (List Int))) : Prop := ∀ (d : Nat) (p : List Int) (r : List (List Int)), ds[d]? = some p → T[d]? = some r → RowOk (namesAt bs T d) p r
theorem names_app (bs : List Int) (T : List (List (List Int))) (r : List (List Int)) : ∀ d : Nat, d ≤ T.length → namesAt bs (T ++ [r]) d = namesAt bs T d
  | 0, _ => rfl
  | d + 1, hd => by
    have ih := names_app bs T r d (by omega)
    simp only [namesAt]
    rw [ih, List.getD_eq_getElem?_getD, List.getD_eq_getElem?_getD, List.getElem?_append_left (by omega)]
theorem RowsOk.app {bs : List Int} {ds : List (List Int)} {T : List (List (List Int))} {p : List Int} {r : List (List Int)} (h : RowsOk bs ds T) (hp : ds[T.length]? = some p) (hr : RowOk (namesAt bs T T.length) p r) : RowsOk bs ds (T ++ [r]) := by
  intro d q s h1 h2
  by_cases hd : d < T.length
  · rw [List.getElem?_append_left hd] at h2
    rw [names_app bs T r d (by omega)]
    exact h d q s h1 h2
  · have e : d = T.length := by
      have := (List.getElem?_eq_some_iff.mp h2).1
      simp at this
      omega
    subst e
    rw [hp] at h1
    cases h1
    simp at h2
    subst h2
    rw [names_app bs T r _ (Nat.le_refl _)]
    exact hr
theorem gone_next {T : List (List (List Int))} {d : Nat} {r : List (List Int)} (h : T[d]? = some r) : goneT T (d + 1) = goneT T d ++ goneL r := take_flatMap h
theorem namesM_mem {bs : List Int} {T : List (List (List Int))} {d : Nat} {x : Int} : x ∈ namesM bs T d ↔ 0 ≤ x ∧ x.toNat < bs.length ∧ bs.getD x.toNat 0 ≤ (d : Int) ∧ x ∉ goneT T d := by
  unfold namesM
  rw [List.mem_map]
  constructor
  · rintro ⟨i, hi, rfl⟩
    rw [List.mem_filter, List.mem_range] at hi
    obtain ⟨h1, h2⟩ := hi
    rw [Bool.and_eq_true] at h2
    refine ⟨by omega, by simpa using h1, by simpa using h2.1, ?_⟩
    have := h2.2
    simpa using this
  · rintro ⟨h0, h1, h2, h3⟩
    refine ⟨x.toNat, List.mem_filter.mpr ⟨List.mem_range.mpr h1, ?_⟩, by omega⟩
    rw [Bool.and_eq_true]
    have e : ((x.toNat : Nat) : Int) = x := by omega
    rw [e]
    exact ⟨by simpa using h2, by simpa using h3⟩
section
variable {bs : List Int} {ds : List (List Int)} {T : List (List (List Int))}
/-- who has gone was a name, born by then -/
theorem names_mem (hb : ∀ b ∈ bs, 0 ≤ b) (h : RowsOk bs ds T) (hl : T.length ≤ ds.length) : ∀ d : Nat, d ≤ T.length → (∀ x, x ∈ namesAt bs T d ↔ x ∈ namesM bs T d) ∧ ∀ x ∈ goneT T d, bs.getD x.toNat 0 < (d : Int)
  | 0, _ => by
    refine ⟨fun x => ?_, fun x hx => by cases hx⟩
    show x ∈ newbornL bs 0 ↔ _
    rw [newborn_mem, namesM_mem]
    constructor
    · rintro ⟨h0, h1, h2⟩
      exact ⟨h0, h1, by omega, fun z => by cases z⟩
    · rintro ⟨h0, h1, h2, _⟩
      have hm : bs.getD x.toNat 0 ∈ bs := by
        rw [List.getD_eq_getElem?_getD, List.getElem?_eq_getElem h1]
        exact List.getElem_mem _
      have := hb _ hm
      exact ⟨h0, h1, by omega⟩
  | d + 1, hd => by
    obtain ⟨i1, i2⟩ := names_mem hb h hl d (by omega)
    have hT : T[d]? = some T[d] := by simp
    have hds : ds[d]? = some (ds[d]'(by omega)) := by simp
    have hok := h d _ _ hds hT
    have hg : ∀ x ∈ goneL T[d], x ∈ namesAt bs T d := by
      intro x hx
      obtain ⟨g, hg, hxg⟩ := List.mem_flatMap.mp hx
      exact (hok.grp g hg).1 x (List.mem_of_mem_tail hxg)
    have hgb : ∀ x ∈ goneT T (d + 1), bs.getD x.toNat 0 < ((d + 1 : Nat) : Int) := by
      intro x hx
      rw [gone_next hT, List.mem_append] at hx
      rcases hx with hx | hx
      · have := i2 x hx
        omega
      · have := (namesM_mem.mp ((i1 x).mp (hg x hx))).2.2.1
        omega
    refine ⟨fun x => ?_, hgb⟩
    have e2 : namesAt bs T (d + 1) = nextNames bs d (namesAt bs T d) T[d] := by
      simp only [namesAt]
      rw [getD_of hT]
    rw [e2, next_mem, i1, namesM_mem, namesM_mem, newborn_mem, gone_next hT, List.mem_append, not_or]
    constructor
    · rintro (⟨⟨a1, a2, a3, a4⟩, a5⟩ | ⟨a1, a2, a3⟩)
      · exact ⟨a1, a2, by omega, a4, a5⟩
      · refine ⟨a1, a2, by omega, fun z => ?_, fun z => ?_⟩
        · have := i2 x z
          omega
        · have := (namesM_mem.mp ((i1 x).mp (hg x z))).2.2.1
          omega
    · rintro ⟨a1, a2, a3, a4, a5⟩
      by_cases hx : bs.getD x.toNat 0 ≤ (d : Int)
      · exact .inl ⟨⟨a1, a2, hx, a4⟩, a5⟩
      · exact .inr ⟨a1, a2, by omega⟩
end
end DL
set_option Elab.async false
set_option linter.all false
set_option maxRecDepth 100000
set_option maxHeartbeats 2000000
/-! as many names as lines are alive -/
namespace DL
open PySem PySem.Spec PyProof.Rows L2 RZ
theorem new_count (bs : List Int) (d : Int) : (newbornL bs d).length = bs.count d := by
  unfold newbornL
  rw [List.length_map, List.count_eq_length_filter]
  have h := range_getD bs 0
  conv => rhs; rw [← h, List.filter_map, List.length_map]
  rfl
theorem filt_out {names g : List Int} (hn : names.Nodup) (gn : g.Nodup) (hs : ∀ x ∈ g, x ∈ names) : (names.filter fun x => !g.contains x).length + g.length = names.length := by
  have h1 := (List.filter_append_perm (fun x : Int => !g.contains x) names).length_eq
  rw [List.length_append] at h1
  have n1 : (names.filter fun x => !(!g.contains x)).Nodup := List.Pairwise.filter _ hn
  have h2 : (names.filter fun x => !(!g.contains x)).Perm g := by
    rw [List.perm_ext_iff_of_nodup n1 gn]
    intro x
    rw [List.mem_filter]
    constructor
    · rintro ⟨_, h⟩
      simpa using h
    · intro h
      exact ⟨hs x h, by simpa using h⟩
  rw [h2.length_eq] at h1
  exact h1
theorem gone_len : ∀ {r : List (List Int)}, (∀ g ∈ r, g ≠ []) → (goneL r).length + r.length = r.flatten.length
  | [], _ => rfl
  | g :: r, h => by
    have ih := gone_len (r := r) fun x hx => h x (List.mem_cons_of_mem _ hx)
    have h1 := List.length_pos_iff.mpr (h g List.mem_cons_self)
    unfold goneL at ih ⊢
    rw [List.flatMap_cons, List.length_append, List.flatten_cons, List.length_append, List.length_tail, List.length_cons]
    omega
theorem gone_nodup {r : List (List Int)} (h : r.flatten.Nodup) : (goneL r).Nodup := by
  induction r with
  | nil => exact .nil
  | cons g t ih =>
    rw [List.flatten_cons, List.nodup_append] at h
    unfold goneL at ih ⊢
    rw [List.flatMap_cons, List.nodup_append]
    refine ⟨h.1.sublist (List.tail_sublist g), ih h.2.1, fun x hx y hy => h.2.2 x (List.mem_of_mem_tail hx) y ?_⟩
    exact gone_sub (rs := t) hy
section
variable {bs : List Int} {ds : List (List Int)} {T : List (List (List Int))}
theorem names_count (ok : CalOk bs ds) (h : RowsOk bs ds T) (hl : T.length ≤ ds.length) : ∀ d : Nat, d ≤ T.length → (namesAt bs T d).Nodup ∧ ((namesAt bs T d).length : Int) = aliveAt bs ds d
  | 0, _ => by
    refine ⟨newborn_nodup bs 0, ?_⟩
    show ((newbornL bs 0).length : Int) = _
    rw [new_count, ← kAt_count]
    have h0 : bs.filter (fun b => decide (b < ((0 : Nat) : Int))) = [] := by
      rw [List.filter_eq_nil_iff]
      intro x hx
      have := (ok.born x hx).1
      simp
      omega
    unfold kAt bornB
    rw [h0]
    simp
  | d + 1, hd => by
    obtain ⟨i1, i2⟩ := names_count ok h hl d (by omega)
    obtain ⟨m1, _⟩ := names_mem (fun b hb => (ok.born b hb).1) h hl d (by omega)
    have hT : T[d]? = some T[d] := by simp
    have hds : ds[d]? = some (ds[d]'(by omega)) := by simp
    have hok := h d _ _ hds hT
    have hp := patB_ge (ok.pat _ (List.getElem_mem (show d < ds.length by omega))).1
    have hg : ∀ x ∈ goneL T[d], x ∈ namesAt bs T d := by
      intro x hx
      obtain ⟨g, hg, hxg⟩ := List.mem_flatMap.mp hx
      exact (hok.grp g hg).1 x (List.mem_of_mem_tail hxg)
    have hne : ∀ g ∈ T[d], g ≠ [] := by
      intro g hg e
      have h1 : ((g.length : Nat) : Int) ∈ T[d].map fun g => (g.length : Int) := List.mem_map_of_mem hg
      have h2 := hp _ (hok.siz.mem_iff.mp h1)
      rw [e] at h2
      simp at h2
    have e2 : namesAt bs T (d + 1) = nextNames bs d (namesAt bs T d) T[d] := by
      simp only [namesAt]
      rw [getD_of hT]
    have c1 := filt_out i1 (gone_nodup hok.nod) hg
    have c2 := gone_len hne
    have c3 := flat_sum T[d]
    rw [sum_perm hok.siz] at c3
    have c4 := hok.siz.length_eq
    rw [List.length_map] at c4
    have c5 := kAt_less (bs := bs) hds
    have c6 := kAt_count bs ds (d + 1)
    have c7 := new_count bs (((d + 1 : Nat)) : Int)
    rw [e2]
    unfold nextNames
    have e3 : ((d : Int) + 1) = ((d + 1 : Nat) : Int) := by omega
    rw [e3]
    constructor
    · rw [(upI_perm _).nodup_iff, List.nodup_append]
      refine ⟨List.Pairwise.filter _ i1, newborn_nodup _ _, fun x hx y hy e => ?_⟩
      have h1 := (namesM_mem.mp ((m1 x).mp (List.mem_filter.mp hx).1)).2.2.1
      have h2 := (newborn_mem.mp hy).2.2
      rw [← e] at h2
      omega
    · rw [(upI_perm _).length_eq, List.length_append, c7]
      unfold lessI at c5
      omega
end
end DL
set_option Elab.async false
set_option linter.all false
set_option maxRecDepth 100000
set_option maxHeartbeats 2000000
/-! list.pop(i) within a comprehension: K told -/
namespace DL
open PySem PySem.Spec PyProof.Rows L2 RZ
theorem seqIx {k n : Nat} (h : k < n) : seqIndex? ((k : Nat) : Int) n = some k := by
  unfold seqIndex?
  have e : (if ((k : Nat) : Int) < 0 then ((k : Nat) : Int) + (n : Nat) else ((k : Nat) : Int)) = ((k : Nat) : Int) := if_neg (by omega)
  simp only [e]
  simp
  omega
section
variable {X : Cx} {o e : Expr} {es : List Expr} {to : TE} {t : TA} {name : Str} {apos cpos : Pos} {T id : String} {r : V → List V → Hp → VK → Prop}
theorem pe_bmK (K : PySem.W.Frag) (hK : X.K = K) (pa : PlainAttrs T) (slot : Slot T name id) (hty : typeOf (.builtin id) = pure (.type "method_descriptor")) (hm : MtR X id r) (ho : PE X o to) (ha : PA X (e :: es) t) (hbase : attributeBase o name X.env (eval o X.env) = eval o X.env := by rfl)
    (hfew : ((backTo cpos (starEach (e :: es) X.env)).all (fun x => !x.1) && (backToKw cpos (keywordEach [] X.env)).all (fun x => x.1.isSome) && decide ((e :: es).length + ([] : List Keyword).length + (if ([] : List Keyword).isEmpty then 0 else 1) < 30)) = true := by rfl)
    (hline : (apos.endLine == cpos.line) = true := by rfl) (hs : starEach (e :: es) X.env = (false, eval e X.env) :: starEach es X.env := by rfl)
    (hplain : (backTo cpos (starEach es X.env)).any (·.1) = false := by rfl) : PE X (.Call (.Attribute o name apos) (e :: es) [] cpos) (tBM K T r to t) := by
  subst hK
  exact pe_bm pa slot hty hm ho ha hbase hfew hline hs hplain
end
end DL
set_option Elab.async false
set_option linter.all false
set_option maxRecDepth 100000
set_option maxHeartbeats 2000000
/-! a drawn row is a right one -/
namespace DL
open PySem PySem.Spec PyProof.Rows L2 RZ
theorem zip_adj {α : Type} {R : α → α → Prop} : ∀ {l : List α}, l.Pairwise R → ∀ p ∈ l.zip (l.drop 1), R p.1 p.2
  | [], _, p, h => by simp at h
  | [x], _, p, h => by simp at h
  | x :: y :: r, hl, p, h => by
    rw [List.pairwise_cons] at hl
    simp only [List.drop_succ_cons, List.drop_zero, List.zip_cons_cons, List.mem_cons] at h
    rcases h with rfl | h
    · exact hl.1 y List.mem_cons_self
    · refine zip_adj (l := y :: r) hl.2 p ?_
      simpa using h
theorem asc_risB {ns : List Int} (h : ns.Pairwise (· < ·)) : risB ns = true := by
  unfold risB
  rw [List.all_eq_true]
  intro x hx
  obtain ⟨p, hp, rfl⟩ := List.mem_map.mp hx
  exact decide_eq_true (zip_adj h p hp)
theorem rows_ris {rs : List (List Int)} (hn : rs.Nodup) : risR (upR rs) = true := by
  have hs : (upR rs).Pairwise fun a b => lstLe a b = true := by
    unfold upR
    refine List.pairwise_mergeSort (fun a b c h1 h2 => ?_) (fun a b => ?_) rs
    · simp only [lstLe, decide_eq_true_eq] at h1 h2 ⊢
      exact List.le_trans h1 h2
    · simp only [lstLe, Bool.or_eq_true, decide_eq_true_eq]
      exact List.le_total a b
  have hn2 : (upR rs).Pairwise (· ≠ ·) := (List.mergeSort_perm rs lstLe).nodup_iff.mpr hn
  have h3 : (upR rs).Pairwise fun a b => HT.lexLt a b = true := by
    refine (hs.and hn2).imp fun {a b} h => ?_
    obtain ⟨h1, h2⟩ := h
    rw [lexLt_lt]
    simp only [lstLe, decide_eq_true_eq] at h1 ⊢
    rcases List.le_iff_lt_or_eq.mp h1 with h | h
    · exact h
    · exact absurd h h2
  unfold risR
  rw [List.all_eq_true]
  intro x hx
  obtain ⟨p, hp, rfl⟩ := List.mem_map.mp hx
  exact zip_adj h3 p hp
theorem drawn_row {names p : List Int} {gs : List (List Int)} {left : List Int} (hn : names.Nodup) (hp : ((gs.flatten) ++ left).Perm names) (ha : ∀ g ∈ gs, g.Pairwise (· < ·)) (hs : gs.map (fun g => (g.length : Int)) = p) (h2 : ∀ s ∈ p, 2 ≤ s) : RowOk names p (upR gs) := by
  have pu : (upR gs).Perm gs := List.mergeSort_perm _ _
  have hfl : gs.flatten.Nodup := (List.nodup_append.mp (hp.nodup_iff.mpr hn)).1
  have hgn : gs.Nodup := by
    have hne : ∀ g ∈ gs, g ≠ [] := by
      intro g hg e
      have h1 : ((g.length : Nat) : Int) ∈ gs.map fun g => (g.length : Int) := List.mem_map_of_mem hg
      rw [hs] at h1
      have := h2 _ h1
      rw [e] at this
      simp at this
    clear hs hp ha pu
    induction gs with
    | nil => exact .nil
    | cons g r ih =>
      rw [List.flatten_cons, List.nodup_append] at hfl
      rw [List.nodup_cons]
      refine ⟨fun hm => ?_, ih hfl.2.1 fun x hx => hne x (List.mem_cons_of_mem _ hx)⟩
      cases e : g with
      | nil => exact hne g List.mem_cons_self e
      | cons x t =>
        have h1 : x ∈ g := by rw [e]; exact List.mem_cons_self
        exact hfl.2.2 x h1 x (List.mem_flatten.mpr ⟨g, hm, h1⟩) rfl
  refine ⟨fun g hg => ⟨fun x hx => ?_, asc_risB (ha g (pu.mem_iff.mp hg))⟩, ?_, rows_ris hgn, (pu.flatten).nodup_iff.mpr hfl⟩
  · exact hp.mem_iff.mp (List.mem_append_left _ (List.mem_flatten.mpr ⟨g, pu.mem_iff.mp hg, hx⟩))
  · rw [← hs]
    exact pu.map _
end DL
set_option Elab.async false
set_option linter.all false
set_option maxRecDepth 100000
set_option maxHeartbeats 2000000
/-! the law's drawing of a tree: names that are popped off -/
namespace DL
open PySem PySem.Spec PyProof.Rows L2 RZ
theorem namesM_nodup (bs : List Int) (T : List (List (List Int))) (d : Nat) : (namesM bs T d).Nodup := by
  unfold namesM
  have h0 : ((List.range bs.length).filter fun i => decide (bs.getD i 0 ≤ (d : Int)) && !(goneT T d).contains (i : Int)).Pairwise (· ≠ ·) := List.Pairwise.filter _ List.nodup_range
  refine List.Pairwise.map (R := fun a b : Nat => a ≠ b) _ (fun a b h e => ?_) h0
  have e' : (a : Int) = (b : Int) := e
  omega
section
variable {bs : List Int} {ds : List (List Int)} {T : List (List (List Int))}
theorem namesM_perm (ok : CalOk bs ds) (h : RowsOk bs ds T) (hl : T.length ≤ ds.length) (d : Nat) (hd : d ≤ T.length) : (namesM bs T d).Perm (namesAt bs T d) :=
  (List.perm_ext_iff_of_nodup (namesM_nodup bs T d) (names_count ok h hl d hd).1).mpr fun x => ((names_mem (fun b hb => (ok.born b hb).1) h hl d hd).1 x).symm
theorem gone_bd (ok : CalOk bs ds) (h : RowsOk bs ds T) (hl : T.length ≤ ds.length) : ∀ d : Nat, d ≤ T.length → (goneT T d).length ≤ 12 * d
  | 0, _ => Nat.zero_le _
  | d + 1, hd => by
    have ih := gone_bd ok h hl d (by omega)
    have hT : T[d]? = some T[d] := by simp
    have hds : ds[d]? = some (ds[d]'(by omega)) := by simp
    obtain ⟨b1, b2⟩ := row_bd ok hds (h d _ _ hds hT)
    have h1 : (goneL T[d]).length ≤ T[d].flatten.length := by
      generalize T[d] = r
      induction r with
      | nil => exact Nat.le_refl _
      | cons g t ih =>
        unfold goneL at ih ⊢
        rw [List.flatMap_cons, List.length_append, List.flatten_cons, List.length_append, List.length_tail]
        omega
    rw [gone_next hT, List.length_append]
    omega
end
/-- groups that were drawn off the names, and what is left -/
structure Drw (names p : List Int) (k : Nat) (gs : List (List Int)) (left : List Int) : Prop where
  per : (gs.flatten ++ left).Perm names
  asc : ∀ g ∈ gs, g.Pairwise (· < ·)
  siz : gs.map (fun g => (g.length : Int)) = p.take k
theorem Drw.room {names p : List Int} {k : Nat} {gs : List (List Int)} {left : List Int} (h : Drw names p k gs left) (hf : p.sum ≤ (names.length : Int)) (h2 : ∀ s ∈ p, 2 ≤ s) {s : Int} (hs : p[k]? = some s) : s ≤ (left.length : Int) := by
  have h1 := h.per.length_eq
  rw [List.length_append] at h1
  have h3 := flat_sum gs
  rw [h.siz] at h3
  have e : p = p.take k ++ s :: p.drop (k + 1) := by
    have hk := (List.getElem?_eq_some_iff.mp hs).1
    have e1 := List.drop_eq_getElem_cons hk
    have e2 : p[k] = s := (List.getElem?_eq_some_iff.mp hs).2
    rw [e2] at e1
    rw [← e1, List.take_append_drop]
  have h4 : p.sum = (p.take k).sum + (s + (p.drop (k + 1)).sum) := by
    conv => lhs; rw [e]
    rw [List.sum_append, List.sum_cons]
  have h5 : 0 ≤ (p.drop (k + 1)).sum := by
    have hz : ∀ l : List Int, (∀ x ∈ l, 2 ≤ x) → 0 ≤ l.sum := by
      intro l
      induction l with
      | nil => intro _; exact Int.le_refl _
      | cons y t ih =>
        intro hy
        rw [List.sum_cons]
        have := hy y List.mem_cons_self
        have := ih fun x hx => hy x (List.mem_cons_of_mem _ hx)
        omega
    exact hz _ fun x hx => h2 x (List.mem_of_mem_drop hx)
  omega
theorem pop_perm {G cur left names : List Int} {i : Nat} {v : Int} (h : (G ++ (cur ++ left)).Perm names) (hv : left[i]? = some v) : (G ++ ((cur ++ [v]) ++ left.eraseIdx i)).Perm names := by
  have hi := (List.getElem?_eq_some_iff.mp hv).1
  have e2 : left[i] = v := (List.getElem?_eq_some_iff.mp hv).2
  have p : (v :: left.eraseIdx i).Perm left := by
    rw [List.eraseIdx_eq_take_drop_succ]
    have e3 : left = left.take i ++ v :: left.drop (i + 1) := by
      have e4 := List.drop_eq_getElem_cons hi
      rw [e2] at e4
      rw [← e4, List.take_append_drop]
    conv => rhs; rw [e3]
    exact List.perm_middle.symm
  refine List.Perm.trans (List.Perm.append_left G ?_) h
  rw [List.append_assoc]
  exact List.Perm.append_left cur p
theorem Drw.close {names p : List Int} {k : Nat} {gs : List (List Int)} {cur left : List Int} {s : Int} (hn : names.Nodup) (h : gs.map (fun g => (g.length : Int)) = p.take k) (ha : ∀ g ∈ gs, g.Pairwise (· < ·)) (hs : p[k]? = some s) (hc : (cur.length : Int) = s) (hp : (gs.flatten ++ (cur ++ left)).Perm names) : Drw names p (k + 1) (gs ++ [upI cur]) left := by
  have hcn : cur.Nodup := by
    have h1 := hp.nodup_iff.mpr hn
    exact (List.nodup_append.mp (List.nodup_append.mp h1).2.1).1
  refine ⟨?_, fun g hg => ?_, ?_⟩
  · rw [List.flatten_append, List.append_assoc]
    refine List.Perm.trans (List.Perm.append_left _ ?_) hp
    simp only [List.flatten_cons, List.flatten_nil, List.append_nil]
    exact (upI_perm cur).append_right left
  · rcases List.mem_append.mp hg with h1 | h1
    · exact ha g h1
    · simp at h1
      subst h1
      exact asc_lt (upI_asc cur) ((upI_perm cur).nodup_iff.mpr hcn)
  · rw [List.map_append, h, List.take_add_one, hs]
    simp [(upI_perm cur).length_eq, hc]
theorem Drw.done {names p : List Int} {gs : List (List Int)} {left : List Int} (hn : names.Nodup) (h : Drw names p p.length gs left) (h2 : ∀ s ∈ p, 2 ≤ s) : RowOk names p (upR gs) :=
  drawn_row hn h.per h.asc (by rw [h.siz, List.take_length]) h2
end DL
set_option Elab.async false
set_option linter.all false
set_option maxRecDepth 100000
set_option maxHeartbeats 2000000
/-! a calendar that is drawn birth by birth -/
namespace DL
open PySem PySem.Spec PyProof.Rows L2 RZ
structure DrawnB (B : List Int) (ds : List (List Int)) : Prop where
  bd : ∀ b ∈ B, 0 ≤ b ∧ b ≤ (ds.length : Int)
  pat : ∀ p ∈ ds, patB p = true ∧ p ≠ [] ∧ p.length ≤ 1000
  fit : ∀ (i : Nat) (p : List Int), ds[i]? = some p → p.sum ≤ aliveAt B ds i
def aliveB (B : List Int) (ds : List (List Int)) : Int := (B.length : Int) - (ds.map lessI).sum
theorem DrawnB.nil : DrawnB [] [] := ⟨(fun b h => nomatch h), (fun p h => nomatch h), (fun i p h => nomatch h)⟩
theorem DrawnB.add {B : List Int} {ds : List (List Int)} (h : DrawnB B ds) (k : Nat) : DrawnB (B ++ List.replicate k (ds.length : Int)) ds := by
  refine ⟨fun b hb => ?_, h.pat, fun i p hp => ?_⟩
  · rcases List.mem_append.mp hb with h1 | h1
    · exact h.bd b h1
    · have := List.eq_of_mem_replicate h1
      omega
  · have h1 := h.fit i p hp
    unfold aliveAt at h1 ⊢
    rw [List.filter_append, List.length_append]
    omega
theorem DrawnB.push {B : List Int} {ds : List (List Int)} {p : List Int} (h : DrawnB B ds) (hp : patB p = true) (hn : p ≠ []) (hl : p.length ≤ 1000) (hs : p.sum ≤ aliveB B ds) : DrawnB B (ds ++ [p]) := by
  refine ⟨fun b hb => ?_, fun q hq => ?_, fun i q hq => ?_⟩
  · have := h.bd b hb
    rw [List.length_append]
    simp
    omega
  · rcases List.mem_append.mp hq with h1 | h1
    · exact h.pat q h1
    · simp at h1
      subst h1
      exact ⟨hp, hn, hl⟩
  · by_cases hi : i < ds.length
    · rw [List.getElem?_append_left hi] at hq
      have h1 := h.fit i q hq
      unfold aliveAt at h1 ⊢
      rw [List.take_append_of_le_length (by omega)]
      exact h1
    · have e : i = ds.length := by
        have := (List.getElem?_eq_some_iff.mp hq).1
        simp at this
        omega
      subst e
      simp at hq
      subst hq
      unfold aliveB at hs
      unfold aliveAt
      have e2 : B.filter (fun b => decide (b ≤ (ds.length : Int))) = B := List.filter_eq_self.mpr fun b hb => decide_eq_true (h.bd b hb).2
      rw [e2, List.take_append_of_le_length (Nat.le_refl _), List.take_length]
      exact hs
theorem aliveB_push (B : List Int) (ds : List (List Int)) (p : List Int) : aliveB B (ds ++ [p]) = aliveB B ds - p.sum + (p.length : Int) := by
  unfold aliveB lessI
  rw [List.map_append, List.sum_append]
  simp
  omega
theorem aliveB_add (B : List Int) (ds : List (List Int)) (k : Nat) (x : Int) : aliveB (B ++ List.replicate k x) ds = aliveB B ds + (k : Int) := by
  unfold aliveB
  rw [List.length_append, List.length_replicate]
  omega
theorem less_nn : ∀ {ds : List (List Int)}, (∀ p ∈ ds, patB p = true) → 0 ≤ (ds.map lessI).sum
  | [], _ => Int.le_refl _
  | p :: r, h => by
    have ih := less_nn (ds := r) fun q hq => h q (List.mem_cons_of_mem _ hq)
    have h1 := len_le_sum (patB_ge (h p List.mem_cons_self))
    rw [List.map_cons, List.sum_cons]
    unfold lessI at ih ⊢
    have h2 : 0 ≤ (p.length : Int) := by omega
    omega
theorem DrawnB.cal {B bs : List Int} {ds : List (List Int)} (h : DrawnB B ds) (hp : bs.Perm B) (h1 : 1 ≤ bs.length) (h12 : bs.length ≤ 12) (h11 : ds.length ≤ 11) : CalOk bs ds := by
  refine ⟨h1, h12, h11, h.pat, fun b hb => h.bd b (hp.mem_iff.mp hb), fun i p hi => ?_⟩
  have h2 := h.fit i p hi
  unfold aliveAt at h2 ⊢
  rw [(hp.filter _).length_eq]
  exact h2
end DL
set_option Elab.async false
set_option linter.all false
set_option maxRecDepth 100000
set_option maxHeartbeats 2000000
/-! dates: the first fault that is due -/
namespace DL
open PySem PySem.Spec PyProof.Rows L2 RZ
def G12 : Int := 1000000000000
def dayBad (da : List Int) (d : Nat) : Bool := decide (G12 < da.getD d 0 ∨ da.getD d 0 < -G12) || (decide (0 < d) && decide (da.getD d 0 ≤ da.getD (d - 1) 0))
/-- not ahead of day b -/
def notAhead (da : List Int) (b x : Int) : Bool := (decide (0 < b) && decide (x ≤ da.getD (b - 1).toNat 0)) || (decide (b < (da.length : Int)) && decide (da.getD b.toNat 0 < x))
def birthBad (bs da ba : List Int) (x : Nat) : Bool := decide (G12 < ba.getD x 0 ∨ ba.getD x 0 < -G12) || notAhead da (bs.getD x 0) (ba.getD x 0)
/-- the first index below n that is bad -/
def firstBad (f : Nat → Bool) (n : Nat) : Option Nat := (List.range n).find? f
/-- what is due: none, or the pair -/
def dueM (bs : List Int) (m : Nat) (da ba : List Int) : Option (Int × Int) :=
  if da.length ≠ m then some (2, da.length) else if ba.length ≠ bs.length then some (3, ba.length) else
  match firstBad (dayBad da) da.length with
  | some d => some (0, d)
  | none => match firstBad (birthBad bs da ba) ba.length with
    | some x => some (1, x)
    | none => none
def DatesOk (bs : List Int) (m : Nat) (da ba : List Int) : Prop := dueM bs m da ba = none
theorem first_none {f : Nat → Bool} {n : Nat} (h : ∀ i, i < n → f i = false) : firstBad f n = none := by
  unfold firstBad
  rw [List.find?_eq_none]
  intro i hi
  rw [h i (List.mem_range.mp hi)]
  exact Bool.false_ne_true
theorem first_some {f : Nat → Bool} {n i : Nat} (hi : i < n) (h : ∀ j, j < i → f j = false) (hb : f i = true) : firstBad f n = some i := by
  unfold firstBad
  have e : List.range n = List.range i ++ i :: (List.range n).drop (i + 1) := by
    have h1 : (List.range n).drop i = i :: (List.range n).drop (i + 1) := by
      have h2 := List.drop_eq_getElem_cons (l := List.range n) (i := i) (by simpa using hi)
      simpa using h2
    have h3 : (List.range n).take i = List.range i := by
      rw [List.take_range]
      congr 1
      omega
    rw [← h1, ← h3, List.take_append_drop]
  rw [e, List.find?_append, List.find?_cons, hb]
  have h2 : (List.range i).find? f = none := List.find?_eq_none.mpr fun j hj => by rw [h j (List.mem_range.mp hj)]; exact Bool.false_ne_true
  rw [h2]
  rfl
/-- dates that were drawn: right -/
theorem dates_ok {bs da ba : List Int} {m : Nat} (h1 : da.length = m) (h2 : ba.length = bs.length) (hd : ∀ d, d < m → -G12 ≤ da.getD d 0 ∧ da.getD d 0 ≤ G12 ∧ (0 < d → da.getD (d - 1) 0 < da.getD d 0)) (hb : ∀ x, x < bs.length → -G12 ≤ ba.getD x 0 ∧ ba.getD x 0 ≤ G12 ∧ notAhead da (bs.getD x 0) (ba.getD x 0) = false) : DatesOk bs m da ba := by
  unfold DatesOk dueM
  rw [if_neg (by omega), if_neg (by omega)]
  have e1 : firstBad (dayBad da) da.length = none := first_none fun d hi => by
    obtain ⟨a1, a2, a3⟩ := hd d (by omega)
    unfold dayBad
    rw [Bool.or_eq_false_iff, Bool.and_eq_false_iff]
    refine ⟨decide_eq_false (by omega), ?_⟩
    by_cases h0 : 0 < d
    · exact .inr (decide_eq_false (by have := a3 h0; omega))
    · exact .inl (decide_eq_false h0)
  have e2 : firstBad (birthBad bs da ba) ba.length = none := first_none fun x hi => by
    obtain ⟨a1, a2, a3⟩ := hb x (by omega)
    unfold birthBad
    rw [Bool.or_eq_false_iff]
    exact ⟨decide_eq_false (by omega), a3⟩
  rw [e1, e2]
end DL
namespace DL
open PySem PySem.Spec PyProof.Rows L2 RZ
theorem getD_app {l : List Int} {x : Int} {d : Nat} (h : d < l.length) : (l ++ [x]).getD d 0 = l.getD d 0 := by
  rw [List.getD_eq_getElem?_getD, List.getD_eq_getElem?_getD, List.getElem?_append_left h]
theorem getD_last (l : List Int) (x : Int) : (l ++ [x]).getD l.length 0 = x := by
  rw [List.getD_eq_getElem?_getD]
  simp
end DL
set_option Elab.async false
set_option linter.all false
set_option maxRecDepth 100000
set_option maxHeartbeats 2000000
namespace DK
open PySem PySem.Spec PyProof.Rows L2 RZ DL
def topS (i : Nat) : Stmt := PySem.Challenge.pw_datedlines_k29_dates_taken_and_refused.main.body.getD i (.Pass ⟨0, 0, 0, 0⟩)
abbrev s_is_number : Stmt := topS 9
abbrev N_is_number : List Str := ["thing"]
theorem sc_is_number : FnScope N_is_number ["thing"] (defScope s_is_number) := ⟨rfl, rfl, rfl, by decide +kernel, rfl, by decide +kernel, by decide +kernel⟩
theorem b_is_number : BindOk "is_number" s_is_number ["thing"] := fun _ _ _ _ _ _ us hl => match us, hl with | [_], _ => rfl

abbrev s_is_from_to : Stmt := topS 10
abbrev N_is_from_to : List Str := ["thing", "low", "high"]
theorem sc_is_from_to : FnScope N_is_from_to ["thing", "low", "high"] (defScope s_is_from_to) := ⟨rfl, rfl, rfl, by decide +kernel, rfl, by decide +kernel, by decide +kernel⟩
theorem b_is_from_to : BindOk "is_from_to" s_is_from_to ["thing", "low", "high"] := fun _ _ _ _ _ _ us hl => match us, hl with | [_, _, _], _ => rfl

abbrev s_law_take : Stmt := topS 30
abbrev N_law_take : List Str := ["_law_source", "_law_top", "_law_drawn_here"]
theorem sc_law_take : FnScope N_law_take ["_law_source", "_law_top"] (defScope s_law_take) := ⟨rfl, rfl, rfl, by decide +kernel, rfl, by decide +kernel, by decide +kernel⟩
theorem b_law_take : BindOk "_law_take" s_law_take ["_law_source", "_law_top"] := fun _ _ _ _ _ _ us hl => match us, hl with | [_, _], _ => rfl

abbrev s_law_one : Stmt := topS 31
abbrev N_law_one : List Str := ["_law_source", "_law_things"]
theorem sc_law_one : FnScope N_law_one ["_law_source", "_law_things"] (defScope s_law_one) := ⟨rfl, rfl, rfl, by decide +kernel, rfl, by decide +kernel, by decide +kernel⟩
theorem b_law_one : BindOk "_law_one" s_law_one ["_law_source", "_law_things"] := fun _ _ _ _ _ _ us hl => match us, hl with | [_, _], _ => rfl

abbrev s_law_pool : Stmt := topS 29
abbrev N_law_pool : List Str := ["_law_script", "_law_k", "_law_cell", "_law_big", "_law_mixed"]
theorem sc_law_pool : FnScope N_law_pool ["_law_script", "_law_k"] (defScope s_law_pool) := ⟨rfl, rfl, rfl, by decide +kernel, rfl, by decide +kernel, by decide +kernel⟩
theorem b_law_pool : BindOk "_law_pool" s_law_pool ["_law_script", "_law_k"] := fun _ _ _ _ _ _ us hl => match us, hl with | [_, _], _ => rfl

local macro_rules | `(tactic| walk_at "r") => `(tactic| repeat' (first | (refine ⟨_, rfl, ?_⟩) | (refine ⟨_, _, rfl, rfl, ?_⟩) | (refine ⟨rfl, ?_⟩)))
section
variable {P : Program} {w : World} {K : PySem.W.Frag} {mg : Str → Option Value} {base : Heap}
def spNum : Sp := fun vs H Q _ => ∃ i : Int, vs = [.int i] ∧ Q (.bl true) H
theorem ca_is_number (B : Bl mg) (U : Up K mg "is_number" s_is_number) : Ca P w K mg base 1 "is_number" s_is_number ["thing"] spNum := by
  refine ca0 U sc_is_number (fun vs H Q E h => by obtain ⟨i, rfl, _⟩ := h; rfl) fun f cdv A outer s H vs Q E hr h => ?_
  obtain ⟨i, rfl, q⟩ := h
  refine ⟨_, (pss_one (ps_ret (pe_and (pe_callB (call_isiK' K rfl) (by rfl) B.isinstance (by decide +kernel) (pa_cons (pv 0) (pa_cons (pe_bltn (v := .ty "int") (u := .type "int") (by rfl) B.int (by decide +kernel) rfl) pa_nil))) (pe_one (pe_not (pe_callB (call_isiK' K rfl) (by rfl) B.isinstance (by decide +kernel) (pa_cons (pv 0) (pa_cons (pe_bltn (v := .ty "bool") (u := .type "bool") (by rfl) B.bool (by decide +kernel) rfl) pa_nil)))))))), ?_⟩
  refine ⟨_, rfl, _, _, _, _, _, rfl, .ty _, .base (.int i), kit_ty (r := true) (by decide +kernel), true, rfl, iteT ?_⟩
  refine ⟨_, rfl, _, _, _, _, _, rfl, .ty _, .base (.int i), kit_ty (r := false) (by decide +kernel), false, rfl, q⟩
def spFromTo : Sp := fun vs H Q _ => ∃ x lo hi : Int, vs = [.int x, .int lo, .int hi] ∧ Q (.bl (decide (lo ≤ x) && decide (x ≤ hi))) H
theorem ca_is_from_to (c_is_number : Ca P w K mg base 1 "is_number" s_is_number ["thing"] spNum) (U : Up K mg "is_from_to" s_is_from_to) : Ca P w K mg base 2 "is_from_to" s_is_from_to ["thing", "low", "high"] spFromTo := by
  refine ca0 U sc_is_from_to (fun vs H Q E h => by obtain ⟨x, lo, hi, rfl, _⟩ := h; rfl) fun f cdv A outer s H vs Q E hr h => ?_
  obtain ⟨x, lo, hi, rfl, q⟩ := h
  refine ⟨_, (pss_one (ps_ret (pe_and (pe_ca c_is_number b_is_number hr ps0 (pa_cons (pv 0) pa_nil)) (pe_one (pe_chain op_le op_le (pv 1) (pv 0) (pv 2)))))), ?_⟩
  refine ⟨_, rfl, x, rfl, true, rfl, iteT ?_⟩
  refine ⟨_, rfl, _, rfl, _, _, rfl, rfl, _, rfl, ?_⟩
  refine ite2 (fun h1 => ?_) (fun h1 => ?_)
  · refine ⟨_, rfl, _, _, rfl, rfl, ?_⟩
    rw [h1] at q
    exact q
  · have h2 : decide (lo ≤ x) = false := by simpa using h1
    rw [h2] at q
    exact q
def spAskMoment (C : Addr) : Sp := fun vs H Q E => ∃ d last : Int, vs = [.int d, .int last] ∧ (0 ≤ d ∧ d ≤ last → Q .non H) ∧ (¬ (0 ≤ d ∧ d ≤ last) → RaisesW C (.int d) H E)
end
end DK
set_option Elab.async false
set_option linter.all false
set_option maxRecDepth 100000
set_option maxHeartbeats 2000000
namespace DK
open PySem PySem.Spec PyProof.Rows L2 RZ DL
section
variable {P : Program} {w : World} {K : PySem.W.Frag} {mg : Str → Option Value} {base : Heap}
theorem at0 {x : V} {xs : List V} : atI (x :: xs) 0 = some x := atI_nat (j := 0) rfl
theorem at1 {x y : V} {xs : List V} : atI (x :: y :: xs) 1 = some y := atI_nat (j := 1) rfl
def spTake : Sp := fun vs H Q _ => ∃ (a : Addr) (top : Int), vs = [.ref a, .int top] ∧ Src a H ∧ 0 < top ∧ top < 1073741824 ∧ ∀ r H', 0 ≤ r → r < top → Stay a H H' → Q (.int r) H'
theorem stay_upd {a : Addr} {H : Hp} {x y : Int} (v : SrcV x y) : Stay a H (upd H a (.lst [.int x, .int y])) := ⟨⟨x, y, upd_same, v⟩, fun b o n e => by rw [upd_ne n]; exact e⟩
theorem ca_take (B : Bl mg) (U : Up K mg "_law_take" s_law_take) : Ca P w K mg base 1 "_law_take" s_law_take ["_law_source", "_law_top"] spTake := by
  refine ca0 U sc_law_take (fun vs H Q E h => by obtain ⟨a, top, rfl, _⟩ := h; rfl) fun f cdv A outer s H vs Q E hr h => ?_
  obtain ⟨a, top, rfl, ⟨x, y, ha, v1, v2, v3⟩, t1, t2, q⟩ := h
  refine ⟨_, (pss_cons (ps_if (pt_cmpR op_gt (pe_ix (ix_listK K rfl) (pv 0) pe_int (fun _ _ => rfl)) pe_int (nomark _)) (pss_cons (ps_set (i := 2) sc_law_take.nd rfl (Or.inl rfl) (pe_op op_mod (pe_callTy call_int1 (by rfl) B.int (by decide +kernel) (pa_cons (pe_ix (ix_listK K rfl) (pv 0) pe_int (fun _ _ => rfl)) pa_nil)) (pv 1)))
      (pss_cons (ps_asg (pe_op op_fdiv (pe_ix (ix_listK K rfl) (pv 0) pe_int (fun _ _ => rfl)) (pv 1)) (pg_sub (pv 0) pe_int set_list))
      (pss_one (ps_ret (pv 2)))))
      pss_nil)
      (pss_cons (ps_asg (pe_op op_mod (pe_callTy call_int1 (by rfl) B.int (by decide +kernel) (pa_cons (pe_op op_add (pe_op op_mul (pe_ix (ix_listK K rfl) (pv 0) pe_int (fun _ _ => rfl)) pe_int) pe_int) pa_nil)) pe_int) (pg_sub (pv 0) pe_int set_list))
      (pss_one (ps_ret (pe_op op_mod (pe_callTy call_int1 (by rfl) B.int (by decide +kernel) (pa_cons (pe_op op_fdiv (pe_op op_mod (pe_callTy call_int1 (by rfl) B.int (by decide +kernel) (pa_cons (pe_op op_mul (pe_ix (ix_listK K rfl) (pv 0) pe_int (fun _ _ => rfl)) (pe_ix (ix_listK K rfl) (pv 0) pe_int (fun _ _ => rfl))) pa_nil)) pe_int) pe_int) pa_nil)) (pv 1)))))), ?_⟩
  refine ⟨_, rfl, a, _, _, _, rfl, rfl, SqL.of ha, at0, _, _, rfl, rfl, _, rfl, ?_⟩
  refine ite2 (fun h1 => ?_) (fun h1 => ?_)
  · refine ⟨_, rfl, a, _, _, _, rfl, rfl, SqL.of ha, at0, .inl ⟨_, rfl, _, rfl, _, _, rfl, rfl, t1, ?_⟩⟩
    refine ⟨_, rfl, a, _, _, _, rfl, rfl, SqL.of ha, at0, _, rfl, _, _, rfl, rfl, ⟨t1, t2⟩, _, rfl, ?_⟩
    refine ⟨a, _, _, 0, rfl, rfl, ha, rfl, _, rfl, ?_⟩
    refine q _ _ (Int.emod_nonneg _ (by omega)) (Int.emod_lt_of_pos _ t1) (stay_upd ⟨Int.ediv_nonneg v1 (by omega), v2, v3⟩)
  · refine ⟨_, rfl, a, _, _, _, rfl, rfl, SqL.of ha, at1, _, _, rfl, rfl, .inl ⟨by omega, by omega⟩, _, _, rfl, rfl, .inl ⟨_, rfl, _, _, rfl, rfl, (by show (0 : Int) < 2147483647; decide), ?_⟩⟩
    have w1 := Int.emod_nonneg (y * 39373 + 7) (show (2147483647 : Int) ≠ 0 by decide)
    have w2 := Int.emod_lt_of_pos (y * 39373 + 7) (show (0 : Int) < 2147483647 by decide)
    refine ⟨_, rfl, a, _, _, 1, rfl, rfl, ha, rfl, ?_⟩
    have ha2 : (upd H a (.lst (List.set [V.int x, V.int y] 1 (V.int ((y * 39373 + 7) % 2147483647))))) a = some (.lst [V.int x, V.int ((y * 39373 + 7) % 2147483647)]) := upd_same
    refine ⟨_, rfl, a, _, _, _, rfl, rfl, SqL.of ha2, at1, _, rfl, a, _, _, _, rfl, rfl, SqL.of ha2, at1, _, _, rfl, rfl, .inl ⟨by omega, by omega⟩, .inl ⟨_, rfl, _, _, rfl, rfl, (by show (0 : Int) < 2147483629; decide), ?_⟩⟩
    refine ⟨_, _, rfl, rfl, ⟨by decide, by decide⟩, .inl ⟨_, rfl, _, rfl, _, _, rfl, rfl, t1, ?_⟩⟩
    exact q _ _ (Int.emod_nonneg _ (by omega)) (Int.emod_lt_of_pos _ t1) (stay_upd ⟨v1, w1, w2⟩)
def spOne : Sp := fun vs H Q _ => ∃ (a p : Addr) (xs : List V), vs = [.ref a, .ref p] ∧ Src a H ∧ H p = some (.lst xs) ∧ p ≠ a ∧ 0 < xs.length ∧ xs.length < 1000 ∧ ∀ v H', v ∈ xs → Stay a H H' → Q v H'
theorem ca_one (B : Bl mg) (c_law_take : Ca P w K mg base 1 "_law_take" s_law_take ["_law_source", "_law_top"] spTake) (U : Up K mg "_law_one" s_law_one) : Ca P w K mg base 2 "_law_one" s_law_one ["_law_source", "_law_things"] spOne := by
  refine ca0 U sc_law_one (fun vs H Q E h => by obtain ⟨a, p, xs, rfl, _⟩ := h; rfl) fun f cdv A outer s H vs Q E hr h => ?_
  obtain ⟨a, p, xs, rfl, hs, hp, ne, l1, l2, q⟩ := h
  refine ⟨_, (pss_one (ps_ret (pe_ix (ix_listK K rfl) (pv 1) (pe_ca c_law_take b_law_take hr ps0 (pa_cons (pv 0) (pa_cons (pe_callB (call_lenK K rfl) (by rfl) B.len (by decide +kernel) (pa_cons (pv 1) pa_nil)) pa_nil))) (fun _ _ => rfl)))), ?_⟩
  refine ⟨_, rfl, _, rfl, _, rfl, p, xs, rfl, .inl (SqL.of hp), a, _, rfl, hs, by omega, by omega, fun r H' r0 r1 st => ?_⟩
  have hlt : r.toNat < xs.length := by omega
  have hr' : r = ((r.toNat : Nat) : Int) := by omega
  refine ⟨p, xs, _, _, rfl, rfl, SqL.of (st.2 p _ ne hp), at_of hr' (List.getElem?_eq_getElem hlt), ?_⟩
  exact q _ _ (List.getElem_mem hlt) st
def spPool (K : PySem.W.Frag) : Sp := fun vs H Q _ => ∃ (a : Addr) (ns : List Int) (k : Int), vs = [.ref a, .int k] ∧ SqL K H a (ns.map V.int) ∧ ns.length ≤ 63 ∧ 0 ≤ k ∧ k < 1000 ∧ ∀ p H', H p = none → Same H H' → Src p H' → Q (.ref p) H'
theorem ca_pool (B : Bl mg) (U : Up K mg "_law_pool" s_law_pool) : Ca P w K mg base 1 "_law_pool" s_law_pool ["_law_script", "_law_k"] (spPool K) := by
  refine ca0 U sc_law_pool (fun vs H Q E h => by obtain ⟨a, ns, k, rfl, _⟩ := h; rfl) fun f cdv A outer s H vs Q E hr h => ?_
  obtain ⟨a, ns, k, rfl, hs, l1, k0, k1, q⟩ := h
  refine ⟨_, (pss_cons (ps_set (i := 2) sc_law_pool.nd rfl (Or.inl rfl) pe_int)
      (Evl.pss_cut (ps_if (pt_cmpR op_lt (pv 1) (pe_callB (call_lenK K rfl) (by rfl) B.len (by decide +kernel) (pa_cons (pv 0) pa_nil)) (nomark _)) (pss_one (ps_set (i := 2) sc_law_pool.nd rfl (Or.inl rfl) (pe_ix (ix_listK K rfl) (pv 0) (pv 1) (fun _ _ => rfl))))
      (pss_one (ps_if (pt_truth (pv 0) (by intro _; rfl)) (pss_one (ps_set (i := 2) sc_law_pool.nd rfl (Or.inl rfl) (pe_ix (ix_listK K rfl) (pv 0) pe_int (fun _ _ => rfl))))
      pss_nil)))
      (pss_cons (ps_set (i := 3) sc_law_pool.nd rfl (Or.inl rfl) (pe_callB (call_max2 rfl) (by rfl) B.max (by decide +kernel) (pa_cons (pe_callTy call_int1 (by rfl) B.int (by decide +kernel) (pa_cons (pv 2) pa_nil)) (pa_cons (pe_callTy call_int1 (by rfl) B.int (by decide +kernel) (pa_cons (pe_op op_sub (pe_un un_neg pe_int) (pv 2)) pa_nil)) pa_nil))))
      (pss_cons (ps_set (i := 4) sc_law_pool.nd rfl (Or.inl rfl) (pe_op op_mod (pe_callTy call_int1 (by rfl) B.int (by decide +kernel) (pa_cons (pe_op op_mul (pe_op op_add (pe_op op_add (pe_op op_add (pe_op op_mod (pe_callTy call_int1 (by rfl) B.int (by decide +kernel) (pa_cons (pv 3) pa_nil)) pe_int) (pe_op op_mul (pe_op op_mul pe_int (pv 1)) (pv 1))) (pe_op op_mul pe_int (pv 1))) pe_int) pe_int) pa_nil)) pe_int))
      (pss_one (ps_ret (pe_lst (pa_cons (pe_op op_mul (pv 3) (pe_callTy call_int1 (by rfl) B.int (by decide +kernel) (pa_cons (pe_cmpR op_ge (pv 3) (pe_op op_pow pe_int pe_int) (nomark _)) pa_nil))) (pa_cons (pv 4) pa_nil))))))))), ?_⟩
  refine ⟨fun σ' H' => H' = H ∧ ∃ c : Int, σ' = [some (.ref a), some (.int k), some (.int c), none, none], ?_, ?_⟩
  · refine ⟨_, rfl, _, rfl, a, _, rfl, .inl hs, _, _, rfl, rfl, _, rfl, ?_⟩
    rw [List.length_map]
    have hz : ∀ (j : Nat) (hj : j < ns.length), atI (ns.map V.int) (j : Int) = some (.int ns[j]) := fun j hj => atI_nat (by simp [hj])
    refine ite2 (fun h1 => ?_) (fun h1 => ?_)
    · have hk : k.toNat < ns.length := by
        have := of_decide_eq_true h1
        omega
      have e := hz k.toNat hk
      rw [show ((k.toNat : Nat) : Int) = k by omega] at e
      exact ⟨_, rfl, _, rfl, a, _, _, _, rfl, rfl, hs, e, rfl, _, rfl⟩
    · refine ⟨_, rfl, !(ns.map V.int).isEmpty, .inl ⟨_, hs, rfl⟩, ?_⟩
      cases hn : ns with
      | nil => exact ⟨rfl, 0, rfl⟩
      | cons n r =>
        have e : atI (ns.map V.int) 0 = some (.int n) := by rw [hn]; exact at0
        exact iteT ⟨_, rfl, a, _, _, _, rfl, rfl, hs, e, rfl, _, rfl⟩
  · rintro σ' H' ⟨rfl, c, rfl⟩
    refine ⟨_, rfl, .inl ⟨_, rfl, _, rfl, _, rfl, _, _, rfl, rfl, .inl ⟨_, rfl, _, _, rfl, ?_⟩⟩⟩
    have hb : ∃ b : Int, b = (if -1 - c > c then -1 - c else c) ∧ 0 ≤ b := by
      refine ⟨_, rfl, ?_⟩
      split <;> omega
    obtain ⟨b, eb, b0⟩ := hb
    refine ⟨_, rfl, .inl ⟨_, rfl, _, _, rfl, rfl, (by show (0 : Int) < 2147483629; decide), _, rfl, _, _, rfl, rfl, .inl ⟨by decide, by decide⟩, _, rfl, _, _, rfl, rfl, .inr ⟨by omega, by omega⟩, _, _, rfl, rfl, _, rfl, _, _, rfl, rfl, .inl ⟨by decide, by decide⟩, _, _, rfl, rfl, _, _, rfl, rfl, _, _, rfl, rfl, .inr ⟨by decide, by decide⟩, .inl ⟨_, rfl, _, _, rfl, rfl, (by show (0 : Int) < 2147483647; decide), ?_⟩⟩⟩
    refine ⟨_, rfl, _, rfl, _, _, rfl, rfl, ⟨by decide, by decide, by decide⟩, _, _, rfl, rfl, .inr ⟨_, rfl, _, _, rfl, rfl, .inr ?_, _, rfl, (by show 2 ≤ sizeLine; decide), fun p hp => ?_⟩⟩
    · have ht : ∀ t : Bool, -(2 ^ 64) < (if t = true then (1 : Int) else 0) ∧ (if t = true then (1 : Int) else 0) < 2 ^ 64 := by
        intro t
        cases t <;> decide
      exact ht _
    · refine q p _ hp (Same.new hp) ⟨_, _, upd_same, ?_, Int.emod_nonneg _ (by decide), Int.emod_lt_of_pos _ (by decide)⟩
      have ht : ∀ t : Bool, 0 ≤ (if t = true then (1 : Int) else 0) := by
        intro t
        cases t <;> decide
      rw [eb] at b0
      exact Int.mul_nonneg b0 (ht _)
end
end DK
set_option Elab.async false
set_option linter.all false
set_option maxRecDepth 100000
set_option maxHeartbeats 2000000
namespace DK
open PySem PySem.Spec PyProof.Rows L2 RZ DL
abbrev s_is_falling : Stmt := topS 11
abbrev N_is_falling : List Str := ["sizes", "one", "two"]
theorem sc_is_falling : FnScope N_is_falling ["sizes"] (defScope s_is_falling) := ⟨rfl, rfl, rfl, by decide +kernel, rfl, by decide +kernel, by decide +kernel⟩
theorem b_is_falling : BindOk "is_falling" s_is_falling ["sizes"] := fun _ _ _ _ _ _ us hl => match us, hl with | [_], _ => rfl

abbrev s_is_pattern : Stmt := topS 13
abbrev N_is_pattern : List Str := ["thing", "s"]
theorem sc_is_pattern : FnScope N_is_pattern ["thing"] (defScope s_is_pattern) := ⟨rfl, rfl, rfl, by decide +kernel, rfl, by decide +kernel, by decide +kernel⟩
theorem b_is_pattern : BindOk "is_pattern" s_is_pattern ["thing"] := fun _ _ _ _ _ _ us hl => match us, hl with | [_], _ => rfl

abbrev s_ask_pattern : Stmt := topS 14
abbrev N_ask_pattern : List Str := ["pattern"]
theorem sc_ask_pattern : FnScope N_ask_pattern ["pattern"] (defScope s_ask_pattern) := ⟨rfl, rfl, rfl, by decide +kernel, rfl, by decide +kernel, by decide +kernel⟩
theorem b_ask_pattern : BindOk "ask_pattern" s_ask_pattern ["pattern"] := fun _ _ _ _ _ _ us hl => match us, hl with | [_], _ => rfl

abbrev s_met : Stmt := topS 15
abbrev N_met : List Str := ["pattern"]
theorem sc_met : FnScope N_met ["pattern"] (defScope s_met) := ⟨rfl, rfl, rfl, by decide +kernel, rfl, by decide +kernel, by decide +kernel⟩
theorem b_met : BindOk "met" s_met ["pattern"] := fun _ _ _ _ _ _ us hl => match us, hl with | [_], _ => rfl

abbrev s_less : Stmt := topS 16
abbrev N_less : List Str := ["pattern"]
theorem sc_less : FnScope N_less ["pattern"] (defScope s_less) := ⟨rfl, rfl, rfl, by decide +kernel, rfl, by decide +kernel, by decide +kernel⟩
theorem b_less : BindOk "less" s_less ["pattern"] := fun _ _ _ _ _ _ us hl => match us, hl with | [_], _ => rfl

section
variable {P : Program} {w : World} {K : PySem.W.Frag} {mg : Str → Option Value} {base : Heap}
def fallB (ns : List Int) : Bool := ((ns.zip (ns.drop 1)).map fun p => decide (p.2 ≤ p.1)).all id
def spFall (K : PySem.W.Frag) : Sp := fun vs H Q _ => ∃ (a : Addr) (ns : List Int), vs = [.ref a] ∧ TupI K H a ns ∧ ns.length ≤ 1000 ∧ ∀ H', Same H H' → Q (.bl (fallB ns)) H'
theorem ca_is_falling (B : Bl mg) (U : Up K mg "is_falling" s_is_falling) : Ca P w K mg base 1 "is_falling" s_is_falling ["sizes"] (spFall K) := by
  refine ca0 U sc_is_falling (fun vs H Q E h => by obtain ⟨a, ns, rfl, _⟩ := h; rfl) fun f cdv A outer s H vs Q E hr h => ?_
  obtain ⟨a, ns, rfl, ht, hl, q⟩ := h
  refine ⟨_, (pss_one (ps_ret (pe_callB (cr_allK K rfl rfl) (by rfl) B.all (by decide +kernel) (pa_cons (pe_lc (own := [("one", 1), ("two", 2)]) (g := (gTup K 2 (gCons (gName 1) (gCons (gName 2) gNil)))) (by rfl) sc_is_falling.nd (pi_zipA (by rfl) B.zip (pa_cons (pv 0) (pa_cons (pe_slice sl_tupS (pv 0) (po_some pe_int) po_none) pa_nil))) (blkOk_by (N := N_is_falling) (own := [("one", 1), ("two", 2)]) (sc := defScope s_is_falling) (by decide +kernel)) (fun _ _ _ _ _ => pg_tup rfl (pgs_cons (pg_name (i := 1) sc_is_falling.nd rfl (Or.inl rfl)) (pgs_cons (pg_name (i := 2) sc_is_falling.nd rfl (Or.inl rfl)) pgs_nil))) (fun _ _ _ _ _ => pts_nil) (fun _ _ _ _ _ => (pe_cmpR op_ge (pv 1) (pv 2) (nomark _)))) pa_nil)))), ?_⟩
  refine ⟨_, rfl, _, rfl, 1, rfl, a, _, rfl, ht, fun b H2 s2 hb => ?_⟩
  have hb' : SqT K H2 b ((ns.drop 1).map V.int) := by
    have e1 := cut_from (ns.map V.int) 1
    rw [← List.map_drop] at e1
    rw [← e1]
    exact hb
  have ha' : SqT K H2 a (ns.map V.int) := Same.seqT s2 ht
  refine ⟨a, b, _, _, rfl, .inr ⟨ha', hb', fun D2 hD2 => lc_it (walk_zipT (n := (ns.zip (ns.drop 1)).length) (by simp)) (Cw H2 (fun _ => true) (fun i => V.bl (decide (((ns.zip (ns.drop 1)).getD i (0, 0)).2 ≤ ((ns.zip (ns.drop 1)).getD i (0, 0)).1))) D2) (cw0 hD2) (fun i H' _ p => ⟨Same.seqT p.2.1 ha', Same.seqT p.2.1 hb'⟩) ?_ ?_⟩⟩
  · rintro i x H' H'' hi p ⟨T, u, v, rfl, hT, rfl, hu, hv⟩
    obtain ⟨z, hz, rfl⟩ := map_of hu
    obtain ⟨z2, hz2, rfl⟩ := map_of hv
    have hzz : (ns.zip (ns.drop 1)).getD i (0, 0) = (z, z2) := getD_of (List.getElem?_zip_eq_some.mpr ⟨hz, hz2⟩)
    refine ⟨T, _, rfl, SqT.of upd_same, rfl, _, _, rfl, _, _, rfl, rfl, rfl, _, rfl, _, rfl, _, _, rfl, rfl, ?_⟩
    have hi' : i < 1000 := by
      have := (List.getElem?_eq_some_iff.mp hz).1
      omega
    exact cwY p (Same.new hT) (by omega) rfl (by rw [hzz])
  · rintro H3 ⟨r1, r2, r3⟩
    have e := givn_all (ns.zip (ns.drop 1)) (0, 0) (fun x => V.bl (decide (x.2 ≤ x.1)))
    rw [e] at r3
    refine ⟨D2, ((ns.zip (ns.drop 1)).map fun p => decide (p.2 ≤ p.1)), rfl, SqL.of (by rw [List.map_map]; exact r3), ?_⟩
    exact q _ (s2.trans r2)
def spPat (K : PySem.W.Frag) : Sp := fun vs H Q _ => ∃ (a : Addr) (ns : List Int), vs = [.ref a] ∧ TupI K H a ns ∧ ns.length ≤ 1000 ∧ ∀ H', Same H H' → Q (.bl (patB ns)) H'
theorem ca_is_pattern (B : Bl mg) (c_is_number : Ca P w K mg base 1 "is_number" s_is_number ["thing"] spNum) (c_is_falling : Ca P w K mg base 1 "is_falling" s_is_falling ["sizes"] (spFall K)) (U : Up K mg "is_pattern" s_is_pattern) : Ca P w K mg base 2 "is_pattern" s_is_pattern ["thing"] (spPat K) := by
  refine ca0 U sc_is_pattern (fun vs H Q E h => by obtain ⟨a, ns, rfl, _⟩ := h; rfl) fun f cdv A outer s H vs Q E hr h => ?_
  obtain ⟨a, ns, rfl, ht, hl, q⟩ := h
  refine ⟨_, (pss_cons (ps_if (pt_not (pt_val (pe_callB (call_isiK' K rfl) (by rfl) B.isinstance (by decide +kernel) (pa_cons (pv 0) (pa_cons (pe_bltn (v := .ty "tuple") (u := .type "tuple") (by rfl) B.tuple (by decide +kernel) rfl) pa_nil))))) (pss_one (ps_ret pe_bl))
      pss_nil)
      (pss_one (ps_ret (pe_and (pe_callB (cr_allK K rfl rfl) (by rfl) B.all (by decide +kernel) (pa_cons (pe_lc (own := [("s", 1)]) (g := (gName 1)) (by rfl) sc_is_pattern.nd (pi_tup (pv 0)) (blkOk_by (N := N_is_pattern) (own := [("s", 1)]) (sc := defScope s_is_pattern) (by decide +kernel)) (fun _ _ _ _ _ => pg_name (i := 1) sc_is_pattern.nd rfl (Or.inl rfl)) (fun _ _ _ _ _ => pts_nil) (fun _ _ _ _ _ => (pe_and (pe_ca c_is_number b_is_number hr ps0 (pa_cons (pv 1) pa_nil)) (pe_one (pe_cmpR op_ge (pv 1) pe_int (nomark _)))))) pa_nil)) (pe_one (pe_ca c_is_falling b_is_falling hr ps0 (pa_cons (pv 0) pa_nil))))))), ?_⟩
  refine ⟨_, rfl, _, _, _, _, _, rfl, .ty _, tyT ht, kit_ty (r := true) (by decide +kernel), true, rfl, iteF ?_⟩
  refine ⟨_, rfl, a, rfl, ⟨_, ht⟩, fun D hD => lc_it (walk_tup (xs := ns.map V.int)) (Cw H (fun _ => true) (fun i => V.bl (decide (2 ≤ ns.getD i 0))) D) (cw0 hD) (fun i H' _ p => Same.seqT p.2.1 ht) ?_ ?_⟩
  · rintro i x H' H'' hi p ⟨rfl, hx⟩
    obtain ⟨z, hz, rfl⟩ := map_of hx
    refine ⟨rfl, _, rfl, z, rfl, true, rfl, ?_⟩
    refine iteT ?_
    refine ⟨_, rfl, _, _, rfl, rfl, ?_⟩
    have hi' : i < ns.length := by simpa using hi
    exact cwY p (Same.refl _) (by omega) rfl (by rw [getD_of hz])
  · rintro H1 ⟨p1, p2, p3⟩
    have e := givn_all ns 0 (fun x => V.bl (decide (2 ≤ x)))
    rw [List.length_map] at p3
    rw [e] at p3
    refine ⟨D, (ns.map fun s => decide (2 ≤ s)), rfl, SqL.of (by rw [List.map_map]; exact p3), _, rfl, ?_⟩
    refine ite2 (fun h1 => ?_) (fun h1 => ?_)
    · have ht1 : (ns.map fun s => decide (2 ≤ s)).all id = true := by simpa using h1
      refine ⟨_, rfl, a, ns, rfl, Same.seqT p2 ht, hl, fun H2 s2 => ?_⟩
      have hf : patB ns = fallB ns := by
        unfold patB
        rw [ht1]
        rfl
      rw [hf] at q
      exact q _ (p2.trans s2)
    · have hf : patB ns = false := by
        unfold patB
        rw [show (ns.map fun s => decide (2 ≤ s)).all id = false by simpa using h1]
        rfl
      rw [hf] at q
      exact q _ p2
def spAskPat (K : PySem.W.Frag) : Sp := fun vs H Q _ => ∃ (a : Addr) (ns : List Int), vs = [.ref a] ∧ TupI K H a ns ∧ ns.length ≤ 1000 ∧ patB ns = true ∧ ∀ H', Same H H' → Q .non H'
theorem ca_ask_pattern (c_is_pattern : Ca P w K mg base 2 "is_pattern" s_is_pattern ["thing"] (spPat K)) (U : Up K mg "ask_pattern" s_ask_pattern) : Ca P w K mg base 3 "ask_pattern" s_ask_pattern ["pattern"] (spAskPat K) := by
  refine ca0 U sc_ask_pattern (fun vs H Q E h => by obtain ⟨a, ns, rfl, _⟩ := h; rfl) fun f cdv A outer s H vs Q E hr h => ?_
  obtain ⟨a, ns, rfl, ht, hl, hp, q⟩ := h
  refine ⟨_, (pss_one (ps_if (pt_not (pt_val (pe_ca c_is_pattern b_is_pattern hr ps0 (pa_cons (pv 0) pa_nil)))) (pss_one ps_never)
      pss_nil)), ?_⟩
  refine ⟨_, rfl, a, ns, rfl, ht, hl, fun H' s' => ⟨_, rfl, ?_⟩⟩
  rw [hp]
  exact iteF (q _ s')
def spMet (K : PySem.W.Frag) (g : List Int → Int) : Sp := fun vs H Q _ => ∃ (a : Addr) (ns : List Int), vs = [.ref a] ∧ TupI K H a ns ∧ ns.length ≤ 1000 ∧ patB ns = true ∧ ∀ H', Same H H' → Q (.int (g ns)) H'
theorem ca_met (B : Bl mg) (c_ask_pattern : Ca P w K mg base 3 "ask_pattern" s_ask_pattern ["pattern"] (spAskPat K)) (U : Up K mg "met" s_met) : Ca P w K mg base 4 "met" s_met ["pattern"] (spMet K List.sum) := by
  refine ca0 U sc_met (fun vs H Q E h => by obtain ⟨a, ns, rfl, _⟩ := h; rfl) fun f cdv A outer s H vs Q E hr h => ?_
  obtain ⟨a, ns, rfl, ht, hl, hp, q⟩ := h
  refine ⟨_, (pss_cons (ps_expr (pe_ca c_ask_pattern b_ask_pattern hr ps0 (pa_cons (pv 0) pa_nil)))
      (pss_one (ps_ret (pe_callB (cr_sumTK K rfl rfl) (by rfl) B.sum (by decide +kernel) (pa_cons (pv 0) pa_nil))))), ?_⟩
  exact ⟨_, rfl, a, ns, rfl, ht, hl, hp, fun H' s' => ⟨_, rfl, a, ns, rfl, ht.same s', q _ s'⟩⟩
theorem ca_less (B : Bl mg) (c_ask_pattern : Ca P w K mg base 3 "ask_pattern" s_ask_pattern ["pattern"] (spAskPat K)) (U : Up K mg "less" s_less) : Ca P w K mg base 4 "less" s_less ["pattern"] (spMet K lessI) := by
  refine ca0 U sc_less (fun vs H Q E h => by obtain ⟨a, ns, rfl, _⟩ := h; rfl) fun f cdv A outer s H vs Q E hr h => ?_
  obtain ⟨a, ns, rfl, ht, hl, hp, q⟩ := h
  refine ⟨_, (pss_cons (ps_expr (pe_ca c_ask_pattern b_ask_pattern hr ps0 (pa_cons (pv 0) pa_nil)))
      (pss_one (ps_ret (pe_op op_sub (pe_callB (cr_sumTK K rfl rfl) (by rfl) B.sum (by decide +kernel) (pa_cons (pv 0) pa_nil)) (pe_callB (call_lenK K rfl) (by rfl) B.len (by decide +kernel) (pa_cons (pv 0) pa_nil)))))), ?_⟩
  refine ⟨_, rfl, a, ns, rfl, ht, hl, hp, fun H' s' => ⟨_, rfl, a, ns, rfl, ht.same s', _, rfl, a, _, rfl, .inr (ht.same s'), _, _, rfl, rfl, ?_⟩⟩
  rw [List.length_map]
  exact q _ s'
end
end DK
set_option Elab.async false
set_option linter.all false
set_option maxRecDepth 100000
set_option maxHeartbeats 2000000
namespace DK
open PySem PySem.Spec PyProof.Rows L2 RZ DL
abbrev s_Calendar___init__ : Stmt := inClass (topS 19) 0
abbrev N_Calendar___init__ : List Str := ["self", "born", "days"]
theorem sc_Calendar___init__ : FnScope N_Calendar___init__ ["self", "born", "days"] (defScope s_Calendar___init__) := ⟨rfl, rfl, rfl, by decide +kernel, rfl, by decide +kernel, by decide +kernel⟩

abbrev s_days_many : Stmt := topS 23
abbrev N_days_many : List Str := ["calendar"]
theorem sc_days_many : FnScope N_days_many ["calendar"] (defScope s_days_many) := ⟨rfl, rfl, rfl, by decide +kernel, rfl, by decide +kernel, by decide +kernel⟩
theorem b_days_many : BindOk "days_many" s_days_many ["calendar"] := fun _ _ _ _ _ _ us hl => match us, hl with | [_], _ => rfl

section
variable {P : Program} {w : World} {K : PySem.W.Frag} {mg : Str → Option Value} {base : Heap} {C f0 fC CM fR : Addr}
/-- Calendar.__init__ -/
def calF (b d : V) : List (Str × V) := putF "days" d (putF "born" b [])
theorem bd_ : ¬ (("born" : Str) = "days") := by decide +kernel
theorem calF_born (b d : V) : (calF b d).lookup ("born" : Str) = some b := by
  unfold calF
  rw [lookup_putF, if_neg bd_, lookup_putF, if_pos rfl]
theorem calF_days (b d : V) : (calF b d).lookup ("days" : Str) = some d := by
  unfold calF
  rw [lookup_putF, if_pos rfl]
def spInitC (C : Addr) : Sp := fun vs H Q _ => ∃ (c dx : Addr) (b d : V), vs = [.ref c, b, d] ∧ H c = some (.ins C dx []) ∧ Q .non (upd H c (.ins C dx (calF b d)))
theorem ok_init (T : ClC K mg C fC) {f : Addr} {fd : FuncData} (F : Fun K "__init__" "Calendar.__init__" s_Calendar___init__ f fd) : FnOk P w K mg base (L2.CX P w) 1 f fd ["self", "born", "days"] (spInitC C) := by
  refine fn_up (F.ok sc_Calendar___init__ (fun vs H Q E h => by obtain ⟨c, dx, b, d, rfl, _⟩ := h; rfl) fun cdv A outer s H vs Q E hr h => ?_)
  obtain ⟨c, dx, b, d, rfl, hc, q⟩ := h
  refine ⟨_, (pss_cons (ps_fld (pv 0) (pv 1) rfl)
      (pss_one (ps_fld (pv 0) (pv 2) rfl))), ?_⟩
  refine ⟨_, rfl, _, rfl, c, C, dx, _, rfl, hc, T.cl, T.nB, (by show 0 < 1000; decide), ?_⟩
  refine ⟨_, rfl, _, rfl, c, C, dx, _, rfl, upd_same, T.cl, T.nD, (by show 1 < 1000; decide), ?_⟩
  rw [upd_upd]
  exact q
def spLeaves (K : PySem.W.Frag) (C : Addr) (g : List Int → List (List Int) → Int) : Sp := fun vs H Q _ => ∃ (c : Addr) (bs : List Int) (ds : List (List Int)), vs = [.ref c] ∧ CalAt K C H c bs ds ∧ Q (.int (g bs ds)) H
theorem ca_days_many (B : Bl mg) (T : ClC K mg C fC) (U : Up K mg "days_many" s_days_many) : Ca P w K mg base 1 "days_many" s_days_many ["calendar"] (spLeaves K C fun _ ds => (ds.length : Int)) := by
  refine ca0 U sc_days_many (fun vs H Q E h => by obtain ⟨c, bs, ds, rfl, _⟩ := h; rfl) fun f cdv A outer s H vs Q E hr h => ?_
  obtain ⟨c, bs, ds, rfl, hcal, q⟩ := h
  obtain ⟨dx, b, d, fs, h1, h2, h3, h4, qs, h5, h6, h7⟩ := hcal.op
  refine ⟨_, (pss_one (ps_ret (pe_callB (call_lenK K rfl) (by rfl) B.len (by decide +kernel) (pa_cons (pe_fld (pv 0) rfl) pa_nil)))), ?_⟩
  refine ⟨_, rfl, c, C, dx, fs, _, rfl, h1, T.cl, T.nD, h3, d, _, rfl, .inr h5, ?_⟩
  rw [List.length_map, h6]
  exact q
/-- what a calendar's days are: patterns -/
def DaysOk (ds : List (List Int)) : Prop := ∀ p ∈ ds, patB p = true ∧ p.length ≤ 1000
end
end DK
set_option Elab.async false
set_option linter.all false
set_option maxRecDepth 100000
set_option maxHeartbeats 2000000
namespace DK
open PySem PySem.Spec PyProof.Rows L2 RZ DL
abbrev s_ask_lines : Stmt := topS 21
abbrev N_ask_lines : List Str := ["born", "days", "k", "d", "pattern"]
theorem sc_ask_lines : FnScope N_ask_lines ["born", "days"] (defScope s_ask_lines) := ⟨rfl, rfl, rfl, by decide +kernel, rfl, by decide +kernel, by decide +kernel⟩
theorem b_ask_lines : BindOk "_ask_lines" s_ask_lines ["born", "days"] := fun _ _ _ _ _ _ us hl => match us, hl with | [_, _], _ => rfl

abbrev s_made_calendar : Stmt := topS 20
abbrev N_made_calendar : List Str := ["born", "days", "d", "pattern", "x", "moment"]
theorem sc_made_calendar : FnScope N_made_calendar ["born", "days"] (defScope s_made_calendar) := ⟨rfl, rfl, rfl, by decide +kernel, rfl, by decide +kernel, by decide +kernel⟩
theorem b_made_calendar : BindOk "made_calendar" s_made_calendar ["born", "days"] := fun _ _ _ _ _ _ us hl => match us, hl with | [_, _], _ => rfl

section
variable {P : Program} {w : World} {K : PySem.W.Frag} {mg : Str → Option Value} {base : Heap} {C f0 fC CM fR : Addr}
def spAskLines (K : PySem.W.Frag) : Sp := fun vs H Q _ => ∃ (b dd : Addr) (bs : List Int) (ds : List (List Int)), vs = [.ref b, .ref dd] ∧ TupD H b (bs.map V.int) ∧ TupTI K H dd ds ∧ CalOk bs ds ∧ ∀ H', Same H H' → Q .non H'
theorem ca_ask_lines (B : Bl mg) (c_met : Ca P w K mg base 4 "met" s_met ["pattern"] (spMet K List.sum)) (c_less : Ca P w K mg base 4 "less" s_less ["pattern"] (spMet K lessI)) (U : Up K mg "_ask_lines" s_ask_lines) : Ca P w K mg base 5 "_ask_lines" s_ask_lines ["born", "days"] (spAskLines K) := by
  refine ca0 U sc_ask_lines (fun vs H Q E h => by obtain ⟨b, dd, bs, ds, rfl, _⟩ := h; rfl) fun f cdv A outer s H vs Q E hr h => ?_
  obtain ⟨b, dd, bs, ds, rfl, hb, ⟨qs, h5, h6, h7⟩, ok, q⟩ := h
  refine ⟨_, (pss_cons (ps_set (i := 2) sc_ask_lines.nd rfl (Or.inl rfl) pe_int)
      (pss_one (ps_for PassesOwn.never rfl (pi_enumT (by rfl) B.enumerate (pa_cons (pv 1) pa_nil)) (pg_tup rfl (pgs_cons (pg_name (i := 3) sc_ask_lines.nd rfl (Or.inl rfl)) (pgs_cons (pg_name (i := 4) sc_ask_lines.nd rfl (Or.inl rfl)) pgs_nil)))
      (pss_cons (ps_set (i := 2) sc_ask_lines.nd rfl (Or.inl rfl) (pe_op op_add (pv 2) (pe_bmD PySem.F.plainAttrs_tuple PySem.F.slot_tuple_count PySem.F.type_tuple_count mt_tcount (pv 0) (pa_cons (pv 3) pa_nil))))
      (pss_cons (ps_if (pt_cmpR op_gt (pe_ca c_met b_met hr ps0 (pa_cons (pv 4) pa_nil)) (pv 2) (nomark _)) (pss_one ps_never)
      pss_nil)
      (pss_one (ps_set (i := 2) sc_ask_lines.nd rfl (Or.inl rfl) (pe_op op_sub (pv 2) (pe_ca c_less b_less hr ps0 (pa_cons (pv 4) pa_nil)))))))))), ?_⟩
  refine ⟨_, rfl, dd, _, rfl, h5, for_it (walk_enumT (xs := qs.map V.ref)) (fun i σ H' => Same H H' ∧ ∃ k x y, k = kAt bs ds i ∧ σ = [some (.ref b), some (.ref dd), some (.int k), x, y]) ⟨Same.refl _, 0, none, none, ?_, rfl⟩ (fun i σ H' _ p => Same.seqT p.1 h5) ?_ ?_⟩
  · have h0 : bs.filter (fun b => decide (b < ((0 : Nat) : Int))) = [] := by
      rw [List.filter_eq_nil_iff]
      intro x hx
      have := (ok.born x hx).1
      simp
      omega
    unfold kAt bornB
    rw [h0]
    simp
  · rintro i x σ H1 H2 hi ⟨s1, k, x', y', ek, rfl⟩ ⟨T, u, v, rfl, hT, rfl, hu, hv⟩
    cases hu
    obtain ⟨z, hz, rfl⟩ := map_of hv
    have hi' : i < ds.length := by
      have := (List.getElem?_eq_some_iff.mp hz).1
      omega
    have hds : ds[i]? = some ds[i] := by simp
    have hp := ok.pat ds[i] (List.getElem_mem _)
    have s2 : Same H (upd H1 T (.tup [.int (i : Nat), .ref z])) := Same.mut s1 (same_back s1 hT)
    refine ⟨T, _, rfl, SqT.of upd_same, rfl, _, _, rfl, _, _, rfl, rfl, ?_⟩
    refine ⟨_, rfl, _, rfl, ⟨b, _, rfl, hb.same s2⟩, _, rfl, b, bs, _, rfl, rfl, (hb.same s2).sq, _, _, rfl, rfl, ?_⟩
    have ek2 : k + (bs.count ((i : Nat) : Int) : Nat) = aliveAt bs ds i := by rw [ek, kAt_count]
    refine ⟨_, rfl, z, ds[i], rfl, (h7 i z _ hz hds).same s2, hp.2.2, hp.1, fun H3 s3 => ⟨_, rfl, _, _, rfl, rfl, _, rfl, ?_⟩⟩
    have hfit := ok.fit i _ hds
    have hdec : decide (k + (bs.count ((i : Nat) : Int) : Nat) < ds[i].sum) = false := by
      rw [ek2]
      simpa using hfit
    refine iteFd hdec ⟨_, rfl, _, rfl, z, ds[i], rfl, (h7 i z _ hz hds).same (s2.trans s3), hp.2.2, hp.1, fun H4 s4 => ⟨_, _, rfl, rfl, (s2.trans s3).trans s4, _, _, _, by rw [← kAt_less hds, ← ek2], rfl⟩⟩
  · rintro σ H' ⟨s1, _⟩
    exact q _ s1
structure Kn (mg : Str → Option Value) : Prop where
  MOST_LEAVES : ∃ t, mg "MOST_LEAVES" = some (.int 12 t)
  MOST_DAYS : ∃ t, mg "MOST_DAYS" = some (.int 11 t)
def spMade (K : PySem.W.Frag) (C : Addr) : Sp := fun vs H Q _ => ∃ (b dd : Addr) (bs : List Int) (ds : List (List Int)), vs = [.ref b, .ref dd] ∧ TupD H b (bs.map V.int) ∧ TupTD H dd ds ∧ CalOk bs ds ∧ ∀ c H', H c = none → Same H H' → CalAt K C H' c bs ds → Q (.ref c) H'
theorem ca_made_calendar (B : Bl mg) (Kc : Kn mg) (T : ClC K mg C fC) {fd : FuncData} (G_Calendar : FnOk P w K mg base (L2.CX P w) 1 fC fd ["self", "born", "days"] (spInitC C)) (Bi_Calendar : Binds K fd ["self", "born", "days"] [])
    (c_is_pattern : Ca P w K mg base 2 "is_pattern" s_is_pattern ["thing"] (spPat K)) (c_is_from_to : Ca P w K mg base 2 "is_from_to" s_is_from_to ["thing", "low", "high"] spFromTo) (c_ask_lines : Ca P w K mg base 5 "_ask_lines" s_ask_lines ["born", "days"] (spAskLines K))
    (U : Up K mg "made_calendar" s_made_calendar) : Ca P w K mg base 6 "made_calendar" s_made_calendar ["born", "days"] (spMade K C) := by
  refine ca0 U sc_made_calendar (fun vs H Q E h => by obtain ⟨b, dd, bs, ds, rfl, _⟩ := h; rfl) fun f cdv A outer s H vs Q E hr h => ?_
  obtain ⟨b, dd, bs, ds, rfl, hb, hdd, ok, q⟩ := h
  have hu64 := hr.units
  obtain ⟨qs, h5, h6, h7⟩ := hdd.ti (K := K)
  refine ⟨_, (pss_cons (ps_if (pt_not (pt_chain op_le op_le pe_int (pe_callB (call_lenK K rfl) (by rfl) B.len (by decide +kernel) (pa_cons (pv 0) pa_nil)) (pe_gI Kc.MOST_LEAVES))) (pss_one ps_never)
      pss_nil)
      (pss_cons (ps_if (pt_cmpR op_gt (pe_callB (call_lenK K rfl) (by rfl) B.len (by decide +kernel) (pa_cons (pv 1) pa_nil)) (pe_gI Kc.MOST_DAYS) (nomark _)) (pss_one ps_never)
      pss_nil)
      (pss_cons (ps_for PassesOwn.never rfl (pi_enumT (by rfl) B.enumerate (pa_cons (pv 1) pa_nil)) (pg_tup rfl (pgs_cons (pg_name (i := 2) sc_made_calendar.nd rfl (Or.inl rfl)) (pgs_cons (pg_name (i := 3) sc_made_calendar.nd rfl (Or.inl rfl)) pgs_nil)))
      (pss_one (ps_if (PW.pt (pw_or (pt_cmpR (op_eqDK K rfl hu64) (pv 3) (pe_tup pa_nil) (nomark _)) (pw_or1 (pt_not (pt_val (pe_ca c_is_pattern b_is_pattern hr ps0 (pa_cons (pv 3) pa_nil))))))) (pss_one ps_never)
      pss_nil)))
      (pss_cons (ps_for PassesOwn.never rfl (pi_enumT (by rfl) B.enumerate (pa_cons (pv 0) pa_nil)) (pg_tup rfl (pgs_cons (pg_name (i := 4) sc_made_calendar.nd rfl (Or.inl rfl)) (pgs_cons (pg_name (i := 5) sc_made_calendar.nd rfl (Or.inl rfl)) pgs_nil)))
      (pss_one (ps_if (pt_not (pt_val (pe_ca c_is_from_to b_is_from_to hr ps0 (pa_cons (pv 5) (pa_cons pe_int (pa_cons (pe_callB (call_lenK K rfl) (by rfl) B.len (by decide +kernel) (pa_cons (pv 1) pa_nil)) pa_nil)))))) (pss_one ps_never)
      pss_nil)))
      (pss_cons (ps_expr (pe_ca c_ask_lines b_ask_lines hr ps0 (pa_cons (pv 0) (pa_cons (pv 1) pa_nil))))
      (pss_one (ps_ret (pe_make T.mkC G_Calendar (hr.mono (by decide)) (by rfl) T.mgC Bi_Calendar .nil passL (pa_cons (pv 0) (pa_cons (pv 1) pa_nil)))))))))), ?_⟩
  have n1 := ok.n1
  have n12 := ok.n12
  have m11 := ok.m11
  refine ⟨_, rfl, b, _, rfl, .inr hb.sq, _, _, rfl, rfl, _, rfl, ?_⟩
  refine iteTd (c := decide ((1 : Int) ≤ ((bs.map V.int).length : Nat))) (by simp; omega) ⟨_, _, rfl, rfl, _, rfl, ?_⟩
  refine iteFd (c := !decide ((((bs.map V.int).length : Nat) : Int) ≤ 12)) (by simp; omega) ?_
  refine ⟨_, rfl, dd, _, rfl, .inr h5, _, _, rfl, rfl, _, rfl, ?_⟩
  refine iteFd (c := decide ((11 : Int) < ((qs.map V.ref).length : Nat))) (by simp; omega) ?_
  refine ⟨_, rfl, dd, _, rfl, h5, for_it (walk_enumT (xs := qs.map V.ref)) (fun i σ H' => Same H H' ∧ ∃ x y z u, σ = [some (.ref b), some (.ref dd), x, y, z, u]) ⟨Same.refl _, none, none, none, none, rfl⟩ (fun i σ H' _ p => Same.seqT p.1 h5) ?_ ?_⟩
  · rintro i x σ H1 H2 hi ⟨s1, x', y', z', u', rfl⟩ ⟨T0, u, v, rfl, hT, rfl, hu, hv⟩
    cases hu
    obtain ⟨z, hz, rfl⟩ := map_of hv
    have hi' : i < ds.length := by
      have := (List.getElem?_eq_some_iff.mp hz).1
      omega
    have hds : ds[i]? = some ds[i] := by simp
    have hp := ok.pat ds[i] (List.getElem_mem _)
    have s2 : Same H (upd H1 T0 (.tup [.int (i : Nat), .ref z])) := Same.mut s1 (same_back s1 hT)
    refine ⟨T0, _, rfl, SqT.of upd_same, rfl, _, _, rfl, _, _, rfl, rfl, ?_⟩
    refine ⟨_, rfl, Nat.zero_le _, fun p hp0 => ?_⟩
    have s3 := s2.trans (Same.new (o := .tup []) hp0)
    refine ⟨_, _, dp_tup ((h7 i z _ hz hds).same s3), .tup (SqT.of upd_same) .nil, shaped_tup _, shaped_tup [], _, rfl, ?_⟩
    refine iteFd (by rw [show (PyData.tuple []) = .tuple (([] : List Int).map PyData.int) from rfl, eqv_tup]; exact decide_eq_false hp.2.1) ?_
    refine ⟨_, rfl, z, ds[i], rfl, (h7 i z _ hz hds).same s3, hp.2.2, fun H4 s4 => ⟨_, rfl, ?_⟩⟩
    exact iteFd (by rw [hp.1]; rfl) ⟨s3.trans s4, _, _, _, _, rfl⟩
  · rintro σ H1 ⟨s1, x', y', z', u', rfl⟩
    refine ⟨_, rfl, b, _, rfl, Same.seqT s1 hb.sq, for_it (walk_enumT (xs := bs.map V.int)) (fun i σ H' => Same H H' ∧ ∃ x y z u, σ = [some (.ref b), some (.ref dd), x, y, z, u]) ⟨s1, _, _, _, _, rfl⟩ (fun i σ H' _ p => Same.seqT p.1 hb.sq) ?_ ?_⟩
    · rintro i x σ H1 H2 hi ⟨s1, x', y', z', u', rfl⟩ ⟨T0, u, v, rfl, hT, rfl, hu, hv⟩
      cases hu
      obtain ⟨z, hz, rfl⟩ := map_of hv
      have hz2 := ok.born z (List.mem_of_getElem? hz)
      have s2 : Same H (upd H1 T0 (.tup [.int (i : Nat), .int z])) := Same.mut s1 (same_back s1 hT)
      refine ⟨T0, _, rfl, SqT.of upd_same, rfl, _, _, rfl, _, _, rfl, rfl, ?_⟩
      refine ⟨_, rfl, _, rfl, dd, _, rfl, .inr (Same.seqT s2 h5), z, 0, _, rfl, _, rfl, ?_⟩
      exact iteFd (by simp; omega) ⟨s2, _, _, _, _, rfl⟩
    · rintro σ H2 ⟨s2, x', y', z', u', rfl⟩
      refine ⟨_, rfl, _, rfl, b, dd, bs, ds, rfl, hb.same s2, (hdd.same s2).ti, ok, fun H3 s3 => ?_⟩
      refine ⟨_, rfl, _, rfl, fun x dx hx hdx hne => ⟨x, dx, .ref b, .ref dd, rfl, upd_same, rfl, ?_⟩⟩
      have s4 := s2.trans s3
      have s5 : Same H (upd (upd (upd H3 dx (.own x)) x (.ins C dx [])) x (.ins C dx (calF (.ref b) (.ref dd)))) := Same.mut (Same.mut (Same.mut s4 (same_back s4 hdx)) (same_back s4 hx)) (same_back s4 hx)
      exact q x _ (same_back s4 hx) s5 ⟨dx, b, dd, _, upd_same, calF_born _ _, calF_days _ _, hb.same s5, hdd.same s5⟩
end
end DK
set_option Elab.async false
set_option linter.all false
set_option maxRecDepth 100000
set_option maxHeartbeats 4000000
namespace DK
open PySem PySem.Spec PyProof.Rows L2 RZ DL
abbrev s_law_pattern : Stmt := topS 32
abbrev N_law_pattern : List Str := ["_law_source", "_law_alive", "_law_first", "_law_second"]
theorem sc_law_pattern : FnScope N_law_pattern ["_law_source", "_law_alive"] (defScope s_law_pattern) := ⟨rfl, rfl, rfl, by decide +kernel, rfl, by decide +kernel, by decide +kernel⟩
theorem b_law_pattern : BindOk "_law_pattern" s_law_pattern ["_law_source", "_law_alive"] := fun _ _ _ _ _ _ us hl => match us, hl with | [_, _], _ => rfl

section
variable {P : Program} {w : World} {K : PySem.W.Frag} {mg : Str → Option Value} {base : Heap} {C f0 fC CM fR : Addr}
def spPattern : Sp := fun vs H Q _ => ∃ (a : Addr) (k : Int), vs = [.ref a, .int k] ∧ Src a H ∧ 2 ≤ k ∧ k ≤ 12 ∧ ∀ (q : Addr) (ps : List Int) H', Stay a H H' → TupD H' q (ps.map V.int) → patB ps = true → ps ≠ [] → ps.length ≤ 2 → ps.sum ≤ k → Q (.ref q) H'
theorem ca_pattern (B : Bl mg) (c_law_take : Ca P w K mg base 1 "_law_take" s_law_take ["_law_source", "_law_top"] spTake) (c_law_one : Ca P w K mg base 2 "_law_one" s_law_one ["_law_source", "_law_things"] spOne) (U : Up K mg "_law_pattern" s_law_pattern) :
    Ca P w K mg base 3 "_law_pattern" s_law_pattern ["_law_source", "_law_alive"] spPattern := by
  refine ca0 U sc_law_pattern (fun vs H Q E h => by obtain ⟨a, k, rfl, _⟩ := h; rfl) fun f cdv A outer s H vs Q E hr h => ?_
  obtain ⟨a, k, rfl, hs, k2, k12, q⟩ := h
  refine ⟨_, (pss_cons (ps_set (i := 2) sc_law_pattern.nd rfl (Or.inl rfl) (pe_op op_add pe_int (pe_ca c_law_take b_law_take hr ps0 (pa_cons (pv 0) (pa_cons (pe_ca c_law_one b_law_one hr ps0 (pa_cons (pv 0) (pa_cons (pe_lst (pa_cons pe_int (pa_cons pe_int (pa_cons (pe_op op_sub (pv 1) pe_int) pa_nil)))) pa_nil))) pa_nil)))))
      (pss_cons (ps_if (PW.pt (pw_and (pt_cmpR op_gt (pe_op op_sub (pv 1) (pv 2)) pe_int (nomark _)) (pw_and1 (pt_cmpR op_eq (pe_ca c_law_take b_law_take hr ps0 (pa_cons (pv 0) (pa_cons pe_int pa_nil))) pe_int (nomark _))))) (pss_cons (ps_set (i := 3) sc_law_pattern.nd rfl (Or.inl rfl) (pe_op op_add pe_int (pe_ca c_law_take b_law_take hr ps0 (pa_cons (pv 0) (pa_cons (pe_op op_sub (pe_op op_sub (pv 1) (pv 2)) pe_int) pa_nil)))))
      (pss_one (ps_ret (pe_tupD (pa_cons (pe_callB (call_max2 rfl) (by rfl) B.max (by decide +kernel) (pa_cons (pv 2) (pa_cons (pv 3) pa_nil))) (pa_cons (pe_callB (call_min2 rfl) (by rfl) B.min (by decide +kernel) (pa_cons (pv 2) (pa_cons (pv 3) pa_nil))) pa_nil))))))
      pss_nil)
      (pss_one (ps_ret (pe_tupD (pa_cons (pv 2) pa_nil)))))), ?_⟩
  refine ⟨_, rfl, _, rfl, _, rfl, _, _, rfl, rfl, (by show 3 ≤ sizeLine; decide), fun l hl => ?_⟩
  have sl := Same.new (o := .lst [.int 1, .int 1, .int (k - 1)]) hl
  refine ⟨a, l, _, rfl, hs.same sl, upd_same, hs.ne_none hl, (by show 0 < 3; decide), (by show 3 < 1000; decide), fun v H1 hv st1 => ?_⟩
  have hv2 : ∃ z : Int, v = .int z ∧ 1 ≤ z ∧ z ≤ k - 1 := by
    simp at hv
    rcases hv with rfl | rfl
    · exact ⟨1, rfl, by omega, by omega⟩
    · exact ⟨_, rfl, by omega, by omega⟩
  obtain ⟨z, rfl, z1, zk⟩ := hv2
  have st01 : Stay a H H1 := (Stay.of_same hs sl).trans st1
  refine ⟨a, z, rfl, st1.1, by omega, by omega, fun r H2 r0 r1 st2 => ⟨_, _, rfl, rfl, ?_⟩⟩
  have st02 := st01.trans st2
  have one : ∀ H3, Stay a H H3 → tRet (tTupD (tCons (tVar 2) tNil)) { nx := fun _ H' => Q .non H', rt := Q } [some (.ref a), some (.int k), some (.int (2 + r)), none] H3 := by
    intro H3 st3
    refine ⟨_, rfl, (by show 1 ≤ sizeLine; decide), fun p H4 s4 dp => ?_⟩
    refine q p [2 + r] H4 (st3.same s4) dp ?_ (by simp) (by simp) (by simp; omega)
    simp [patB]
    omega
  refine ⟨_, rfl, _, rfl, _, _, rfl, rfl, _, _, rfl, rfl, _, rfl, ?_⟩
  refine ite2 (fun h1 => ?_) (fun h1 => ?_)
  · have h1' : 1 < k - (2 + r) := by simpa using h1
    refine ⟨_, rfl, a, 3, rfl, st2.1, by decide, by decide, fun u H3 u0 u1 st3 => ⟨rfl, _, rfl, ?_⟩⟩
    refine ite2 (fun h2 => ?_) (fun h2 => one H3 (st02.trans st3))
    refine ⟨_, rfl, _, rfl, _, rfl, _, _, rfl, rfl, _, _, rfl, rfl, a, _, rfl, st3.1, by omega, by omega, fun y H4 y0 y1 st4 => ⟨_, _, rfl, rfl, ?_⟩⟩
    refine ⟨_, rfl, _, rfl, _, _, rfl, _, rfl, _, rfl, _, _, rfl, (by show 2 ≤ sizeLine; decide), fun p H5 s5 dp => ?_⟩
    refine q p [(if 2 + y > 2 + r then 2 + y else 2 + r), (if 2 + y < 2 + r then 2 + y else 2 + r)] H5 (((st02.trans st3).trans st4).same s5) dp ?_ (by simp) (by simp) ?_
    · simp [patB]
      constructor
      · constructor <;> split <;> omega
      · split <;> split <;> omega
    · simp
      split <;> split <;> omega
  · exact iteF (one H2 st02)
end
end DK
set_option Elab.async false
set_option linter.all false
set_option maxRecDepth 100000
set_option maxHeartbeats 4000000
namespace DK
open PySem PySem.Spec PyProof.Rows L2 RZ DL
abbrev s_law_drawn : Stmt := topS 33
abbrev N_law_drawn : List Str := ["_law_source", "_law_most", "_law_n", "_law_left", "_law_alive", "_law_births", "_law_days", "_law_late", "_law_turn", "_law_more", "_law_pattern_here", "_law_born"]
theorem sc_law_drawn : FnScope N_law_drawn ["_law_source", "_law_most"] (defScope s_law_drawn) := ⟨rfl, rfl, rfl, by decide +kernel, rfl, by decide +kernel, by decide +kernel⟩
theorem b_law_drawn : BindOk "_law_drawn" s_law_drawn ["_law_source", "_law_most"] := fun _ _ _ _ _ _ us hl => match us, hl with | [_, _], _ => rfl

section
variable {P : Program} {w : World} {K : PySem.W.Frag} {mg : Str → Option Value} {base : Heap} {C f0 fC CM fR : Addr}
def spDrawn (K : PySem.W.Frag) : Sp := fun vs H Q _ => ∃ (a : Addr) (m : Int), vs = [.ref a, .int m] ∧ Src a H ∧ 1 ≤ m ∧ m ≤ 6 ∧ ∀ t b d bs ds H', Stay a H H' → H' t = some (.tup [.ref b, .ref d]) → TupD H' b (bs.map V.int) → TupTD H' d ds → CalOk bs ds → bs.length ≤ 6 → ds.length ≤ 6 → Q (.ref t) H'
theorem ca_drawn (B : Bl mg) (c_law_take : Ca P w K mg base 1 "_law_take" s_law_take ["_law_source", "_law_top"] spTake) (c_law_one : Ca P w K mg base 2 "_law_one" s_law_one ["_law_source", "_law_things"] spOne)
    (c_law_pattern : Ca P w K mg base 3 "_law_pattern" s_law_pattern ["_law_source", "_law_alive"] spPattern) (U : Up K mg "_law_drawn" s_law_drawn) : Ca P w K mg base 4 "_law_drawn" s_law_drawn ["_law_source", "_law_most"] (spDrawn K) := by
  refine ca0 U sc_law_drawn (fun vs H Q E h => by obtain ⟨a, m, rfl, _⟩ := h; rfl) fun f cdv A outer s H vs Q E hr h => ?_
  obtain ⟨a, m, rfl, hs, m1, m6, q⟩ := h
  have hu64 := hr.units
  refine ⟨_, (pss_cons (ps_set (i := 2) sc_law_drawn.nd rfl (Or.inl rfl) (pe_callB (call_min2 rfl) (by rfl) B.min (by decide +kernel) (pa_cons (pv 1) (pa_cons (pe_ca c_law_one b_law_one hr ps0 (pa_cons (pv 0) (pa_cons (pe_lst (pa_cons pe_int (pa_cons pe_int (pa_cons pe_int (pa_cons pe_int (pa_cons pe_int (pa_cons pe_int (pa_cons pe_int (pa_cons pe_int (pa_cons pe_int (pa_cons pe_int pa_nil))))))))))) pa_nil))) pa_nil))))
      (pss_cons (ps_asg (pe_tup (pa_cons (pv 2) (pa_cons pe_int (pa_cons (pe_lst pa_nil) (pa_cons (pe_lst pa_nil) pa_nil))))) (pg_tup rfl (pgs_cons (pg_name (i := 3) sc_law_drawn.nd rfl (Or.inl rfl)) (pgs_cons (pg_name (i := 4) sc_law_drawn.nd rfl (Or.inl rfl)) (pgs_cons (pg_name (i := 5) sc_law_drawn.nd rfl (Or.inl rfl)) (pgs_cons (pg_name (i := 6) sc_law_drawn.nd rfl (Or.inl rfl)) pgs_nil))))))
      (pss_cons (ps_set (i := 7) sc_law_drawn.nd rfl (Or.inl rfl) (pe_cmpR op_gt (pe_ca c_law_take b_law_take hr ps0 (pa_cons (pv 0) (pa_cons pe_int pa_nil))) pe_int (nomark _)))
      (pss_cons (ps_for PassesOwn.never rfl (pi_range1 (by rfl) B.range (pa_cons (pv 2) pa_nil)) (pg_name (i := 8) sc_law_drawn.nd rfl (Or.inl rfl))
      (Evl.pss_cut (ps_set (i := 9) sc_law_drawn.nd rfl (Or.inl rfl) (pe_callB (call_min2 rfl) (by rfl) B.min (by decide +kernel) (pa_cons (pv 3) (pa_cons (pe_ifExp (pt_val (pv 7)) (pe_ca c_law_one b_law_one hr ps0 (pa_cons (pv 0) (pa_cons (pe_lst (pa_cons (pv 3) (pa_cons pe_int (pa_cons pe_int (pa_cons pe_int pa_nil))))) pa_nil))) (pv 3)) pa_nil))))
      (Evl.pss_cut (ps_if (pt_cmpR op_eq (pv 8) pe_int (nomark _)) (pss_one (ps_set (i := 9) sc_law_drawn.nd rfl (Or.inl rfl) (pe_callB (call_max2 rfl) (by rfl) B.max (by decide +kernel) (pa_cons (pv 9) (pa_cons (pe_callB (call_min2 rfl) (by rfl) B.min (by decide +kernel) (pa_cons (pv 3) (pa_cons pe_int pa_nil))) pa_nil)))))
      pss_nil)
      (pss_cons (ps_par3 (i := 5) (j := 3) (l := 4) (by rfl) sc_law_drawn.nd rfl rfl rfl (by decide) (by decide) (by decide) rfl rfl rfl (pa_cons (pe_op op_cat (pv 5) (pe_op op_rep (pe_lst (pa_cons (pe_callB (call_lenK K rfl) (by rfl) B.len (by decide +kernel) (pa_cons (pv 6) pa_nil)) pa_nil)) (pv 9))) (pa_cons (pe_op op_sub (pv 3) (pv 9)) (pa_cons (pe_op op_add (pv 4) (pv 9)) pa_nil))) (by rfl))
      (pss_one (ps_if (PW.pt (pw_and (pt_cmpR op_gt (pv 4) pe_int (nomark _)) (pw_and1 (PW.pt (pw_or (pt_cmpR op_gt (pe_ca c_law_take b_law_take hr ps0 (pa_cons (pv 0) (pa_cons pe_int pa_nil))) pe_int (nomark _)) (pw_or1 (PW.pt (pw_and (pt_cmpR op_gt (pv 3) pe_int (nomark _)) (pw_and1 (pt_cmpR op_lt (pv 8) pe_int (nomark _))))))))))) (pss_cons (ps_set (i := 10) sc_law_drawn.nd rfl (Or.inl rfl) (pe_ca c_law_pattern b_law_pattern hr ps0 (pa_cons (pv 0) (pa_cons (pv 4) pa_nil))))
      (pss_cons (ps_expr (pe_bm PySem.F.plainAttrs_list PySem.F.slot_list_append PySem.F.type_list_append mt_append (pv 6) (pa_cons (pv 10) pa_nil)))
      (pss_one (ps_set (i := 4) sc_law_drawn.nd rfl (Or.inl rfl) (pe_op op_add (pe_op op_sub (pv 4) (pe_callB (cr_sumTK K rfl rfl) (by rfl) B.sum (by decide +kernel) (pa_cons (pv 10) pa_nil))) (pe_callB (call_lenK K rfl) (by rfl) B.len (by decide +kernel) (pa_cons (pv 10) pa_nil)))))))
      pss_nil))))))
      (pss_cons (ps_set (i := 5) sc_law_drawn.nd rfl (Or.inl rfl) (pe_op op_cat (pv 5) (pe_op op_rep (pe_lst (pa_cons (pe_callB (call_lenK K rfl) (by rfl) B.len (by decide +kernel) (pa_cons (pv 6) pa_nil)) pa_nil)) (pv 3))))
      (pss_cons (ps_set (i := 11) sc_law_drawn.nd rfl (Or.inl rfl) (pe_lst pa_nil))
      (pss_cons (ps_for PassesOwn.never rfl (pi_range1 (by rfl) B.range (pa_cons (pv 2) pa_nil)) (pg_name (i := 8) sc_law_drawn.nd rfl (Or.inl rfl))
      (pss_one (ps_expr (pe_bm PySem.F.plainAttrs_list PySem.F.slot_list_append PySem.F.type_list_append mt_append (pv 11) (pa_cons (pe_bmK K rfl PySem.F.plainAttrs_list PySem.F.slot_list_pop PySem.F.type_list_pop mt_popAt (pv 5) (pa_cons (pe_ca c_law_take b_law_take hr ps0 (pa_cons (pv 0) (pa_cons (pe_callB (call_lenK K rfl) (by rfl) B.len (by decide +kernel) (pa_cons (pv 5) pa_nil)) pa_nil))) pa_nil)) pa_nil)))))
      (pss_one (ps_ret (pe_tup (pa_cons (pe_callTy call_tuple_D (by rfl) B.tuple (by decide +kernel) (pa_cons (pv 11) pa_nil)) (pa_cons (pe_callTy call_tuple_D (by rfl) B.tuple (by decide +kernel) (pa_cons (pv 6) pa_nil)) pa_nil)))))))))))), ?_⟩
  refine ⟨_, rfl, _, rfl, (by show 10 ≤ sizeLine; decide), fun l hl => ?_⟩
  have sl := Same.new (o := .lst [.int 1, .int 2, .int 3, .int 3, .int 4, .int 4, .int 4, .int 5, .int 5, .int 6]) hl
  refine ⟨a, l, _, rfl, hs.same sl, upd_same, hs.ne_none hl, (by show 0 < 10; decide), (by show 10 < 1000; decide), fun v H1 hv st1 => ?_⟩
  have hv2 : ∃ z : Int, v = .int z ∧ 1 ≤ z ∧ z ≤ 6 := by
    simp at hv
    rcases hv with rfl | rfl | rfl | rfl | rfl | rfl
    · exact ⟨1, rfl, by omega, by omega⟩
    · exact ⟨2, rfl, by omega, by omega⟩
    · exact ⟨3, rfl, by omega, by omega⟩
    · exact ⟨4, rfl, by omega, by omega⟩
    · exact ⟨5, rfl, by omega, by omega⟩
    · exact ⟨6, rfl, by omega, by omega⟩
  obtain ⟨z, rfl, z1, z6⟩ := hv2
  have st01 : Stay a H H1 := (Stay.of_same hs sl).trans st1
  refine ⟨_, _, rfl, ?_⟩
  have hn : 1 ≤ (if z < m then z else m) ∧ (if z < m then z else m) ≤ 6 := by split <;> omega
  generalize (if z < m then z else m) = n at hn
  obtain ⟨n1, n6⟩ := hn
  refine ⟨_, rfl, Nat.zero_le _, fun L0 hL0 => ⟨Nat.zero_le _, fun R hR => ⟨(by show 4 ≤ sizeLine; decide), fun t0 ht0 => ?_⟩⟩⟩
  have sL := Same.new (o := .lst []) hL0
  have sR := Same.new (o := .lst []) hR
  have sT := Same.new (o := .tup [.int n, .int 0, .ref L0, .ref R]) ht0
  refine ⟨t0, _, rfl, SqT.of upd_same, rfl, _, _, rfl, _, _, rfl, _, _, rfl, _, _, rfl, rfl, ?_⟩
  have st4 := st01.same ((sL.trans sR).trans sT)
  have hR0 : H R = none := (st01.same sL).none hs hR
  have hL4 : (upd (upd (upd H1 L0 (.lst [])) R (.lst [])) t0 (.tup [.int n, .int 0, .ref L0, .ref R])) L0 = some (.lst []) := sT _ _ (sR _ _ upd_same)
  have hR4 : (upd (upd (upd H1 L0 (.lst [])) R (.lst [])) t0 (.tup [.int n, .int 0, .ref L0, .ref R])) R = some (.lst []) := sT _ _ upd_same
  generalize upd (upd (upd H1 L0 (.lst [])) R (.lst [])) t0 (.tup [.int n, .int 0, .ref L0, .ref R]) = H4 at st4 hL4 hR4 ⊢
  have hRa : R ≠ a := hs.ne_none hR0
  have hL0a : L0 ≠ a := st01.1.ne_none hL0
  have hLR : L0 ≠ R := fun z => by
    rw [← z, upd_same] at hR
    cases hR
  refine ⟨_, rfl, a, 3, rfl, st4.1, by decide, by decide, fun late H5 la0 la1 st5 => ⟨_, _, rfl, rfl, ?_⟩⟩
  refine ⟨_, rfl, n, rfl, by omega, by omega, for_range (lo := 0) (n := n.toNat) (fun i σ H' => ∃ (L : Addr) (B : List Int) (ds : List (List Int)) (qs : List Addr) (left alive : Int) (x8 x9 x10 : Option V), σ = [some (.ref a), some (.int m), some (.int n), some (.int left), some (.int alive), some (.ref L), some (.ref R), some (.bl (decide (0 < late))), x8, x9, x10, none] ∧
    Stay a H H' ∧ L ≠ a ∧ L ≠ R ∧ H' L = some (.lst (B.map V.int)) ∧ H' R = some (.lst (qs.map V.ref)) ∧ RowsD H' qs ds ∧ DrawnB B ds ∧ left = n - B.length ∧ 0 ≤ left ∧ alive = aliveB B ds ∧ ds.length ≤ i) ⟨L0, [], [], [], n, 0, none, none, none, rfl, st4.trans st5, hL0a, hLR, st5.2 _ _ hL0a hL4, st5.2 _ _ hRa hR4, ⟨rfl, (fun i q ns h => nomatch h)⟩, DrawnB.nil, by simp, by omega, rfl, Nat.zero_le _⟩ ?_ ?_⟩
  · rintro i σ H6 hi ⟨L, B, ds, qs, left, alive, x8, x9, x10, rfl, st6, hLa, hLR6, hL6, hR6, hq6, dr, el, l0, ea, hdl⟩
    have hi6 : i < 6 := by omega
    have hBl : (B.length : Int) ≤ 6 := by omega
    have hqd := hq6.1
    -- how many come
    have e0i : (0 : Int) + (i : Nat) = ((i : Nat) : Int) := by omega
    rw [e0i]
    refine ⟨fun σ' H' => ∃ more : Int, σ' = [some (.ref a), some (.int m), some (.int n), some (.int left), some (.int alive), some (.ref L), some (.ref R), some (.bl (decide (0 < late))), some (.int (i : Nat)), some (.int more), x10, none] ∧ Stay a H6 H' ∧ 0 ≤ more ∧ more ≤ left, ?_, ?_⟩
    · refine ⟨_, rfl, _, rfl, _, rfl, ?_⟩
      refine ite2 (fun h1 => ?_) (fun h1 => ?_)
      · refine ⟨_, rfl, _, rfl, (by show 4 ≤ sizeLine; decide), fun l2 hl2 => ?_⟩
        have sl2 := Same.new (o := .lst [.int left, .int 1, .int 2, .int 0]) hl2
        refine ⟨a, l2, _, rfl, st6.1.same sl2, upd_same, st6.1.ne_none hl2, (by show 0 < 4; decide), (by show 4 < 1000; decide), fun v H7 hv st7 => ?_⟩
        have hv2 : ∃ z : Int, v = .int z ∧ 0 ≤ z := by
          simp at hv
          rcases hv with rfl | rfl | rfl | rfl
          · exact ⟨_, rfl, l0⟩
          · exact ⟨1, rfl, by omega⟩
          · exact ⟨2, rfl, by omega⟩
          · exact ⟨0, rfl, by omega⟩
        obtain ⟨z, rfl, z0⟩ := hv2
        exact ⟨_, _, rfl, _, rfl, (Stay.of_same st6.1 sl2).trans st7, by split <;> omega, by split <;> omega⟩
      · exact ⟨_, rfl, _, _, rfl, _, rfl, Stay.refl st6.1, by split <;> omega, by split <;> omega⟩
    · rintro σ' H7 ⟨more, rfl, st7, mo0, mol⟩
      refine ⟨fun σ' H' => ∃ more : Int, σ' = [some (.ref a), some (.int m), some (.int n), some (.int left), some (.int alive), some (.ref L), some (.ref R), some (.bl (decide (0 < late))), some (.int (i : Nat)), some (.int more), x10, none] ∧ Stay a H6 H' ∧ 0 ≤ more ∧ more ≤ left, ?_, ?_⟩
      · refine ⟨_, rfl, rfl, _, rfl, ?_⟩
        refine ite2 (fun h1 => ?_) (fun h1 => ?_)
        · exact ⟨_, rfl, _, rfl, _, _, rfl, _, _, rfl, _, rfl, st7, by split <;> split <;> omega, by split <;> split <;> omega⟩
        · exact ⟨_, rfl, st7, mo0, mol⟩
      · rintro σ' H8 ⟨more, rfl, st8, mo0, mol⟩
        have hL8 := st8.2 _ _ hLa hL6
        have hR8 := st8.2 _ _ hRa hR6
        have hq8 := hq6.tk (TK.stay st6.1 st8)
        refine ⟨_, rfl, _, rfl, R, _, rfl, .inl (SqL.of hR8), (by show 1 ≤ sizeLine; decide), fun l3 hl3 => ?_⟩
        have sl3 := Same.new (o := .lst [.int ((qs.map V.ref).length : Nat)]) hl3
        refine ⟨_, rfl, l3, more, _, rfl, rfl, upd_same, by omega, by omega, ?_, fun l4 hl4 => ?_⟩
        · have h9 : [V.int ((qs.map V.ref).length : Nat)].length * more.toNat ≤ 100 := by
            simp
            omega
          exact Nat.le_trans h9 (by decide)
        have sl4 := Same.new (o := .lst (List.replicate more.toNat [V.int ((qs.map V.ref).length : Nat)]).flatten) hl4
        have erep : (List.replicate more.toNat [V.int ((qs.map V.ref).length : Nat)]).flatten = (List.replicate more.toNat ((ds.length : Nat) : Int)).map V.int := by
          rw [List.length_map, hqd]
          generalize more.toNat = k
          induction k with
          | zero => rfl
          | succ k ih => simp_all [List.replicate_succ]
        have s34 := sl3.trans sl4
        refine ⟨L, l4, _, _, rfl, rfl, s34 _ _ hL8, upd_same, ?_, fun L2 hL2 => ?_⟩
        · rw [erep, List.length_map, List.length_map, List.length_replicate]
          exact Nat.le_trans (show _ ≤ 100 by omega) (by decide)
        have sL2 := Same.new (o := .lst (B.map V.int ++ (List.replicate more.toNat [V.int ((qs.map V.ref).length : Nat)]).flatten)) hL2
        have s84 := s34.trans sL2
        have hL2v : (upd (upd (upd H8 l3 (.lst [.int ((qs.map V.ref).length : Nat)])) l4 (.lst (List.replicate more.toNat [V.int ((qs.map V.ref).length : Nat)]).flatten)) L2 (.lst (B.map V.int ++ (List.replicate more.toNat [V.int ((qs.map V.ref).length : Nat)]).flatten))) L2 = some (.lst ((B ++ List.replicate more.toNat ((ds.length : Nat) : Int)).map V.int)) := by
          rw [upd_same, erep, List.map_append]
        have hL20 : H8 L2 = none := same_back s34 hL2
        have hL2a : L2 ≠ a := st8.1.ne_none hL20
        have hL2R : L2 ≠ R := fun z => by
          rw [z, hR8] at hL20
          cases hL20
        have hR9 := s84 _ _ hR8
        have hq9 := hq8.same s84
        have st9 := (st6.trans st8).same s84
        generalize upd (upd (upd H8 l3 (.lst [.int ((qs.map V.ref).length : Nat)])) l4 (.lst (List.replicate more.toNat [V.int ((qs.map V.ref).length : Nat)]).flatten)) L2 (.lst (B.map V.int ++ (List.replicate more.toNat [V.int ((qs.map V.ref).length : Nat)]).flatten)) = H9 at s84 hL2v hR9 hq9 st9 ⊢
        have dr2 := dr.add more.toNat
        have hB2 : ((B ++ List.replicate more.toNat ((ds.length : Nat) : Int)).length : Int) = B.length + more := by
          simp
          omega
        have ea2 : alive + more = aliveB (B ++ List.replicate more.toNat ((ds.length : Nat) : Int)) ds := by
          rw [aliveB_add, ea]
          omega
        have hlenB : aliveB (B ++ List.replicate more.toNat ((ds.length : Nat) : Int)) ds ≤ 6 := by
          have h9 := less_nn fun p hp => (dr.pat p hp).1
          unfold aliveB
          omega
        generalize (B ++ List.replicate more.toNat ((ds.length : Nat) : Int)) = B2 at hL2v dr2 hB2 ea2 hlenB
        refine ⟨_, rfl, _, rfl, _, _, rfl, rfl, _, rfl, _, rfl, _, _, rfl, rfl, _, _, _, rfl, ?_⟩
        have skip : ∀ (x10' : Option V) (H10 : Hp), Stay a H H10 → H10 L2 = some (.lst (B2.map V.int)) → H10 R = some (.lst (qs.map V.ref)) → RowsD H10 qs ds → ∃ (L : Addr) (B : List Int) (ds' : List (List Int)) (qs' : List Addr) (left' alive' : Int) (y8 y9 y10 : Option V), [some (.ref a), some (.int m), some (.int n), some (.int (left - more)), some (.int (alive + more)), some (.ref L2), some (.ref R), some (.bl (decide (0 < late))), some (.int (i : Nat)), some (.int more), x10', none] = [some (.ref a), some (.int m), some (.int n), some (.int left'), some (.int alive'), some (.ref L), some (.ref R), some (.bl (decide (0 < late))), y8, y9, y10, none] ∧
            Stay a H H10 ∧ L ≠ a ∧ L ≠ R ∧ H10 L = some (.lst (B.map V.int)) ∧ H10 R = some (.lst (qs'.map V.ref)) ∧ RowsD H10 qs' ds' ∧ DrawnB B ds' ∧ left' = n - B.length ∧ 0 ≤ left' ∧ alive' = aliveB B ds' ∧ ds'.length ≤ i + 1 := fun x10' H10 g1 g2 g3 g4 => ⟨L2, B2, ds, qs, _, _, _, _, _, rfl, g1, hL2a, hL2R, g2, g3, g4, dr2, by omega, by omega, ea2, by omega⟩
        refine ⟨_, rfl, _, _, rfl, rfl, _, rfl, ?_⟩
        refine ite2 (fun h1 => ?_) (fun h1 => iteF (skip _ _ st9 hL2v hR9 hq9))
        have h1' : 1 < alive + more := by simpa using h1
        refine ⟨_, rfl, a, 6, rfl, st9.1, by decide, by decide, fun r H10 r0 r1 st10 => ⟨_, _, rfl, rfl, _, rfl, ?_⟩⟩
        refine ite2 (fun h2 => iteT ?_) (fun h2 => ?_)
        · skip
          have hL10 := st10.2 _ _ hL2a hL2v
          have hR10 := st10.2 _ _ hRa hR9
          have hq10 := hq9.tk (TK.stay st9.1 st10)
          refine ⟨_, rfl, _, rfl, a, alive + more, rfl, st10.1, by omega, by omega, fun qa ps H11 st11 dps pb pn pl psum => ?_⟩
          have hL11 := st11.2 _ _ hL2a hL10
          have hR11 := st11.2 _ _ hRa hR10
          have hq11 := hq10.tk (TK.stay st10.1 st11)
          refine ⟨_, rfl, .inl ⟨rfl, _, SqL.of hR11⟩, _, rfl, R, _, _, rfl, rfl, hR11, ?_, ?_⟩
          · rw [List.length_map]
            exact Nat.lt_of_lt_of_le (show qs.length < 100 by omega) (by decide)
          have tkR : TK H11 (upd H11 R (.lst (qs.map V.ref ++ [.ref qa]))) := TK.lst hR11
          have dps2 := dps.tk tkR
          have elp : (ps.map V.int).length = ps.length := by simp
          refine ⟨_, rfl, _, rfl, qa, ps, rfl, dps2.sq, _, _, rfl, rfl, _, rfl, qa, _, rfl, .inr dps2.sq, _, _, rfl, rfl, ?_⟩
          rw [elp]
          have dr3 := dr2.push pb pn (by omega) (by omega)
          refine ⟨L2, B2, ds ++ [ps], qs ++ [qa], _, _, _, _, _, rfl, (((st9.trans st10).trans st11)).mut hR0 hRa, hL2a, hL2R, ?_, ?_, ?_, dr3, by omega, by omega, ?_, by simp; omega⟩
          · rw [upd_ne hL2R]
            exact hL11
          · rw [upd_same, List.map_append]
            rfl
          · exact (hq11.tk tkR).app (RowsD.one dps2)
          · rw [aliveB_push]
            omega
        · refine ⟨_, rfl, _, _, rfl, rfl, _, rfl, ?_⟩
          refine ite2 (fun h3 => ?_) (fun h3 => iteF (skip _ _ (st9.trans st10) (st10.2 _ _ hL2a hL2v) (st10.2 _ _ hRa hR9) (hq9.tk (TK.stay st9.1 st10))))
          refine ⟨_, rfl, _, _, rfl, rfl, _, rfl, ?_⟩
          refine ite2 (fun h4 => ?_) (fun h4 => (skip _ _ (st9.trans st10) (st10.2 _ _ hL2a hL2v) (st10.2 _ _ hRa hR9) (hq9.tk (TK.stay st9.1 st10))))
          have hL10 := st10.2 _ _ hL2a hL2v
          have hR10 := st10.2 _ _ hRa hR9
          have hq10 := hq9.tk (TK.stay st9.1 st10)
          refine ⟨_, rfl, _, rfl, a, alive + more, rfl, st10.1, by omega, by omega, fun qa ps H11 st11 dps pb pn pl psum => ?_⟩
          have hL11 := st11.2 _ _ hL2a hL10
          have hR11 := st11.2 _ _ hRa hR10
          have hq11 := hq10.tk (TK.stay st10.1 st11)
          refine ⟨_, rfl, .inl ⟨rfl, _, SqL.of hR11⟩, _, rfl, R, _, _, rfl, rfl, hR11, ?_, ?_⟩
          · rw [List.length_map]
            exact Nat.lt_of_lt_of_le (show qs.length < 100 by omega) (by decide)
          have tkR : TK H11 (upd H11 R (.lst (qs.map V.ref ++ [.ref qa]))) := TK.lst hR11
          have dps2 := dps.tk tkR
          have elp : (ps.map V.int).length = ps.length := by simp
          refine ⟨_, rfl, _, rfl, qa, ps, rfl, dps2.sq, _, _, rfl, rfl, _, rfl, qa, _, rfl, .inr dps2.sq, _, _, rfl, rfl, ?_⟩
          rw [elp]
          have dr3 := dr2.push pb pn (by omega) (by omega)
          refine ⟨L2, B2, ds ++ [ps], qs ++ [qa], _, _, _, _, _, rfl, (((st9.trans st10).trans st11)).mut hR0 hRa, hL2a, hL2R, ?_, ?_, ?_, dr3, by omega, by omega, ?_, by simp; omega⟩
          · rw [upd_ne hL2R]
            exact hL11
          · rw [upd_same, List.map_append]
            rfl
          · exact (hq11.tk tkR).app (RowsD.one dps2)
          · rw [aliveB_push]
            omega
  · rintro σ H6 ⟨L, B, ds, qs, left, alive, x8, x9, x10, rfl, st6, hLa, hLR6, hL6, hR6, hq6, dr, el, l0, ea, hdl⟩
    have hdl6 : ds.length ≤ 6 := by omega
    have hBl : (B.length : Int) ≤ 6 := by omega
    have hqd := hq6.1
    refine ⟨_, rfl, _, rfl, R, _, rfl, .inl (SqL.of hR6), (by show 1 ≤ sizeLine; decide), fun l3 hl3 => ?_⟩
    have sl3 := Same.new (o := .lst [.int ((qs.map V.ref).length : Nat)]) hl3
    refine ⟨_, rfl, l3, left, _, rfl, rfl, upd_same, by omega, by omega, ?_, fun l4 hl4 => ?_⟩
    · have h9 : [V.int ((qs.map V.ref).length : Nat)].length * left.toNat ≤ 100 := by
        simp
        omega
      exact Nat.le_trans h9 (by decide)
    have sl4 := Same.new (o := .lst (List.replicate left.toNat [V.int ((qs.map V.ref).length : Nat)]).flatten) hl4
    have erep : (List.replicate left.toNat [V.int ((qs.map V.ref).length : Nat)]).flatten = (List.replicate left.toNat ((ds.length : Nat) : Int)).map V.int := by
      rw [List.length_map, hqd]
      generalize left.toNat = k
      induction k with
      | zero => rfl
      | succ k ih => simp_all [List.replicate_succ]
    have s34 := sl3.trans sl4
    refine ⟨L, l4, _, _, rfl, rfl, s34 _ _ hL6, upd_same, ?_, fun L2 hL2 => ?_⟩
    · rw [erep, List.length_map, List.length_map, List.length_replicate]
      exact Nat.le_trans (show _ ≤ 100 by omega) (by decide)
    have sL2 := Same.new (o := .lst (B.map V.int ++ (List.replicate left.toNat [V.int ((qs.map V.ref).length : Nat)]).flatten)) hL2
    have s84 := s34.trans sL2
    have hL2v : (upd (upd (upd H6 l3 (.lst [.int ((qs.map V.ref).length : Nat)])) l4 (.lst (List.replicate left.toNat [V.int ((qs.map V.ref).length : Nat)]).flatten)) L2 (.lst (B.map V.int ++ (List.replicate left.toNat [V.int ((qs.map V.ref).length : Nat)]).flatten))) L2 = some (.lst ((B ++ List.replicate left.toNat ((ds.length : Nat) : Int)).map V.int)) := by
      rw [upd_same, erep, List.map_append]
    have hL26 : H6 L2 = none := same_back s34 hL2
    have hL20 : H L2 = none := st6.none hs hL26
    have hL2a : L2 ≠ a := hs.ne_none hL20
    have hL2R : L2 ≠ R := fun z => by
      rw [z, hR6] at hL26
      cases hL26
    have hR9 := s84 _ _ hR6
    have hq9 := hq6.same s84
    have st9 := st6.same s84
    generalize upd (upd (upd H6 l3 (.lst [.int ((qs.map V.ref).length : Nat)])) l4 (.lst (List.replicate left.toNat [V.int ((qs.map V.ref).length : Nat)]).flatten)) L2 (.lst (B.map V.int ++ (List.replicate left.toNat [V.int ((qs.map V.ref).length : Nat)]).flatten)) = H9 at s84 hL2v hR9 hq9 st9 ⊢
    have dr2 := dr.add left.toNat
    have hB2 : (B ++ List.replicate left.toNat ((ds.length : Nat) : Int)).length = n.toNat := by
      simp
      omega
    generalize (B ++ List.replicate left.toNat ((ds.length : Nat) : Int)) = B2 at hL2v dr2 hB2
    refine ⟨Nat.zero_le _, fun N hN => ?_⟩
    have sN := Same.new (o := .lst []) hN
    have hN0 : H N = none := st9.none hs hN
    have hNa : N ≠ a := hs.ne_none hN0
    have hNL : N ≠ L2 := fun z => by
      rw [z, hL2v] at hN
      cases hN
    have hNR : N ≠ R := fun z => by
      rw [z, hR9] at hN
      cases hN
    refine ⟨_, rfl, n, rfl, by omega, by omega, for_range (lo := 0) (n := n.toNat) (fun i σ H' => ∃ (dn lf : List Int) (x8 : Option V), σ = [some (.ref a), some (.int m), some (.int n), some (.int left), some (.int alive), some (.ref L2), some (.ref R), some (.bl (decide (0 < late))), x8, x9, x10, some (.ref N)] ∧
      Stay a H H' ∧ H' L2 = some (.lst (lf.map V.int)) ∧ H' N = some (.lst (dn.map V.int)) ∧ H' R = some (.lst (qs.map V.ref)) ∧ RowsD H' qs ds ∧ (dn ++ lf).Perm B2 ∧ dn.length = i) ⟨[], B2, x8, rfl, st9.same sN, sN _ _ hL2v, upd_same, sN _ _ hR9, hq9.same sN, List.Perm.refl _, rfl⟩ ?_ ?_⟩
    · rintro i σ G1 hi ⟨dn, lf, x8', rfl, g1, hL1, hN1, hR1, hq1, hp1, hdn⟩
      have hll := hp1.length_eq
      rw [List.length_append] at hll
      refine ⟨_, rfl, .inl ⟨rfl, _, SqL.of hN1⟩, _, rfl, .inl ⟨rfl, _, SqL.of hL1⟩, _, rfl, _, rfl, L2, _, rfl, .inl (SqL.of hL1), a, _, rfl, g1.1, by simp; omega, by simp; omega, fun v G2 v0 v1 g2 => ?_⟩
      rw [List.length_map] at v1
      obtain ⟨z, rfl⟩ := Int.eq_ofNat_of_zero_le v0
      have hz : z < lf.length := by omega
      have hL2' := g2.2 _ _ hL2a hL1
      have hN2 := g2.2 _ _ hNa hN1
      have hR2 := g2.2 _ _ hRa hR1
      have hlz : lf[z]? = some lf[z] := by simp
      refine ⟨L2, _, z, z, .int lf[z], rfl, rfl, hL2', by omega, by omega, seqIx (by simpa using hz), by simp, ?_⟩
      have e9 : (lf.map V.int).eraseIdx z = (lf.eraseIdx z).map V.int := by rw [List.eraseIdx_eq_take_drop_succ, List.eraseIdx_eq_take_drop_succ, List.map_append, List.map_take, List.map_drop]
      rw [e9]
      have hN3 : (upd G2 L2 (.lst ((lf.eraseIdx z).map V.int))) N = some (.lst (dn.map V.int)) := (upd_ne hNL).trans hN2
      refine ⟨N, _, _, rfl, rfl, hN3, ?_, dn ++ [lf[z]], lf.eraseIdx z, _, rfl, ?_, ?_, ?_, ?_, ?_, ?_, ?_⟩
      · rw [List.length_map, hdn]
        exact Nat.lt_of_lt_of_le (show i < 100 by omega) (by decide)
      · exact ((g1.trans g2).mut hL20 hL2a).mut hN0 hNa
      · rw [upd_ne (Ne.symm hNL), upd_same]
      · rw [upd_same, List.map_append]
        rfl
      · rw [upd_ne (Ne.symm hNR), upd_ne (Ne.symm hL2R)]
        exact hR2
      · exact hq1.tk (((TK.stay g1.1 g2).trans (TK.lst hL2')).trans (TK.lst hN3))
      · exact pop_perm (G := []) hp1 hlz
      · simp [hdn]
    · rintro σ G1 ⟨dn, lf, x8', rfl, g1, hL1, hN1, hR1, hq1, hp1, hdn⟩
      have hll := hp1.length_eq
      rw [List.length_append] at hll
      have e0 : lf = [] := List.length_eq_zero_iff.mp (by omega)
      subst e0
      rw [List.append_nil] at hp1
      refine ⟨_, rfl, N, _, rfl, SqL.of hN1, fun bb G2 g2 dbb => ⟨_, rfl, R, _, rfl, SqL.of (g2 _ _ hR1), fun dd G3 g3 ddd => ⟨(by show 2 ≤ sizeLine; decide), fun t ht => ?_⟩⟩⟩
      have g4 := Same.new (o := .tup [.ref bb, .ref dd]) ht
      exact q t bb dd dn ds _ (g1.same ((g2.trans g3).trans g4)) upd_same (dbb.same (g3.trans g4)) (((hq1.same (g2.trans g3)).td ddd).same g4) (dr2.cal hp1 (by omega) (by omega) (by omega)) (by omega) hdl6
end
end DK
set_option Elab.async false
set_option linter.all false
set_option maxRecDepth 100000
set_option maxHeartbeats 4000000
namespace DK
open PySem PySem.Spec PyProof.Rows L2 RZ DL
abbrev s_law_made : Stmt := topS 34
abbrev N_law_made : List Str := ["_law_calendar"]
theorem sc_law_made : FnScope N_law_made ["_law_calendar"] (defScope s_law_made) := ⟨rfl, rfl, rfl, by decide +kernel, rfl, by decide +kernel, by decide +kernel⟩
theorem b_law_made : BindOk "_law_made" s_law_made ["_law_calendar"] := fun _ _ _ _ _ _ us hl => match us, hl with | [_], _ => rfl

abbrev s_law_dates : Stmt := topS 35
abbrev N_law_dates : List Str := ["_law_source", "_law_calendar", "_law_born", "_law_days", "_law_step", "_law_now", "_law_days_at", "_law_born_at", "_law_pattern_here", "_law_birth", "_law_low"]
theorem sc_law_dates : FnScope N_law_dates ["_law_source", "_law_calendar"] (defScope s_law_dates) := ⟨rfl, rfl, rfl, by decide +kernel, rfl, by decide +kernel, by decide +kernel⟩
theorem b_law_dates : BindOk "_law_dates" s_law_dates ["_law_source", "_law_calendar"] := fun _ _ _ _ _ _ us hl => match us, hl with | [_, _], _ => rfl

section
variable {P : Program} {w : World} {K : PySem.W.Frag} {mg : Str → Option Value} {base : Heap} {C f0 fC CM fR : Addr}
def spLawMade (K : PySem.W.Frag) (C : Addr) : Sp := fun vs H Q _ => ∃ (t b dd : Addr) (bs : List Int) (ds : List (List Int)), vs = [.ref t] ∧ SqT K H t [.ref b, .ref dd] ∧ TupD H b (bs.map V.int) ∧ TupTD H dd ds ∧ CalOk bs ds ∧ ∀ c H', H c = none → Same H H' → CalAt K C H' c bs ds → Q (.ref c) H'
theorem ca_law_made (c_made_calendar : Ca P w K mg base 6 "made_calendar" s_made_calendar ["born", "days"] (spMade K C)) (U : Up K mg "_law_made" s_law_made) : Ca P w K mg base 7 "_law_made" s_law_made ["_law_calendar"] (spLawMade K C) := by
  refine ca0 U sc_law_made (fun vs H Q E h => by obtain ⟨t, b, dd, bs, ds, rfl, _⟩ := h; rfl) fun f cdv A outer s H vs Q E hr h => ?_
  obtain ⟨t, b, dd, bs, ds, rfl, ht, hb, hd, ok, q⟩ := h
  refine ⟨_, (pss_one (ps_ret (pe_ca c_made_calendar b_made_calendar hr ps0 (pa_cons (pe_ix (ix_tupK K rfl) (pv 0) pe_int (fun _ _ => rfl)) (pa_cons (pe_ix (ix_tupK K rfl) (pv 0) pe_int (fun _ _ => rfl)) pa_nil))))), ?_⟩
  refine ⟨_, rfl, t, _, _, _, rfl, rfl, ht, at0, _, rfl, t, _, _, _, rfl, rfl, ht, at_of (j := 1) rfl rfl, b, dd, bs, ds, rfl, hb, hd, ok, fun c H' hc s' hC => q c H' hc s' hC⟩
def spDates (K : PySem.W.Frag) : Sp := fun vs H Q _ => ∃ (a t b dd : Addr) (bs : List Int) (ds : List (List Int)), vs = [.ref a, .ref t] ∧ Src a H ∧ SqT K H t [.ref b, .ref dd] ∧ TupD H b (bs.map V.int) ∧ TupTD H dd ds ∧ CalOk bs ds ∧ ds.length ≤ 6 ∧
  ∀ p x y da ba H', Stay a H H' → TupD H' p [.ref x, .ref y] → TupD H' x (da.map V.int) → TupD H' y (ba.map V.int) → DatesOk bs ds.length da ba → Q (.ref p) H'
theorem ca_law_dates (B : Bl mg) (c_law_take : Ca P w K mg base 1 "_law_take" s_law_take ["_law_source", "_law_top"] spTake) (c_law_one : Ca P w K mg base 2 "_law_one" s_law_one ["_law_source", "_law_things"] spOne) (U : Up K mg "_law_dates" s_law_dates) :
    Ca P w K mg base 3 "_law_dates" s_law_dates ["_law_source", "_law_calendar"] (spDates K) := by
  refine ca0 U sc_law_dates (fun vs H Q E h => by obtain ⟨a, t, b, dd, bs, ds, rfl, _⟩ := h; rfl) fun f cdv A outer s H vs Q E hr h => ?_
  obtain ⟨a, t, b, dd, bs, ds, rfl, hs, ht, hb, hd, ok, hdl, q⟩ := h
  refine ⟨_, (pss_cons (ps_asg (pv 1) (pg_tup rfl (pgs_cons (pg_name (i := 2) sc_law_dates.nd rfl (Or.inl rfl)) (pgs_cons (pg_name (i := 3) sc_law_dates.nd rfl (Or.inl rfl)) pgs_nil))))
      (pss_cons (ps_par (i := 4) (j := 5) (by rfl) sc_law_dates.nd rfl rfl (by decide) rfl rfl (pa_cons (pe_ca c_law_one b_law_one hr ps0 (pa_cons (pv 0) (pa_cons (pe_lst (pa_cons pe_int (pa_cons pe_int (pa_cons pe_int (pa_cons (pe_op op_pow pe_int pe_int) pa_nil))))) pa_nil))) (pa_cons (pe_ca c_law_one b_law_one hr ps0 (pa_cons (pv 0) (pa_cons (pe_lst (pa_cons pe_int (pa_cons (pe_un un_neg pe_int) (pa_cons pe_int (pa_cons (pe_un un_neg (pe_op op_pow pe_int pe_int)) pa_nil))))) pa_nil))) pa_nil)) (by rfl))
      (pss_cons (ps_par (i := 6) (j := 7) (by rfl) sc_law_dates.nd rfl rfl (by decide) rfl rfl (pa_cons (pe_lst pa_nil) (pa_cons (pe_lst pa_nil) pa_nil)) (by rfl))
      (pss_cons (ps_for PassesOwn.never rfl (pi_tup (pv 3)) (pg_name (i := 8) sc_law_dates.nd rfl (Or.inl rfl))
      (pss_cons (ps_set (i := 5) sc_law_dates.nd rfl (Or.inl rfl) (pe_op op_add (pe_op op_add (pv 5) pe_int) (pe_ca c_law_take b_law_take hr ps0 (pa_cons (pv 0) (pa_cons (pv 4) pa_nil)))))
      (pss_one (ps_expr (pe_bm PySem.F.plainAttrs_list PySem.F.slot_list_append PySem.F.type_list_append mt_append (pv 6) (pa_cons (pv 5) pa_nil))))))
      (pss_cons (ps_for PassesOwn.never rfl (pi_tup (pv 2)) (pg_name (i := 9) sc_law_dates.nd rfl (Or.inl rfl))
      (pss_one (ps_if (pt_cmpR op_lt (pv 9) (pe_callB (call_lenK K rfl) (by rfl) B.len (by decide +kernel) (pa_cons (pv 3) pa_nil)) (nomark _)) (pss_cons (ps_set (i := 10) sc_law_dates.nd rfl (Or.inl rfl) (pe_ifExp (pt_cmpR op_gt (pv 9) pe_int (nomark _)) (pe_op op_add (pe_ix (ix_listK K rfl) (pv 6) (pe_op op_sub (pv 9) pe_int) (fun _ _ => rfl)) pe_int) (pe_op op_sub (pe_ix (ix_listK K rfl) (pv 6) pe_int (fun _ _ => rfl)) (pe_ca c_law_take b_law_take hr ps0 (pa_cons (pv 0) (pa_cons (pe_op op_add (pv 4) pe_int) pa_nil))))))
      (pss_one (ps_expr (pe_bm PySem.F.plainAttrs_list PySem.F.slot_list_append PySem.F.type_list_append mt_append (pv 7) (pa_cons (pe_op op_add (pv 10) (pe_ca c_law_take b_law_take hr ps0 (pa_cons (pv 0) (pa_cons (pe_op op_add (pe_op op_sub (pe_ix (ix_listK K rfl) (pv 6) (pv 9) (fun _ _ => rfl)) (pv 10)) pe_int) pa_nil)))) pa_nil)))))
      (pss_one (ps_expr (pe_bm PySem.F.plainAttrs_list PySem.F.slot_list_append PySem.F.type_list_append mt_append (pv 7) (pa_cons (pe_op op_add (pe_op op_add (pv 5) pe_int) (pe_ca c_law_take b_law_take hr ps0 (pa_cons (pv 0) (pa_cons (pe_op op_add (pv 4) pe_int) pa_nil)))) pa_nil)))))))
      (pss_one (ps_ret (pe_tupD (pa_cons (pe_callTy call_tuple_D (by rfl) B.tuple (by decide +kernel) (pa_cons (pv 6) pa_nil)) (pa_cons (pe_callTy call_tuple_D (by rfl) B.tuple (by decide +kernel) (pa_cons (pv 7) pa_nil)) pa_nil)))))))))), ?_⟩
  have n12 := ok.n12
  obtain ⟨qd, d1, d2, d3⟩ := hd
  have hql : (qd.map V.ref).length = ds.length := by simp [d2]
  refine ⟨_, rfl, t, _, rfl, ht, rfl, _, _, rfl, _, _, rfl, rfl, ?_⟩
  refine ⟨_, rfl, _, _, rfl, rfl, ⟨by decide, by decide, by decide⟩, (by show 4 ≤ sizeLine; decide), fun l hl => ?_⟩
  have sl := Same.new (o := .lst [.int 1, .int 3, .int 40, .int (10 ^ (9 : Int).toNat)]) hl
  refine ⟨a, l, _, rfl, hs.same sl, upd_same, hs.ne_none hl, (by show 0 < 4; decide), (by show 4 < 1000; decide), fun v H1 hv st1 => ?_⟩
  have hv2 : ∃ z : Int, v = .int z ∧ 1 ≤ z ∧ z ≤ 1000000000 := by
    simp only [List.mem_cons, List.not_mem_nil, or_false] at hv
    rcases hv with rfl | rfl | rfl | rfl
    · exact ⟨1, rfl, by omega, by omega⟩
    · exact ⟨3, rfl, by omega, by omega⟩
    · exact ⟨40, rfl, by omega, by omega⟩
    · exact ⟨_, rfl, by decide, by decide⟩
  obtain ⟨step, rfl, sp1, sp2⟩ := hv2
  have st01 : Stay a H H1 := (Stay.of_same hs sl).trans st1
  refine ⟨_, rfl, _, rfl, _, _, rfl, rfl, ⟨by decide, by decide, by decide⟩, _, rfl, (by show 4 ≤ sizeLine; decide), fun l2 hl2 => ?_⟩
  have sl2 := Same.new (o := .lst [.int 0, .int (-5), .int 7, .int (-(10 ^ (10 : Int).toNat))]) hl2
  refine ⟨a, l2, _, rfl, st1.1.same sl2, upd_same, st1.1.ne_none hl2, (by show 0 < 4; decide), (by show 4 < 1000; decide), fun v2 H2 hv2 st2 => ?_⟩
  have hv3 : ∃ z : Int, v2 = .int z ∧ -10000000000 ≤ z ∧ z ≤ 7 := by
    simp only [List.mem_cons, List.not_mem_nil, or_false] at hv2
    rcases hv2 with rfl | rfl | rfl | rfl
    · exact ⟨0, rfl, by omega, by omega⟩
    · exact ⟨-5, rfl, by omega, by omega⟩
    · exact ⟨7, rfl, by omega, by omega⟩
    · exact ⟨_, rfl, by decide, by decide⟩
  obtain ⟨N0, rfl, no1, no2⟩ := hv3
  have st02 : Stay a H H2 := st01.trans ((Stay.of_same st1.1 sl2).trans st2)
  refine ⟨_, _, rfl, Nat.zero_le _, fun X hX => ⟨Nat.zero_le _, fun Y hY => ⟨_, _, rfl, ?_⟩⟩⟩
  have sX := Same.new (o := .lst []) hX
  have sY := Same.new (o := .lst []) hY
  have hX0 : H X = none := st02.none hs hX
  have hY0 : H Y = none := (st02.same sX).none hs hY
  have hXa : X ≠ a := hs.ne_none hX0
  have hYa : Y ≠ a := hs.ne_none hY0
  have hXY : X ≠ Y := fun z => by
    rw [← z, upd_same] at hY
    cases hY
  refine ⟨_, rfl, dd, rfl, ⟨_, (d1.tk (TK.stay hs (st02.same (sX.trans sY)))).sq⟩, for_it (walk_tup (xs := qd.map V.ref)) (fun i σ H' => ∃ (now : Int) (da : List Int) (x8 : Option V), σ = [some (.ref a), some (.ref t), some (.ref b), some (.ref dd), some (.int step), some (.int now), some (.ref X), some (.ref Y), x8, none, none] ∧
    Stay a H H' ∧ H' X = some (.lst (da.map V.int)) ∧ H' Y = some (.lst []) ∧ da.length = i ∧ N0 ≤ now ∧ now ≤ N0 + 1000000000 * i ∧ (∀ d, d < i → N0 < da.getD d 0 ∧ da.getD d 0 ≤ now) ∧ (∀ d, 0 < d → d < i → da.getD (d - 1) 0 < da.getD d 0 ∧ da.getD d 0 - da.getD (d - 1) 0 ≤ 1000000000) ∧ (0 < i → da.getD (i - 1) 0 = now)) ⟨N0, [], none, rfl, st02.same (sX.trans sY), sY _ _ upd_same, upd_same, rfl, by omega, by omega, (fun d h => by omega), (fun d h h2 => by omega), (fun h => by omega)⟩ (fun i σ H' _ p => by obtain ⟨_, _, _, _, p, _⟩ := p; exact (d1.tk (TK.stay hs p)).sq) ?_ ?_⟩
  · rintro i x σ H3 H4 hi ⟨now, da, x8, rfl, st3, hX3, hY3, hl3, nw1, nw2, in1, in2, in3⟩ ⟨rfl, hx⟩
    obtain ⟨z, hz, rfl⟩ := map_of hx
    refine ⟨_, rfl, _, _, rfl, rfl, _, rfl, _, rfl, a, step, rfl, st3.1, by omega, by omega, fun r H5 r0 r1 st5 => ⟨_, _, rfl, rfl, ?_⟩⟩
    have hX5 := st5.2 _ _ hXa hX3
    have hY5 := st5.2 _ _ hYa hY3
    refine ⟨_, rfl, .inl ⟨rfl, _, SqL.of hX5⟩, _, rfl, X, _, _, rfl, rfl, hX5, ?_, now + 1 + r, da ++ [now + 1 + r], _, rfl, (st3.trans st5).mut hX0 hXa, ?_, ?_, by simp [hl3], by omega, by omega, ?_, ?_, ?_⟩
    · rw [List.length_map, hl3]
      exact Nat.lt_of_lt_of_le (show i < 100 by omega) (by decide)
    · rw [upd_same, List.map_append]
      rfl
    · rw [upd_ne (Ne.symm hXY)]
      exact hY5
    · intro d hd
      by_cases h : d < i
      · rw [getD_app (by omega)]
        have := in1 d h
        omega
      · have e : d = da.length := by omega
        rw [e, getD_last]
        omega
    · intro d h0 hd
      by_cases h : d < i
      · rw [getD_app (by omega), getD_app (by omega)]
        exact in2 d h0 h
      · have e : d = da.length := by omega
        have h3 := in3 (by omega)
        rw [e, getD_last, getD_app (by omega), hl3, h3]
        omega
    · intro _
      rw [Nat.add_sub_cancel, ← hl3, getD_last]
  · rintro σ H3 ⟨now, da, x8, rfl, st3, hX3, hY3, hl3, nw1, nw2, in1, in2, in3⟩
    rw [hql] at hl3 nw2 in1 in2 in3
    have hb3 := hb.tk (TK.stay hs st3)
    refine ⟨_, rfl, b, rfl, ⟨_, hb3.sq⟩, for_it (walk_tup (xs := bs.map V.int)) (fun i σ H' => ∃ (ba : List Int) (x9 x10 : Option V), σ = [some (.ref a), some (.ref t), some (.ref b), some (.ref dd), some (.int step), some (.int now), some (.ref X), some (.ref Y), x8, x9, x10] ∧
      Stay a H H' ∧ H' X = some (.lst (da.map V.int)) ∧ H' Y = some (.lst (ba.map V.int)) ∧ ba.length = i ∧ ∀ x, x < i → -G12 ≤ ba.getD x 0 ∧ ba.getD x 0 ≤ G12 ∧ notAhead da (bs.getD x 0) (ba.getD x 0) = false) ⟨[], none, none, rfl, st3, hX3, hY3, rfl, (fun x h => by omega)⟩ (fun i σ H' _ p => by obtain ⟨_, _, _, _, p, _⟩ := p; exact (hb.tk (TK.stay hs p)).sq) ?_ ?_⟩
    · rintro i x σ H4 H5 hi ⟨ba, x9, x10, rfl, st4, hX4, hY4, hl4, in4⟩ ⟨rfl, hx⟩
      obtain ⟨bi, hbi, rfl⟩ := map_of hx
      have hbm := ok.born bi (List.mem_of_getElem? hbi)
      have hbg : bs.getD i 0 = bi := getD_of hbi
      have hi12 : i < 12 := by
        rw [List.length_map] at hi
        omega
      have put : ∀ (v : Int) (H6 : Hp), Stay a H5 H6 → -G12 ≤ v → v ≤ G12 → notAhead da bi v = false → ∀ (x10' : Option V), (ba.map V.int).length < sizeLine ∧ ∃ (ba' : List Int) (x9' x10'' : Option V), [some (.ref a), some (.ref t), some (.ref b), some (.ref dd), some (.int step), some (.int now), some (.ref X), some (.ref Y), x8, some (.int bi), x10'] = [some (.ref a), some (.ref t), some (.ref b), some (.ref dd), some (.int step), some (.int now), some (.ref X), some (.ref Y), x8, x9', x10''] ∧
          Stay a H (upd H6 Y (.lst (ba.map V.int ++ [.int v]))) ∧ (upd H6 Y (.lst (ba.map V.int ++ [.int v]))) X = some (.lst (da.map V.int)) ∧ (upd H6 Y (.lst (ba.map V.int ++ [.int v]))) Y = some (.lst (ba'.map V.int)) ∧ ba'.length = i + 1 ∧ ∀ x, x < i + 1 → -G12 ≤ ba'.getD x 0 ∧ ba'.getD x 0 ≤ G12 ∧ notAhead da (bs.getD x 0) (ba'.getD x 0) = false := by
        intro v H6 st6 v1 v2 v3 x10'
        refine ⟨?_, ba ++ [v], _, _, rfl, (st4.trans st6).mut hY0 hYa, ?_, ?_, by simp [hl4], fun x hx => ?_⟩
        · rw [List.length_map, hl4]
          exact Nat.lt_of_lt_of_le (show i < 100 by omega) (by decide)
        · rw [upd_ne hXY]
          exact st6.2 _ _ hXa hX4
        · rw [upd_same, List.map_append]
          rfl
        · by_cases h : x < i
          · rw [getD_app (by omega)]
            exact in4 x h
          · have e : x = ba.length := by omega
            rw [e, getD_last, hl4, hbg]
            exact ⟨v1, v2, v3⟩
      refine ⟨_, rfl, _, rfl, dd, _, rfl, .inr (d1.tk (TK.stay hs st4)).sq, _, _, rfl, rfl, _, rfl, ?_⟩
      rw [hql]
      refine ite2 (fun h1 => ?_) (fun h1 => ?_)
      · have h1' : bi < (ds.length : Int) := by simpa using h1
        obtain ⟨k, rfl⟩ := Int.eq_ofNat_of_zero_le hbm.1
        have hk : k < ds.length := by omega
        have hdk := in1 k hk
        have hatk : atI (da.map V.int) ((k : Nat) : Int) = some (.int (da.getD k 0)) := by
          refine at_of (j := k) rfl ?_
          rw [List.getElem?_map, List.getElem?_eq_getElem (by omega), List.getD_eq_getElem?_getD, List.getElem?_eq_getElem (by omega)]
          rfl
        have tail : ∀ (low : Int), low ≤ da.getD k 0 → da.getD k 0 - low < 1073741800 → -20000000000 ≤ low → (0 < k → da.getD (k - 1) 0 < low) → ∀ (v : Int), low ≤ v → v < da.getD k 0 - low + 1 + low → notAhead da ((k : Nat) : Int) v = false ∧ -G12 ≤ v ∧ v ≤ G12 := by
          intro low a1 a2 a3 a4 v b1 b2
          unfold notAhead G12
          refine ⟨?_, by omega, by omega⟩
          rw [Bool.or_eq_false_iff, Bool.and_eq_false_iff, Bool.and_eq_false_iff]
          constructor
          · by_cases h0 : 0 < k
            · right
              have e : (((k : Nat) : Int) - 1).toNat = k - 1 := by omega
              rw [e]
              exact decide_eq_false (by have := a4 h0; omega)
            · left
              exact decide_eq_false (by omega)
          · right
            have e : ((k : Nat) : Int).toNat = k := by omega
            rw [e]
            exact decide_eq_false (by omega)
        have hX4s := SqL.of (K := K) hX4
        refine ⟨_, rfl, _, _, rfl, rfl, _, rfl, ?_⟩
        refine ite2 (fun h2 => ?_) (fun h2 => ?_)
        · have h2' : 0 < k := by
            have := of_decide_eq_true h2
            omega
          have hatp : atI (da.map V.int) (((k : Nat) : Int) - 1) = some (.int (da.getD (k - 1) 0)) := by
            refine at_of (j := k - 1) (by omega) ?_
            rw [List.getElem?_map, List.getElem?_eq_getElem (by omega), List.getD_eq_getElem?_getD, List.getElem?_eq_getElem (by omega)]
            rfl
          have hgap := in2 k h2' hk
          have hprev := in1 (k - 1) (by omega)
          refine ⟨_, rfl, _, rfl, _, _, rfl, rfl, X, _, _, _, rfl, rfl, hX4s, hatp, _, _, rfl, rfl, ?_⟩
          refine ⟨_, rfl, .inl ⟨rfl, _, SqL.of hY4⟩, _, rfl, _, rfl, _, rfl, _, rfl, X, _, _, _, rfl, rfl, hX4s, hatk, _, rfl, _, _, rfl, rfl, _, _, rfl, rfl, a, _, rfl, st4.1, by omega, by omega, fun r H6 r0 r1 st6 => ⟨_, _, rfl, rfl, Y, _, _, rfl, rfl, st6.2 _ _ hYa hY4, ?_⟩⟩
          obtain ⟨c1, c2, c3⟩ := tail (da.getD (k - 1) 0 + 1) (by omega) (by omega) (by omega) (fun _ => by omega) (da.getD (k - 1) 0 + 1 + r) (by omega) (by omega)
          exact put _ H6 st6 c2 c3 c1 _
        · have h2' : k = 0 := by
            have : ¬ (0 < ((k : Nat) : Int)) := fun z => h2 (decide_eq_true z)
            omega
          subst h2'
          refine ⟨_, rfl, X, _, _, _, rfl, rfl, hX4s, hatk, _, rfl, _, rfl, _, _, rfl, rfl, a, _, rfl, st4.1, by omega, by omega, fun r H6 r0 r1 st6 => ⟨_, _, rfl, rfl, ?_⟩⟩
          have hX6 := st6.2 _ _ hXa hX4
          have hY6 := st6.2 _ _ hYa hY4
          refine ⟨_, rfl, .inl ⟨rfl, _, SqL.of hY6⟩, _, rfl, _, rfl, _, rfl, _, rfl, X, _, _, _, rfl, rfl, SqL.of hX6, hatk, _, rfl, _, _, rfl, rfl, _, _, rfl, rfl, a, _, rfl, st6.1, by omega, by omega, fun r2 H7 r20 r21 st7 => ⟨_, _, rfl, rfl, Y, _, _, rfl, rfl, st7.2 _ _ hYa hY6, ?_⟩⟩
          obtain ⟨c1, c2, c3⟩ := tail (da.getD 0 0 - r) (by omega) (by omega) (by omega) (fun h => by omega) (da.getD 0 0 - r + r2) (by omega) (by omega)
          exact put _ H7 (st6.trans st7) c2 c3 c1 _
      · have h1' : (ds.length : Int) ≤ bi := by simpa using h1
        refine ⟨_, rfl, .inl ⟨rfl, _, SqL.of hY4⟩, _, rfl, _, _, rfl, rfl, _, rfl, _, rfl, _, _, rfl, rfl, a, _, rfl, st4.1, by omega, by omega, fun r H6 r0 r1 st6 => ⟨_, _, rfl, rfl, Y, _, _, rfl, rfl, st6.2 _ _ hYa hY4, ?_⟩⟩
        refine put _ H6 st6 (by unfold G12; omega) (by unfold G12; omega) ?_ _
        unfold notAhead
        rw [Bool.or_eq_false_iff, Bool.and_eq_false_iff, Bool.and_eq_false_iff]
        constructor
        · by_cases h0 : 0 < bi
          · right
            have e : (bi - 1).toNat = ds.length - 1 := by omega
            rw [e, in3 (by omega)]
            exact decide_eq_false (by omega)
          · left
            exact decide_eq_false h0
        · left
          exact decide_eq_false (by omega)
    · rintro σ H4 ⟨ba, x9, x10, rfl, st4, hX4, hY4, hl4, in4⟩
      rw [List.length_map] at hl4 in4
      refine ⟨_, rfl, X, _, rfl, SqL.of hX4, fun u H5 s5 du => ⟨_, rfl, Y, _, rfl, SqL.of (s5 _ _ hY4), fun v H6 s6 dv => ⟨(by show 2 ≤ sizeLine; decide), fun p H7 s7 dp => ?_⟩⟩⟩
      refine q p u v da ba H7 (st4.same ((s5.trans s6).trans s7)) dp (du.same (s6.trans s7)) (dv.same s7) (dates_ok hl3 hl4 (fun d hd => ?_) in4)
      have h9 := in1 d hd
      refine ⟨by unfold G12; omega, by unfold G12; omega, fun h0 => (in2 d h0 hd).1⟩
end
end DK
set_option Elab.async false
set_option linter.all false
set_option maxRecDepth 100000
set_option maxHeartbeats 4000000
namespace DK
open PySem PySem.Spec PyProof.Rows L2 RZ DL
abbrev s_leaves_many : Stmt := topS 22
abbrev N_leaves_many : List Str := ["calendar"]
theorem sc_leaves_many : FnScope N_leaves_many ["calendar"] (defScope s_leaves_many) := ⟨rfl, rfl, rfl, by decide +kernel, rfl, by decide +kernel, by decide +kernel⟩
theorem b_leaves_many : BindOk "leaves_many" s_leaves_many ["calendar"] := fun _ _ _ _ _ _ us hl => match us, hl with | [_], _ => rfl

abbrev s_is_ahead_of_day : Stmt := topS 27
abbrev N_is_ahead_of_day : List Str := ["days_at", "d", "date"]
theorem sc_is_ahead_of_day : FnScope N_is_ahead_of_day ["days_at", "d", "date"] (defScope s_is_ahead_of_day) := ⟨rfl, rfl, rfl, by decide +kernel, rfl, by decide +kernel, by decide +kernel⟩
theorem b_is_ahead_of_day : BindOk "_is_ahead_of_day" s_is_ahead_of_day ["days_at", "d", "date"] := fun _ _ _ _ _ _ us hl => match us, hl with | [_, _, _], _ => rfl

abbrev s_made_dates : Stmt := topS 26
abbrev N_made_dates : List Str := ["calendar", "dates", "days_at", "born_at", "d", "date", "x"]
theorem sc_made_dates : FnScope N_made_dates ["calendar", "dates"] (defScope s_made_dates) := ⟨rfl, rfl, rfl, by decide +kernel, rfl, by decide +kernel, by decide +kernel⟩
theorem b_made_dates : BindOk "made_dates" s_made_dates ["calendar", "dates"] := fun _ _ _ _ _ _ us hl => match us, hl with | [_, _], _ => rfl

structure BlA (mg : Str → Option Value) : Prop where
  abs : mg "abs" = none
structure KnD (mg : Str → Option Value) : Prop where
  GREATEST : ∃ t, mg "GREATEST" = some (.int 1000000000000 t)
section
variable {P : Program} {w : World} {K : PySem.W.Frag} {mg : Str → Option Value} {base : Heap} {C f0 fC CM fR CB : Addr}
theorem ca_leaves_many (B : Bl mg) (T : ClC K mg C fC) (U : Up K mg "leaves_many" s_leaves_many) : Ca P w K mg base 1 "leaves_many" s_leaves_many ["calendar"] (spLeaves K C fun bs _ => (bs.length : Int)) := by
  refine ca0 U sc_leaves_many (fun vs H Q E h => by obtain ⟨c, bs, ds, rfl, _⟩ := h; rfl) fun f cdv A outer s H vs Q E hr h => ?_
  obtain ⟨c, bs, ds, rfl, hcal, q⟩ := h
  refine ⟨_, (pss_one (ps_ret (pe_callB (call_lenK K rfl) (by rfl) B.len (by decide +kernel) (pa_cons (pe_fld (pv 0) rfl) pa_nil)))), ?_⟩
  obtain ⟨dx, b, dd, fs, h1, h2, h3, h4, h5⟩ := hcal
  refine ⟨_, rfl, c, C, dx, fs, _, rfl, h1, T.cl, T.nB, h2, b, _, rfl, .inr h4.sq, ?_⟩
  rw [List.length_map]
  exact q
def spAhead (K : PySem.W.Frag) : Sp := fun vs H Q _ => ∃ (x : Addr) (da : List Int) (d v : Int), vs = [.ref x, .int d, .int v] ∧ TupI K H x da ∧ 0 ≤ d ∧ d ≤ da.length ∧ Q (.bl (!notAhead da d v)) H
theorem ca_is_ahead (B : Bl mg) (U : Up K mg "_is_ahead_of_day" s_is_ahead_of_day) : Ca P w K mg base 1 "_is_ahead_of_day" s_is_ahead_of_day ["days_at", "d", "date"] (spAhead K) := by
  refine ca0 U sc_is_ahead_of_day (fun vs H Q E h => by obtain ⟨x, da, d, v, rfl, _⟩ := h; rfl) fun f cdv A outer s H vs Q E hr h => ?_
  obtain ⟨x, da, d, v, rfl, hx, d0, dl, q⟩ := h
  refine ⟨_, (pss_cons (ps_if (PW.pt (pw_and (pt_cmpR op_gt (pv 1) pe_int (nomark _)) (pw_and1 (pt_cmpR op_le (pv 2) (pe_ix (ix_tupK K rfl) (pv 0) (pe_op op_sub (pv 1) pe_int) (fun _ _ => rfl)) (nomark _))))) (pss_one (ps_ret pe_bl))
      pss_nil)
      (pss_one (ps_ret (pe_or (pe_cmpR op_eq (pv 1) (pe_callB (call_lenK K rfl) (by rfl) B.len (by decide +kernel) (pa_cons (pv 0) pa_nil)) (nomark _)) (pe_one (pe_cmpR op_le (pv 2) (pe_ix (ix_tupK K rfl) (pv 0) (pv 1) (fun _ _ => rfl)) (nomark _))))))), ?_⟩
  have hatd : ∀ k : Nat, k < da.length → atI (da.map V.int) ((k : Nat) : Int) = some (.int (da.getD k 0)) := fun k hk => by
    refine at_of (j := k) rfl ?_
    rw [List.getElem?_map, List.getElem?_eq_getElem hk, List.getD_eq_getElem?_getD, List.getElem?_eq_getElem hk]
    rfl
  have hll : (da.map V.int).length = da.length := by simp
  have snd : (decide (0 < d) && decide (v ≤ da.getD (d - 1).toNat 0)) = false → tRet (tOrV (tOp rEq (tVar 1) (tCB (rLenK K) (tCons (tVar 0) tNil))) (tOp (rI0 fun i j => V.bl (decide (i ≤ j))) (tVar 2) (tOp (rIxT K) (tVar 0) (tVar 1)))) { nx := fun _ H' => Q .non H', rt := Q } [some (.ref x), some (.int d), some (.int v)] H := by
    intro h
    refine ⟨_, rfl, _, rfl, x, _, rfl, .inr hx, ?_⟩
    rw [hll]
    refine ⟨rfl, _, rfl, ?_⟩
    refine ite2 (fun h1 => ?_) (fun h1 => ?_)
    · have h1' : d = (da.length : Int) := by simpa using h1
      have e : (!notAhead da d v) = true := by
        unfold notAhead
        rw [h, show decide (d < (da.length : Int)) = false from decide_eq_false (by omega)]
        rfl
      rw [e] at q
      exact q
    · have h1' : d ≠ (da.length : Int) := fun z => h1 (by rw [z]; simp)
      have e1 : (((d.toNat : Nat)) : Int) = d := by omega
      have ha := hatd d.toNat (by omega)
      rw [e1] at ha
      refine ⟨_, rfl, _, rfl, _, rfl, x, _, _, _, rfl, rfl, hx, ha, _, _, rfl, rfl, ?_⟩
      have e : (!notAhead da d v) = decide (v ≤ da.getD d.toNat 0) := by
        unfold notAhead
        rw [h, show decide (d < (da.length : Int)) = true from decide_eq_true (by omega), Bool.true_and, Bool.false_or]
        by_cases hh : da.getD d.toNat 0 < v
        · rw [decide_eq_true hh, decide_eq_false (by omega)]
          rfl
        · rw [decide_eq_false hh, decide_eq_true (by omega)]
          rfl
      rw [e] at q
      exact q
  refine ⟨_, rfl, _, _, rfl, rfl, _, rfl, ?_⟩
  refine ite2 (fun h1 => ?_) (fun h1 => ?_)
  · have h1' : 0 < d := by simpa using h1
    have e1 : ((((d - 1).toNat : Nat)) : Int) = d - 1 := by omega
    have ha := hatd (d - 1).toNat (by omega)
    rw [e1] at ha
    refine ⟨_, rfl, _, rfl, _, rfl, _, _, rfl, rfl, x, _, _, _, rfl, rfl, hx, ha, _, _, rfl, rfl, _, rfl, ?_⟩
    refine ite2 (fun h2 => ?_) (fun h2 => ?_)
    · have e : (!notAhead da d v) = false := by
        unfold notAhead
        rw [show decide (0 < d) = true from h1, show decide (v ≤ da.getD (d - 1).toNat 0) = true from h2]
        rfl
      rw [e] at q
      exact q
    · exact snd (by
        rw [Bool.and_eq_false_iff]
        right
        simpa using h2)
  · exact iteF (snd (by
        rw [Bool.and_eq_false_iff]
        left
        simpa using h1))
def spMadeDates (K : PySem.W.Frag) (C CB : Addr) : Sp := fun vs H Q E => ∃ (c p x y : Addr) (bs : List Int) (ds : List (List Int)) (da ba : List Int), vs = [.ref c, .ref p] ∧ CalAt K C H c bs ds ∧ CalOk bs ds ∧ SqT K H p [.ref x, .ref y] ∧ TupI K H x da ∧ TupI K H y ba ∧
  (dueM bs ds.length da ba = none → ∀ H', Same H H' → Q (.ref p) H') ∧ ∀ w, dueM bs ds.length da ba = some w → ∀ r H1, Same H H1 → TupD H1 r [.int w.1, .int w.2] → RaisesW CB (.ref r) H1 E
theorem ca_made_dates {f0 : Addr} (B : Bl mg) (Ba : BlA mg) (Kd : KnD mg) (Tc : ClC K mg C fC) (c_days_many : Ca P w K mg base 1 "days_many" s_days_many ["calendar"] (spLeaves K C fun _ ds => (ds.length : Int))) (c_leaves_many : Ca P w K mg base 1 "leaves_many" s_leaves_many ["calendar"] (spLeaves K C fun bs _ => (bs.length : Int)))
    (c_is_ahead_of_day : Ca P w K mg base 1 "_is_ahead_of_day" s_is_ahead_of_day ["days_at", "d", "date"] (spAhead K)) (T_BadDates : Er K mg "BadDates" CB f0) (F_Refused : ErI P w K mg base f0) (U : Up K mg "made_dates" s_made_dates) :
    Ca P w K mg base 3 "made_dates" s_made_dates ["calendar", "dates"] (spMadeDates K C CB) := by
  refine caX U sc_made_dates (fun vs H Q E h => by obtain ⟨c, p, x, y, bs, ds, da, ba, rfl, _⟩ := h; rfl) fun f cdv A outer s H vs Q E hr h => ?_
  obtain ⟨c, p, x, y, bs, ds, da, ba, rfl, hcal, ok, hp, hx, hy, q1, q2⟩ := h
  refine ⟨_, (pss_cons (ps_asg (pv 1) (pg_tup rfl (pgs_cons (pg_name (i := 2) sc_made_dates.nd rfl (Or.inl rfl)) (pgs_cons (pg_name (i := 3) sc_made_dates.nd rfl (Or.inl rfl)) pgs_nil))))
      (pss_cons (ps_if (pt_cmpR op_ne (pe_callB (call_lenK K rfl) (by rfl) B.len (by decide +kernel) (pa_cons (pv 2) pa_nil)) (pe_ca c_days_many b_days_many hr ps0 (pa_cons (pv 0) pa_nil)) (nomark _)) (pss_one (ps_raiseW T_BadDates F_Refused rfl hr (takes_of rfl rfl rfl rfl) (pe_tupD (pa_cons pe_int (pa_cons (pe_callB (call_lenK K rfl) (by rfl) B.len (by decide +kernel) (pa_cons (pv 2) pa_nil)) pa_nil)))))
      pss_nil)
      (pss_cons (ps_if (pt_cmpR op_ne (pe_callB (call_lenK K rfl) (by rfl) B.len (by decide +kernel) (pa_cons (pv 3) pa_nil)) (pe_ca c_leaves_many b_leaves_many hr ps0 (pa_cons (pv 0) pa_nil)) (nomark _)) (pss_one (ps_raiseW T_BadDates F_Refused rfl hr (takes_of rfl rfl rfl rfl) (pe_tupD (pa_cons pe_int (pa_cons (pe_callB (call_lenK K rfl) (by rfl) B.len (by decide +kernel) (pa_cons (pv 3) pa_nil)) pa_nil)))))
      pss_nil)
      (pss_cons (ps_for (passes_of rfl) rfl (pi_enumT (by rfl) B.enumerate (pa_cons (pv 2) pa_nil)) (pg_tup rfl (pgs_cons (pg_name (i := 4) sc_made_dates.nd rfl (Or.inl rfl)) (pgs_cons (pg_name (i := 5) sc_made_dates.nd rfl (Or.inl rfl)) pgs_nil)))
      (pss_one (ps_if (PW.pt (pw_or (pt_cmpR op_gt (pe_callB call_abs (by rfl) Ba.abs (by decide +kernel) (pa_cons (pv 5) pa_nil)) (pe_gI Kd.GREATEST) (nomark _)) (pw_or1 (PW.pt (pw_and (pt_cmpR op_gt (pv 4) pe_int (nomark _)) (pw_and1 (pt_cmpR op_le (pv 5) (pe_ix (ix_tupK K rfl) (pv 2) (pe_op op_sub (pv 4) pe_int) (fun _ _ => rfl)) (nomark _)))))))) (pss_one (ps_raiseW T_BadDates F_Refused rfl hr (takes_of rfl rfl rfl rfl) (pe_tupD (pa_cons pe_int (pa_cons (pv 4) pa_nil)))))
      pss_nil)))
      (pss_cons (ps_for (passes_of rfl) rfl (pi_enumT (by rfl) B.enumerate (pa_cons (pv 3) pa_nil)) (pg_tup rfl (pgs_cons (pg_name (i := 6) sc_made_dates.nd rfl (Or.inl rfl)) (pgs_cons (pg_name (i := 5) sc_made_dates.nd rfl (Or.inl rfl)) pgs_nil)))
      (pss_one (ps_if (PW.pt (pw_or (pt_cmpR op_gt (pe_callB call_abs (by rfl) Ba.abs (by decide +kernel) (pa_cons (pv 5) pa_nil)) (pe_gI Kd.GREATEST) (nomark _)) (pw_or1 (pt_not (pt_val (pe_ca c_is_ahead_of_day b_is_ahead_of_day hr ps0 (pa_cons (pv 2) (pa_cons (pe_ix (ix_tupK K rfl) (pe_fld (pv 0) rfl) (pv 6) (fun _ _ => rfl)) (pa_cons (pv 5) pa_nil))))))))) (pss_one (ps_raiseW T_BadDates F_Refused rfl hr (takes_of rfl rfl rfl rfl) (pe_tupD (pa_cons pe_int (pa_cons (pv 6) pa_nil)))))
      pss_nil)))
      (pss_one (ps_ret (pv 1)))))))), ?_⟩
  have n12 := ok.n12
  have m11 := ok.m11
  have hxl : (da.map V.int).length = da.length := by simp
  have hyl : (ba.map V.int).length = ba.length := by simp
  have hatx : ∀ (l : List Int) (k : Nat), k < l.length → atI (l.map V.int) ((k : Nat) : Int) = some (.int (l.getD k 0)) := fun l k hk => by
    refine at_of (j := k) rfl ?_
    rw [List.getElem?_map, List.getElem?_eq_getElem hk, List.getD_eq_getElem?_getD, List.getElem?_eq_getElem hk]
    rfl
  have habs : ∀ z : Int, decide (1000000000000 < (if z < 0 then -z else z)) = decide (G12 < z ∨ z < -G12) := fun z => by
    unfold G12
    by_cases h : z < 0
    · rw [if_pos h]
      by_cases h2 : (1000000000000 : Int) < -z
      · rw [decide_eq_true h2, decide_eq_true (.inr (by omega))]
      · rw [decide_eq_false h2, decide_eq_false (by omega)]
    · rw [if_neg h]
      by_cases h2 : (1000000000000 : Int) < z
      · rw [decide_eq_true h2, decide_eq_true (.inl (by omega))]
      · rw [decide_eq_false h2, decide_eq_false (by omega)]
  refine ⟨_, rfl, p, _, rfl, hp, rfl, _, _, rfl, _, _, rfl, rfl, ?_⟩
  refine ⟨_, rfl, x, _, rfl, .inr hx, _, rfl, c, bs, ds, rfl, hcal, rfl, _, rfl, ?_⟩
  rw [hxl]
  refine ite2 (fun h1 => ?_) (fun h1 => ?_)
  · refine ⟨_, rfl, x, _, rfl, .inr hx, ?_⟩
    rw [hxl]
    refine ⟨(by show 2 ≤ sizeLine; decide), fun r G g dr => q2 (2, da.length) ?_ r G g dr⟩
    unfold dueM
    rw [if_pos (fun e => by rw [e] at h1; simp at h1)]
  have e1 : da.length = ds.length := by
    simp at h1
    omega
  refine ⟨_, rfl, y, _, rfl, .inr hy, _, rfl, c, bs, ds, rfl, hcal, rfl, _, rfl, ?_⟩
  rw [hyl]
  refine ite2 (fun h2 => ?_) (fun h2 => ?_)
  · refine ⟨_, rfl, y, _, rfl, .inr hy, ?_⟩
    rw [hyl]
    refine ⟨(by show 2 ≤ sizeLine; decide), fun r G g dr => q2 (3, ba.length) ?_ r G g dr⟩
    unfold dueM
    rw [if_neg (fun z => z e1), if_pos (fun e => by rw [e] at h2; simp at h2)]
  have e2 : ba.length = bs.length := by
    simp at h2
    omega
  refine ⟨_, rfl, x, _, rfl, hx, for_it (walk_enumT (xs := da.map V.int)) (fun i σ H' => Same H H' ∧ (∀ j, j < i → dayBad da j = false) ∧ ∃ x4 x5 : Option V, σ = [some (.ref c), some (.ref p), some (.ref x), some (.ref y), x4, x5, none]) ⟨Same.refl _, (fun j h => by omega), none, none, rfl⟩ (fun i σ H' _ p => Same.seqT p.1 hx) ?_ ?_⟩
  · rintro i z σ H1 H2 hi ⟨s1, hno, x4, x5, rfl⟩ ⟨T0, u, v, rfl, hT, rfl, hu, hv⟩
    cases hu
    obtain ⟨dv, hdv, rfl⟩ := map_of hv
    have hi' : i < da.length := by omega
    have hg : da.getD i 0 = dv := getD_of hdv
    have sT := Same.new (o := .tup [.int (i : Nat), .int dv]) hT
    have s2 := s1.trans sT
    have bad : dayBad da i = true → ∀ G, Same H G → tRaiseW CB (fun cls d _ H => E cls d H) (tTupD (tCons (tC (.int 0)) (tCons (tVar 4) tNil))) { nx := fun σ H' => Same H H' ∧ (∀ j, j < i + 1 → dayBad da j = false) ∧ ∃ x4 x5 : Option V, σ = [some (.ref c), some (.ref p), some (.ref x), some (.ref y), x4, x5, none], rt := Q } [some (.ref c), some (.ref p), some (.ref x), some (.ref y), some (.int (i : Nat)), some (.int dv), none] G := by
      intro hb G sG
      refine ⟨_, rfl, (by show 2 ≤ sizeLine; decide), fun r G2 g dr => q2 (0, i) ?_ r G2 (sG.trans g) dr⟩
      unfold dueM
      rw [if_neg (fun z => z e1), if_neg (fun z => z e2), first_some hi' hno hb]
    have good : dayBad da i = false → (∀ j, j < i + 1 → dayBad da j = false) := fun hb j hj => by
      by_cases h : j < i
      · exact hno j h
      · rw [show j = i by omega]
        exact hb
    refine ⟨T0, _, rfl, SqT.of upd_same, rfl, _, _, rfl, _, _, rfl, rfl, ?_⟩
    refine ⟨_, rfl, _, rfl, _, _, rfl, rfl, _, rfl, ?_⟩
    rw [habs]
    refine ite2 (fun h3 => ?_) (fun h3 => ?_)
    · refine iteT (bad ?_ _ s2)
      unfold dayBad
      rw [hg, h3]
      rfl
    · have h3' : decide (G12 < dv ∨ dv < -G12) = false := by simpa using h3
      refine ⟨_, rfl, _, _, rfl, rfl, _, rfl, ?_⟩
      refine ite2 (fun h4 => ?_) (fun h4 => iteF ⟨s2, good ?_, _, _, rfl⟩)
      · have h4' : 0 < i := by
          have := of_decide_eq_true h4
          omega
        have ha := hatx da (i - 1) (by omega)
        have e9 : (((i - 1 : Nat)) : Int) = ((i : Nat) : Int) - 1 := by omega
        rw [e9] at ha
        refine ⟨_, rfl, _, rfl, _, rfl, _, _, rfl, rfl, x, _, _, _, rfl, rfl, Same.seqT s2 hx, ha, _, _, rfl, rfl, _, rfl, ?_⟩
        refine ite2 (fun h5 => bad ?_ _ s2) (fun h5 => ⟨s2, good ?_, _, _, rfl⟩)
        · unfold dayBad
          rw [hg, h3', show decide (0 < i) = true from decide_eq_true h4', show decide (dv ≤ da.getD (i - 1) 0) = true from h5]
          rfl
        · unfold dayBad
          rw [hg, h3', show decide (dv ≤ da.getD (i - 1) 0) = false by simpa using h5]
          simp
      · unfold dayBad
        rw [hg, h3', show decide (0 < i) = false from decide_eq_false (by have : ¬ (0 < ((i : Nat) : Int)) := fun z => h4 (decide_eq_true z); omega)]
        rfl
  · rintro σ H1 ⟨s1, hno, x4, x5, rfl⟩
    rw [hxl] at hno
    have fn := first_none hno
    refine ⟨_, rfl, y, _, rfl, Same.seqT s1 hy, for_it (walk_enumT (xs := ba.map V.int)) (fun i σ H' => Same H H' ∧ (∀ j, j < i → birthBad bs da ba j = false) ∧ ∃ x5 x6 : Option V, σ = [some (.ref c), some (.ref p), some (.ref x), some (.ref y), x4, x5, x6]) ⟨s1, (fun j h => by omega), x5, none, rfl⟩ (fun i σ H' _ p => Same.seqT p.1 hy) ?_ ?_⟩
    · rintro i z σ H2 H3 hi ⟨s2, hno2, x5', x6, rfl⟩ ⟨T0, u, v, rfl, hT, rfl, hu, hv⟩
      cases hu
      obtain ⟨dv, hdv, rfl⟩ := map_of hv
      have hi' : i < ba.length := by omega
      have hg : ba.getD i 0 = dv := getD_of hdv
      have sT := Same.new (o := .tup [.int (i : Nat), .int dv]) hT
      have s3 := s2.trans sT
      have hbi : bs.getD i 0 ∈ bs := by
        rw [List.getD_eq_getElem?_getD, List.getElem?_eq_getElem (by omega)]
        exact List.getElem_mem _
      have hbm := ok.born _ hbi
      have bad : birthBad bs da ba i = true → ∀ G, Same H G → tRaiseW CB (fun cls d _ H => E cls d H) (tTupD (tCons (tC (.int 1)) (tCons (tVar 6) tNil))) { nx := fun σ H' => Same H H' ∧ (∀ j, j < i + 1 → birthBad bs da ba j = false) ∧ ∃ x5 x6 : Option V, σ = [some (.ref c), some (.ref p), some (.ref x), some (.ref y), x4, x5, x6], rt := Q } [some (.ref c), some (.ref p), some (.ref x), some (.ref y), x4, some (.int dv), some (.int (i : Nat))] G := by
        intro hb G sG
        refine ⟨_, rfl, (by show 2 ≤ sizeLine; decide), fun r G2 g dr => q2 (1, i) ?_ r G2 (sG.trans g) dr⟩
        unfold dueM
        rw [if_neg (fun z => z e1), if_neg (fun z => z e2), fn, first_some hi' hno2 hb]
      have good : birthBad bs da ba i = false → (∀ j, j < i + 1 → birthBad bs da ba j = false) := fun hb j hj => by
        by_cases h : j < i
        · exact hno2 j h
        · rw [show j = i by omega]
          exact hb
      obtain ⟨dx, b, dd, fs, f1, f2, f3, f4, f5⟩ := hcal.same s3
      have hab := hatx bs i (by omega)
      refine ⟨T0, _, rfl, SqT.of upd_same, rfl, _, _, rfl, _, _, rfl, rfl, ?_⟩
      refine ⟨_, rfl, _, rfl, _, _, rfl, rfl, _, rfl, ?_⟩
      rw [habs]
      refine ite2 (fun h3 => ?_) (fun h3 => ?_)
      · refine iteT (bad ?_ _ s3)
        unfold birthBad
        rw [hg, h3]
        rfl
      · have h3' : decide (G12 < dv ∨ dv < -G12) = false := by simpa using h3
        refine ⟨_, rfl, _, rfl, c, C, dx, fs, _, rfl, f1, Tc.cl, Tc.nB, f2, _, rfl, b, _, _, _, rfl, rfl, f4.sq, hab, _, rfl, x, da, _, dv, rfl, Same.seqT s3 hx, hbm.1, by omega, _, rfl, ?_⟩
        have eb : birthBad bs da ba i = notAhead da (bs.getD i 0) dv := by
          unfold birthBad
          rw [hg, h3']
          rfl
        cases hna : notAhead da (bs.getD i 0) dv with
        | true => exact iteT (bad (by rw [eb, hna]) _ s3)
        | false => exact iteF ⟨s3, good (by rw [eb, hna]), _, _, rfl⟩
    · rintro σ H2 ⟨s2, hno2, x5', x6, rfl⟩
      rw [hyl] at hno2
      refine ⟨_, rfl, q1 ?_ H2 s2⟩
      unfold dueM
      rw [if_neg (fun z => z e1), if_neg (fun z => z e2), fn, first_none hno2]
end
end DK
set_option Elab.async false
set_option linter.all false
set_option maxRecDepth 100000
set_option maxHeartbeats 4000000
namespace DK
open PySem PySem.Spec PyProof.Rows L2 RZ DL
abbrev s_law_due : Stmt := topS 36
abbrev N_law_due : List Str := ["_law_calendar", "_law_dates_here", "_law_born", "_law_days", "_law_days_at", "_law_born_at", "_law_k", "_law_x", "_law_date", "_law_birth"]
theorem sc_law_due : FnScope N_law_due ["_law_calendar", "_law_dates_here"] (defScope s_law_due) := ⟨rfl, rfl, rfl, by decide +kernel, rfl, by decide +kernel, by decide +kernel⟩
theorem b_law_due : BindOk "_law_due" s_law_due ["_law_calendar", "_law_dates_here"] := fun _ _ _ _ _ _ us hl => match us, hl with | [_, _], _ => rfl

section
variable {P : Program} {w : World} {K : PySem.W.Frag} {mg : Str → Option Value} {base : Heap} {C f0 fC CM fR CB : Addr}
def dueL : Option (Int × Int) → List Int
  | none => []
  | some w => [w.1, w.2]
def spDue (K : PySem.W.Frag) : Sp := fun vs H Q _ => ∃ (t p b dd x y : Addr) (bs : List Int) (ds : List (List Int)) (da ba : List Int), vs = [.ref t, .ref p] ∧ SqT K H t [.ref b, .ref dd] ∧ TupI K H b bs ∧ TupTI K H dd ds ∧ CalOk bs ds ∧ SqT K H p [.ref x, .ref y] ∧ TupI K H x da ∧ TupI K H y ba ∧ da.length ≤ 1000 ∧ ba.length ≤ 1000 ∧
  ∀ r H', Same H H' → TupD H' r ((dueL (dueM bs ds.length da ba)).map V.int) → Q (.ref r) H'
theorem ca_law_due (B : Bl mg) (U : Up K mg "_law_due" s_law_due) : Ca P w K mg base 1 "_law_due" s_law_due ["_law_calendar", "_law_dates_here"] (spDue K) := by
  refine ca0 U sc_law_due (fun vs H Q E h => by obtain ⟨t, p, b, dd, x, y, bs, ds, da, ba, rfl, _⟩ := h; rfl) fun f cdv A outer s H vs Q E hr h => ?_
  obtain ⟨t, p, b, dd, x, y, bs, ds, da, ba, rfl, ht, hb, ⟨qd, d1, d2, d3⟩, ok, hp, hx, hy, lx, ly, q⟩ := h
  refine ⟨_, (pss_cons (ps_asg (pv 0) (pg_tup rfl (pgs_cons (pg_name (i := 2) sc_law_due.nd rfl (Or.inl rfl)) (pgs_cons (pg_name (i := 3) sc_law_due.nd rfl (Or.inl rfl)) pgs_nil))))
      (pss_cons (ps_asg (pv 1) (pg_tup rfl (pgs_cons (pg_name (i := 4) sc_law_due.nd rfl (Or.inl rfl)) (pgs_cons (pg_name (i := 5) sc_law_due.nd rfl (Or.inl rfl)) pgs_nil))))
      (pss_cons (ps_if (pt_cmpR op_ne (pe_callB (call_lenK K rfl) (by rfl) B.len (by decide +kernel) (pa_cons (pv 4) pa_nil)) (pe_callB (call_lenK K rfl) (by rfl) B.len (by decide +kernel) (pa_cons (pv 3) pa_nil)) (nomark _)) (pss_one (ps_ret (pe_tupD (pa_cons pe_int (pa_cons (pe_callB (call_lenK K rfl) (by rfl) B.len (by decide +kernel) (pa_cons (pv 4) pa_nil)) pa_nil)))))
      pss_nil)
      (pss_cons (ps_if (pt_cmpR op_ne (pe_callB (call_lenK K rfl) (by rfl) B.len (by decide +kernel) (pa_cons (pv 5) pa_nil)) (pe_callB (call_lenK K rfl) (by rfl) B.len (by decide +kernel) (pa_cons (pv 2) pa_nil)) (nomark _)) (pss_one (ps_ret (pe_tupD (pa_cons pe_int (pa_cons (pe_callB (call_lenK K rfl) (by rfl) B.len (by decide +kernel) (pa_cons (pv 5) pa_nil)) pa_nil)))))
      pss_nil)
      (pss_cons (ps_for PassesOwn.never rfl (pi_range1 (by rfl) B.range (pa_cons (pe_callB (call_lenK K rfl) (by rfl) B.len (by decide +kernel) (pa_cons (pv 4) pa_nil)) pa_nil)) (pg_name (i := 6) sc_law_due.nd rfl (Or.inl rfl))
      (pss_one (ps_if (PW.pt (pw_or (pt_not (pt_chain op_le op_le (pe_un un_neg (pe_op op_pow pe_int pe_int)) (pe_ix (ix_tupK K rfl) (pv 4) (pv 6) (fun _ _ => rfl)) (pe_op op_pow pe_int pe_int))) (pw_or1 (PW.pt (pw_and (pt_cmpR op_gt (pv 6) pe_int (nomark _)) (pw_and1 (pt_cmpR op_ge (pe_ix (ix_tupK K rfl) (pv 4) (pe_op op_sub (pv 6) pe_int) (fun _ _ => rfl)) (pe_ix (ix_tupK K rfl) (pv 4) (pv 6) (fun _ _ => rfl)) (nomark _)))))))) (pss_one (ps_ret (pe_tupD (pa_cons pe_int (pa_cons (pv 6) pa_nil)))))
      pss_nil)))
      (pss_cons (ps_for PassesOwn.never rfl (pi_range1 (by rfl) B.range (pa_cons (pe_callB (call_lenK K rfl) (by rfl) B.len (by decide +kernel) (pa_cons (pv 2) pa_nil)) pa_nil)) (pg_name (i := 7) sc_law_due.nd rfl (Or.inl rfl))
      (pss_cons (ps_par (i := 8) (j := 9) (by rfl) sc_law_due.nd rfl rfl (by decide) rfl rfl (pa_cons (pe_ix (ix_tupK K rfl) (pv 5) (pv 7) (fun _ _ => rfl)) (pa_cons (pe_ix (ix_tupK K rfl) (pv 2) (pv 7) (fun _ _ => rfl)) pa_nil)) (by rfl))
      (pss_cons (ps_if (PW.pt (pw_or (pt_not (pt_chain op_le op_le (pe_un un_neg (pe_op op_pow pe_int pe_int)) (pv 8) (pe_op op_pow pe_int pe_int))) (pw_or1 (PW.pt (pw_and (pt_cmpR op_gt (pv 9) pe_int (nomark _)) (pw_and1 (pt_cmpR op_le (pv 8) (pe_ix (ix_tupK K rfl) (pv 4) (pe_op op_sub (pv 9) pe_int) (fun _ _ => rfl)) (nomark _)))))))) (pss_one (ps_ret (pe_tupD (pa_cons pe_int (pa_cons (pv 7) pa_nil)))))
      pss_nil)
      (pss_one (ps_if (PW.pt (pw_and (pt_cmpR op_lt (pv 9) (pe_callB (call_lenK K rfl) (by rfl) B.len (by decide +kernel) (pa_cons (pv 3) pa_nil)) (nomark _)) (pw_and1 (pt_cmpR op_gt (pv 8) (pe_ix (ix_tupK K rfl) (pv 4) (pv 9) (fun _ _ => rfl)) (nomark _))))) (pss_one (ps_ret (pe_tupD (pa_cons pe_int (pa_cons (pv 7) pa_nil)))))
      pss_nil)))))
      (pss_one (ps_ret (pe_tupD pa_nil))))))))), ?_⟩
  have n12 := ok.n12
  have m11 := ok.m11
  have e12 : (10 : Int) ^ (12 : Int).toNat = 1000000000000 := by decide
  have hxl : (da.map V.int).length = da.length := by simp
  have hyl : (ba.map V.int).length = ba.length := by simp
  have hbl : (bs.map V.int).length = bs.length := by simp
  have hdl : (qd.map V.ref).length = ds.length := by simp [d2]
  have hatx : ∀ (l : List Int) (k : Nat), k < l.length → atI (l.map V.int) ((k : Nat) : Int) = some (.int (l.getD k 0)) := fun l k hk => by
    refine at_of (j := k) rfl ?_
    rw [List.getElem?_map, List.getElem?_eq_getElem hk, List.getD_eq_getElem?_getD, List.getElem?_eq_getElem hk]
    rfl
  have far : ∀ z : Int, (¬ decide (-1000000000000 ≤ z) = true ∨ ¬ decide (z ≤ 1000000000000) = true) → decide (G12 < z ∨ z < -G12) = true := fun z h => by
    unfold G12
    refine decide_eq_true ?_
    rcases h with h | h
    · have : ¬ (-1000000000000 ≤ z) := fun y => h (decide_eq_true y)
      omega
    · have : ¬ (z ≤ 1000000000000) := fun y => h (decide_eq_true y)
      omega
  have near : ∀ z : Int, decide (-1000000000000 ≤ z) = true → decide (z ≤ 1000000000000) = true → decide (G12 < z ∨ z < -G12) = false := fun z h1 h2 => by
    unfold G12
    have h1' := of_decide_eq_true h1
    have h2' := of_decide_eq_true h2
    exact decide_eq_false (by omega)
  refine ⟨_, rfl, t, _, rfl, ht, rfl, _, _, rfl, _, _, rfl, rfl, ?_⟩
  refine ⟨_, rfl, p, _, rfl, hp, rfl, _, _, rfl, _, _, rfl, rfl, ?_⟩
  refine ⟨_, rfl, x, _, rfl, .inr hx, _, rfl, dd, _, rfl, .inr d1, rfl, _, rfl, ?_⟩
  rw [hxl, hdl]
  refine ite2 (fun h1 => ?_) (fun h1 => ?_)
  · refine ⟨_, rfl, x, _, rfl, .inr hx, ?_⟩
    rw [hxl]
    refine ⟨(by show 2 ≤ sizeLine; decide), fun r G g dr => q r G g ?_⟩
    unfold dueM
    rw [if_pos (fun e => by rw [e] at h1; simp at h1)]
    exact dr
  have e1 : da.length = ds.length := by
    simp at h1
    omega
  refine ⟨_, rfl, y, _, rfl, .inr hy, _, rfl, b, _, rfl, .inr hb, rfl, _, rfl, ?_⟩
  rw [hyl, hbl]
  refine ite2 (fun h2 => ?_) (fun h2 => ?_)
  · refine ⟨_, rfl, y, _, rfl, .inr hy, ?_⟩
    rw [hyl]
    refine ⟨(by show 2 ≤ sizeLine; decide), fun r G g dr => q r G g ?_⟩
    unfold dueM
    rw [if_neg (fun z => z e1), if_pos (fun e => by rw [e] at h2; simp at h2)]
    exact dr
  have e2 : ba.length = bs.length := by
    simp at h2
    omega
  refine ⟨_, rfl, x, _, rfl, .inr hx, _, rfl, by omega, by omega, for_range (lo := 0) (n := _) (fun i σ H' => H' = H ∧ (∀ j, j < i → dayBad da j = false) ∧ ∃ x6 : Option V, σ = [some (.ref t), some (.ref p), some (.ref b), some (.ref dd), some (.ref x), some (.ref y), x6, none, none, none]) ⟨rfl, (fun j h => by omega), none, rfl⟩ ?_ ?_⟩
  · rintro i σ H1 hi ⟨rfl, hno, x6, rfl⟩
    have hi' : i < da.length := by
      rw [hxl] at hi
      omega
    have e0i : (0 : Int) + (i : Nat) = ((i : Nat) : Int) := by omega
    rw [e0i]
    have ha0 := hatx da i hi'
    have bad : dayBad da i = true → tRet (tTupD (tCons (tC (.int 0)) (tCons (tVar 6) tNil))) { nx := fun σ H' => H' = H1 ∧ (∀ j, j < i + 1 → dayBad da j = false) ∧ ∃ x6 : Option V, σ = [some (.ref t), some (.ref p), some (.ref b), some (.ref dd), some (.ref x), some (.ref y), x6, none, none, none], rt := Q } [some (.ref t), some (.ref p), some (.ref b), some (.ref dd), some (.ref x), some (.ref y), some (.int (i : Nat)), none, none, none] H1 := by
      intro hb
      refine ⟨_, rfl, (by show 2 ≤ sizeLine; decide), fun r G g dr => q r G g ?_⟩
      unfold dueM
      rw [if_neg (fun z => z e1), if_neg (fun z => z e2), first_some hi' hno hb]
      exact dr
    have good : dayBad da i = false → (∀ j, j < i + 1 → dayBad da j = false) := fun hb j hj => by
      by_cases h : j < i
      · exact hno j h
      · rw [show j = i by omega]
        exact hb
    have isBad : decide (G12 < da.getD i 0 ∨ da.getD i 0 < -G12) = true → dayBad da i = true := fun h => by
      unfold dayBad
      rw [h]
      rfl
    refine ⟨_, _, rfl, rfl, ⟨by decide, by decide, by decide⟩, _, rfl, _, rfl, _, rfl, x, _, _, _, rfl, rfl, hx, ha0, _, _, rfl, rfl, _, rfl, ?_⟩
    rw [e12]
    refine ite2 (fun h3 => ?_) (fun h3 => ⟨_, rfl, iteT (bad (isBad (far _ (.inl h3))))⟩)
    refine ⟨_, _, rfl, rfl, ⟨by decide, by decide, by decide⟩, _, _, rfl, rfl, _, rfl, ?_⟩
    rw [e12]
    cases h4 : decide (da.getD i 0 ≤ 1000000000000) with
    | false => exact iteT (bad (isBad (far _ (.inr (by rw [h4]; exact Bool.false_ne_true)))))
    | true =>
      have nr := near _ h3 h4
      refine iteF ⟨_, rfl, _, _, rfl, rfl, _, rfl, ?_⟩
      refine ite2 (fun h5 => ?_) (fun h5 => iteF ⟨rfl, good ?_, _, rfl⟩)
      · have h5' : 0 < i := by
          have := of_decide_eq_true h5
          omega
        have hap := hatx da (i - 1) (by omega)
        have e9 : (((i - 1 : Nat)) : Int) = ((i : Nat) : Int) - 1 := by omega
        rw [e9] at hap
        refine ⟨_, rfl, _, rfl, _, _, rfl, rfl, x, _, _, _, rfl, rfl, hx, hap, _, rfl, _, rfl, x, _, _, _, rfl, rfl, hx, ha0, _, _, rfl, rfl, _, rfl, ?_⟩
        refine ite2 (fun h6 => bad ?_) (fun h6 => ⟨rfl, good ?_, _, rfl⟩)
        · unfold dayBad
          rw [nr, show decide (0 < i) = true from decide_eq_true h5', show decide (da.getD i 0 ≤ da.getD (i - 1) 0) = true from h6]
          rfl
        · unfold dayBad
          rw [nr, show decide (da.getD i 0 ≤ da.getD (i - 1) 0) = false by simpa using h6]
          simp
      · unfold dayBad
        rw [nr, show decide (0 < i) = false from decide_eq_false (by have : ¬ (0 < ((i : Nat) : Int)) := fun z => h5 (decide_eq_true z); omega)]
        rfl
  · rintro σ H1 ⟨rfl, hno, x6, rfl⟩
    have en : (((da.map V.int).length : Nat) : Int).toNat = da.length := by omega
    rw [en] at hno
    have fn := first_none hno
    refine ⟨_, rfl, b, _, rfl, .inr hb, _, rfl, by omega, by omega, for_range (lo := 0) (n := _) (fun i σ H' => H' = H1 ∧ (∀ j, j < i → birthBad bs da ba j = false) ∧ ∃ x7 x8 x9 : Option V, σ = [some (.ref t), some (.ref p), some (.ref b), some (.ref dd), some (.ref x), some (.ref y), x6, x7, x8, x9]) ⟨rfl, (fun j h => by omega), none, none, none, rfl⟩ ?_ ?_⟩
    · rintro i σ H2 hi ⟨rfl, hno2, x7, x8, x9, rfl⟩
      have hi' : i < ba.length := by
        rw [hbl] at hi
        omega
      have e0i : (0 : Int) + (i : Nat) = ((i : Nat) : Int) := by omega
      rw [e0i]
      have hay := hatx ba i hi'
      have hab := hatx bs i (by omega)
      have hbi : bs.getD i 0 ∈ bs := by
        rw [List.getD_eq_getElem?_getD, List.getElem?_eq_getElem (by omega)]
        exact List.getElem_mem _
      have hbm := ok.born _ hbi
      refine ⟨_, rfl, _, rfl, y, _, _, _, rfl, rfl, hy, hay, _, rfl, _, rfl, b, _, _, _, rfl, rfl, hb, hab, _, _, rfl, ?_⟩
      generalize hz : ba.getD i 0 = z
      generalize hβ : bs.getD i 0 = β at hbm
      have bad : birthBad bs da ba i = true → ∀ {D : Ends}, D.rt = Q → tRet (tTupD (tCons (tC (.int 1)) (tCons (tVar 7) tNil))) D [some (.ref t), some (.ref p), some (.ref b), some (.ref dd), some (.ref x), some (.ref y), x6, some (.int (i : Nat)), some (.int z), some (.int β)] H2 := by
        intro hb D hD
        refine ⟨_, rfl, (by show 2 ≤ sizeLine; decide), fun r G g dr => ?_⟩
        rw [hD]
        refine q r G g ?_
        unfold dueM
        rw [if_neg (fun z => z e1), if_neg (fun z => z e2), fn, first_some hi' hno2 hb]
        exact dr
      have good : birthBad bs da ba i = false → (∀ j, j < i + 1 → birthBad bs da ba j = false) := fun hb j hj => by
        by_cases h : j < i
        · exact hno2 j h
        · rw [show j = i by omega]
          exact hb
      have isBad : decide (G12 < z ∨ z < -G12) = true → birthBad bs da ba i = true := fun h => by
        unfold birthBad
        rw [hz, h]
        rfl
      refine ⟨_, _, rfl, rfl, ⟨by decide, by decide, by decide⟩, _, rfl, _, rfl, _, _, rfl, rfl, _, rfl, ?_⟩
      rw [e12]
      refine ite2 (fun h3 => ?_) (fun h3 => ⟨_, rfl, iteT (bad (isBad (far _ (.inl h3))) rfl)⟩)
      refine ⟨_, _, rfl, rfl, ⟨by decide, by decide, by decide⟩, _, _, rfl, rfl, _, rfl, ?_⟩
      rw [e12]
      cases h4 : decide (z ≤ 1000000000000) with
      | false => exact iteT (bad (isBad (far _ (.inr (by rw [h4]; exact Bool.false_ne_true)))) rfl)
      | true =>
        have nr := near _ h3 h4
        have eb : birthBad bs da ba i = notAhead da β z := by
          unfold birthBad
          rw [hz, hβ, nr]
          rfl
        have second : (decide (0 < β) && decide (z ≤ da.getD (β - 1).toNat 0)) = false → ∀ {D : Ends}, D.rt = Q → (∀ σ', (∃ x7 x8 x9 : Option V, σ' = [some (.ref t), some (.ref p), some (.ref b), some (.ref dd), some (.ref x), some (.ref y), x6, x7, x8, x9]) → birthBad bs da ba i = false → D.nx σ' H2) →
            tIfS (tAnd (tTest (tOp (rI0 fun i j => V.bl (decide (i < j))) (tVar 9) (tCB (rLenK K) (tCons (tVar 3) tNil)))) (tTest (tOp (rI0 fun i j => V.bl (decide (j < i))) (tVar 8) (tOp (rIxT K) (tVar 4) (tVar 9))))) (tRet (tTupD (tCons (tC (.int 1)) (tCons (tVar 7) tNil)))) tNext D [some (.ref t), some (.ref p), some (.ref b), some (.ref dd), some (.ref x), some (.ref y), x6, some (.int (i : Nat)), some (.int z), some (.int β)] H2 := by
          intro hf D hD hnx
          refine ⟨_, rfl, _, rfl, dd, _, rfl, .inr d1, _, _, rfl, rfl, _, rfl, ?_⟩
          rw [hdl]
          refine ite2 (fun h5 => ?_) (fun h5 => iteF (hnx _ ⟨_, _, _, rfl⟩ ?_))
          · have h5' : β < (ds.length : Int) := by simpa using h5
            have hak := hatx da β.toNat (by omega)
            have e9 : (((β.toNat : Nat)) : Int) = β := by omega
            rw [e9] at hak
            refine ⟨_, rfl, _, rfl, _, rfl, x, _, _, _, rfl, rfl, hx, hak, _, _, rfl, rfl, _, rfl, ?_⟩
            refine ite2 (fun h6 => bad ?_ hD) (fun h6 => hnx _ ⟨_, _, _, rfl⟩ ?_)
            · rw [eb]
              unfold notAhead
              rw [hf, show decide (β < (da.length : Int)) = true from decide_eq_true (by omega), show decide (da.getD β.toNat 0 < z) = true from h6]
              rfl
            · rw [eb]
              unfold notAhead
              rw [hf, show decide (da.getD β.toNat 0 < z) = false by simpa using h6]
              simp
          · rw [eb]
            unfold notAhead
            rw [hf, show decide (β < (da.length : Int)) = false from decide_eq_false (by rw [e1]; exact fun z => h5 (decide_eq_true z))]
            rfl
        have fin : ∀ σ', (∃ x7 x8 x9 : Option V, σ' = [some (.ref t), some (.ref p), some (.ref b), some (.ref dd), some (.ref x), some (.ref y), x6, x7, x8, x9]) → birthBad bs da ba i = false → H2 = H2 ∧ (∀ j, j < i + 1 → birthBad bs da ba j = false) ∧ ∃ x7 x8 x9 : Option V, σ' = [some (.ref t), some (.ref p), some (.ref b), some (.ref dd), some (.ref x), some (.ref y), x6, x7, x8, x9] := fun σ' h1 h2 => ⟨rfl, good h2, h1⟩
        refine iteF ⟨_, rfl, _, _, rfl, rfl, _, rfl, ?_⟩
        refine ite2 (fun h5 => ?_) (fun h5 => iteF (second (by rw [Bool.and_eq_false_iff]; left; simpa using h5) rfl fin))
        have h5' : 0 < β := by simpa using h5
        have hak := hatx da (β - 1).toNat (by omega)
        have e9 : ((((β - 1).toNat : Nat)) : Int) = β - 1 := by omega
        rw [e9] at hak
        refine ⟨_, rfl, _, rfl, _, rfl, _, _, rfl, rfl, x, _, _, _, rfl, rfl, hx, hak, _, _, rfl, rfl, _, rfl, ?_⟩
        refine ite2 (fun h6 => bad ?_ rfl) (fun h6 => second (by rw [Bool.and_eq_false_iff]; right; simpa using h6) rfl fin)
        rw [eb]
        unfold notAhead
        rw [show decide (0 < β) = true from h5, show decide (z ≤ da.getD (β - 1).toNat 0) = true from h6]
        rfl
    · rintro σ H2 ⟨rfl, hno2, x7, x8, x9, rfl⟩
      have en2 : (((bs.map V.int).length : Nat) : Int).toNat = ba.length := by omega
      rw [en2] at hno2
      refine ⟨Nat.zero_le _, fun r G g dr => q r G g ?_⟩
      unfold dueM
      rw [if_neg (fun z => z e1), if_neg (fun z => z e2), fn, first_none hno2]
      exact dr
end
end DK
set_option Elab.async false
set_option linter.all false
set_option maxRecDepth 100000
set_option maxHeartbeats 4000000
namespace DK
open PySem PySem.Spec PyProof.Rows L2 RZ DL
abbrev s_law_spoilt : Stmt := topS 37
abbrev N_law_spoilt : List Str := ["_law_source", "_law_calendar", "_law_dates_here", "_law_days_at", "_law_born_at", "_law_way", "_law_far", "_law_k", "_law_date", "_law_x", "_law_near"]
theorem sc_law_spoilt : FnScope N_law_spoilt ["_law_source", "_law_calendar", "_law_dates_here"] (defScope s_law_spoilt) := ⟨rfl, rfl, rfl, by decide +kernel, rfl, by decide +kernel, by decide +kernel⟩
theorem b_law_spoilt : BindOk "_law_spoilt" s_law_spoilt ["_law_source", "_law_calendar", "_law_dates_here"] := fun _ _ _ _ _ _ us hl => match us, hl with | [_, _, _], _ => rfl

section
variable {P : Program} {w : World} {K : PySem.W.Frag} {mg : Str → Option Value} {base : Heap} {C f0 fC CM fR CB : Addr}
theorem cut_ints (l : List Int) (lo hi : Option Int) : ∃ l' : List Int, cutV (l.map V.int) lo hi = l'.map V.int ∧ l'.length ≤ l.length := by
  refine ⟨(l.drop (HT.sIx (l.map V.int).length 0 lo)).take (HT.sIx (l.map V.int).length (l.map V.int).length hi - HT.sIx (l.map V.int).length 0 lo), ?_, ?_⟩
  · unfold cutV
    rw [List.map_take, List.map_drop]
  · rw [List.length_take, List.length_drop]
    omega
theorem cut_fromS' (xs : List V) (k : Nat) : cutV xs (some ((k : Int) + 1)) none = xs.drop (k + 1) := by
  rw [← cut_from]
  rfl
def spSpoilt : Sp := fun vs H Q _ => ∃ (a t p x y : Addr) (da ba : List Int), vs = [.ref a, .ref t, .ref p] ∧ Src a H ∧ TupD H p [.ref x, .ref y] ∧ TupD H x (da.map V.int) ∧ TupD H y (ba.map V.int) ∧ da.length ≤ 20 ∧ ba.length ≤ 20 ∧
  ∀ (p' x' y' : Addr) (da' ba' : List Int) (H' : Hp), Stay a H H' → TupD H' p' [.ref x', .ref y'] → TupD H' x' (da'.map V.int) → TupD H' y' (ba'.map V.int) → da'.length ≤ da.length + 1 → ba'.length ≤ ba.length + 1 → Q (.ref p') H'
theorem ca_law_spoilt (B : Bl mg) (c_law_take : Ca P w K mg base 1 "_law_take" s_law_take ["_law_source", "_law_top"] spTake) (c_law_one : Ca P w K mg base 2 "_law_one" s_law_one ["_law_source", "_law_things"] spOne) (U : Up K mg "_law_spoilt" s_law_spoilt) :
    Ca P w K mg base 3 "_law_spoilt" s_law_spoilt ["_law_source", "_law_calendar", "_law_dates_here"] spSpoilt := by
  refine ca0 U sc_law_spoilt (fun vs H Q E h => by obtain ⟨a, t, p, x, y, da, ba, rfl, _⟩ := h; rfl) fun f cdv A outer s H vs Q E hr h => ?_
  obtain ⟨a, t, p, x, y, da, ba, rfl, hs, hp, hx, hy, lx, ly, q⟩ := h
  have hu64 := hr.units
  refine ⟨_, (pss_cons (ps_asg (pv 2) (pg_tup rfl (pgs_cons (pg_name (i := 3) sc_law_spoilt.nd rfl (Or.inl rfl)) (pgs_cons (pg_name (i := 4) sc_law_spoilt.nd rfl (Or.inl rfl)) pgs_nil))))
      (pss_cons (ps_par (i := 5) (j := 6) (by rfl) sc_law_spoilt.nd rfl rfl (by decide) rfl rfl (pa_cons (pe_ca c_law_take b_law_take hr ps0 (pa_cons (pv 0) (pa_cons pe_int pa_nil))) (pa_cons (pe_ca c_law_one b_law_one hr ps0 (pa_cons (pv 0) (pa_cons (pe_lst (pa_cons (pe_op op_pow pe_int pe_int) (pa_cons (pe_op op_add (pe_op op_pow pe_int pe_int) pe_int) (pa_cons (pe_un un_neg (pe_op op_pow pe_int pe_int)) (pa_cons (pe_op op_sub (pe_un un_neg (pe_op op_pow pe_int pe_int)) pe_int) (pa_cons (pe_un un_neg (pe_op op_pow pe_int pe_int)) pa_nil)))))) pa_nil))) pa_nil)) (by rfl))
      (pss_cons (ps_if (pt_cmpR op_eq (pv 5) pe_int (nomark _)) (pss_one (ps_ret (pe_tupD (pa_cons (pe_ca c_law_one b_law_one hr ps0 (pa_cons (pv 0) (pa_cons (pe_lst (pa_cons (pe_op op_catD (pv 3) (pe_tupD (pa_cons (pe_op op_pow pe_int pe_int) pa_nil))) (pa_cons (pe_slice sl_tupD (pv 3) po_none (po_some (pe_un un_neg pe_int))) pa_nil))) pa_nil))) (pa_cons (pv 4) pa_nil)))))
      pss_nil)
      (pss_cons (ps_if (pt_cmpR op_eq (pv 5) pe_int (nomark _)) (pss_one (ps_ret (pe_tupD (pa_cons (pv 3) (pa_cons (pe_ca c_law_one b_law_one hr ps0 (pa_cons (pv 0) (pa_cons (pe_lst (pa_cons (pe_op op_catD (pv 4) (pe_tupD (pa_cons pe_int pa_nil))) (pa_cons (pe_slice sl_tupD (pv 4) po_none (po_some (pe_un un_neg pe_int))) pa_nil))) pa_nil))) pa_nil)))))
      pss_nil)
      (Evl.pss_cut (ps_if (PW.pt (pw_and (pt_cmpR op_lt (pv 5) pe_int (nomark _)) (pw_and1 (pt_cmpR (op_neDK K rfl hu64) (pv 3) (pe_tupD pa_nil) (nomark _))))) (pss_cons (ps_set (i := 7) sc_law_spoilt.nd rfl (Or.inl rfl) (pe_ca c_law_take b_law_take hr ps0 (pa_cons (pv 0) (pa_cons (pe_callB (call_lenK K rfl) (by rfl) B.len (by decide +kernel) (pa_cons (pv 3) pa_nil)) pa_nil))))
      (pss_cons (ps_set (i := 8) sc_law_spoilt.nd rfl (Or.inl rfl) (pe_ca c_law_one b_law_one hr ps0 (pa_cons (pv 0) (pa_cons (pe_lst (pa_cons (pe_ix (ix_tupK K rfl) (pv 3) (pe_op op_sub (pv 7) pe_int) (fun _ _ => rfl)) (pa_cons (pe_op op_add (pe_ix (ix_tupK K rfl) (pv 3) (pv 7) (fun _ _ => rfl)) pe_int) (pa_cons (pe_op op_sub (pe_ix (ix_tupK K rfl) (pv 3) (pv 7) (fun _ _ => rfl)) pe_int) (pa_cons (pv 6) pa_nil))))) pa_nil))))
      (pss_one (ps_ret (pe_tupD (pa_cons (pe_op op_catD (pe_op op_catD (pe_slice sl_tupD (pv 3) po_none (po_some (pv 7))) (pe_tupD (pa_cons (pv 8) pa_nil))) (pe_slice sl_tupD (pv 3) (po_some (pe_op op_add (pv 7) pe_int)) po_none)) (pa_cons (pv 4) pa_nil)))))))
      pss_nil)
      (pss_cons (ps_if (pt_cmpR (op_eqDK K rfl hu64) (pv 4) (pe_tupD pa_nil) (nomark _)) (pss_one (ps_ret (pv 2)))
      pss_nil)
      (pss_cons (ps_set (i := 9) sc_law_spoilt.nd rfl (Or.inl rfl) (pe_ca c_law_take b_law_take hr ps0 (pa_cons (pv 0) (pa_cons (pe_callB (call_lenK K rfl) (by rfl) B.len (by decide +kernel) (pa_cons (pv 4) pa_nil)) pa_nil))))
      (pss_cons (ps_set (i := 10) sc_law_spoilt.nd rfl (Or.inl rfl) (pe_op op_cat (pe_lc (own := [("_law_date", 8)]) (g := (gName 8)) (by rfl) sc_law_spoilt.nd (pi_tup (pv 3)) (blkOk_by (N := N_law_spoilt) (own := [("_law_date", 8)]) (sc := defScope s_law_spoilt) (by decide +kernel)) (fun _ _ _ _ _ => pg_name (i := 8) sc_law_spoilt.nd rfl (Or.inl rfl)) (fun _ _ _ _ _ => pts_nil) (fun _ _ _ _ _ => (pv 8))) (pe_lc (own := [("_law_date", 8)]) (g := (gName 8)) (by rfl) sc_law_spoilt.nd (pi_tup (pv 3)) (blkOk_by (N := N_law_spoilt) (own := [("_law_date", 8)]) (sc := defScope s_law_spoilt) (by decide +kernel)) (fun _ _ _ _ _ => pg_name (i := 8) sc_law_spoilt.nd rfl (Or.inl rfl)) (fun _ _ _ _ _ => pts_nil) (fun _ _ _ _ _ => (pe_op op_add (pv 8) pe_int)))))
      (pss_one (ps_ret (pe_tupD (pa_cons (pv 3) (pa_cons (pe_op op_catD (pe_op op_catD (pe_slice sl_tupD (pv 4) po_none (po_some (pv 9))) (pe_tupD (pa_cons (pe_ca c_law_one b_law_one hr ps0 (pa_cons (pv 0) (pa_cons (pe_op op_cat (pv 10) (pe_lst (pa_cons (pe_op op_add (pe_ix (ix_tupK K rfl) (pv 4) (pv 9) (fun _ _ => rfl)) pe_int) (pa_cons (pe_op op_sub (pe_ix (ix_tupK K rfl) (pv 4) (pv 9) (fun _ _ => rfl)) pe_int) (pa_cons (pv 6) pa_nil))))) pa_nil))) pa_nil))) (pe_slice sl_tupD (pv 4) (po_some (pe_op op_add (pv 9) pe_int)) po_none)) pa_nil))))))))))))), ?_⟩
  have szL : ∀ n : Nat, n ≤ 100 → n ≤ sizeLine := fun n h => Nat.le_trans h (by decide)
  have hxl : (da.map V.int).length = da.length := by simp
  have hyl : (ba.map V.int).length = ba.length := by simp
  refine ⟨_, rfl, p, _, rfl, hp.sq, rfl, _, _, rfl, _, _, rfl, rfl, ?_⟩
  refine ⟨_, rfl, a, 6, rfl, hs, by decide, by decide, fun way H1 w0 w1 st1 => ?_⟩
  refine ⟨_, rfl, _, _, rfl, rfl, ⟨by decide, by decide, by decide⟩, _, _, rfl, rfl, ⟨by decide, by decide, by decide⟩, _, _, rfl, rfl, _, _, rfl, rfl, ⟨by decide, by decide, by decide⟩, _, rfl, _, _, rfl, rfl, ⟨by decide, by decide, by decide⟩, _, rfl, _, _, rfl, rfl, _, _, rfl, rfl, ⟨by decide, by decide, by decide⟩, _, rfl, (by show 5 ≤ sizeLine; decide), fun l hl => ?_⟩
  refine ⟨a, l, _, rfl, st1.1.same (Same.new hl), upd_same, st1.1.ne_none hl, (by show 0 < 5; decide), (by show 5 < 1000; decide), fun v H2 hv st2 => ?_⟩
  have hv2 : ∃ z : Int, v = .int z := by
    simp only [List.mem_cons, List.not_mem_nil, or_false] at hv
    rcases hv with rfl | rfl | rfl | rfl | rfl <;> exact ⟨_, rfl⟩
  obtain ⟨far, rfl⟩ := hv2
  clear hv
  have st02 : Stay a H H2 := st1.trans ((Stay.of_same st1.1 (Same.new hl)).trans st2)
  clear st2
  have tk02 := TK.stay hs st02
  have hx2 := hx.tk tk02
  have hy2 := hy.tk tk02
  have hp2 := hp.tk tk02
  refine ⟨_, _, rfl, ?_⟩
  -- a tuple longer by one, or shorter
  refine ⟨_, rfl, rfl, _, rfl, ?_⟩
  refine ite2 (fun h0 => ?_) (fun h0 => ?_)
  · refine ⟨_, rfl, _, rfl, _, _, rfl, rfl, ⟨by decide, by decide, by decide⟩, (by show 1 ≤ sizeLine; decide), fun c G1 g1 dc => ⟨x, c, _, _, rfl, rfl, hx2.same g1, dc, ?_, fun c2 G2 g2 dc2 => ?_⟩⟩
    · rw [hxl]
      exact szL _ (by simp; omega)
    refine ⟨_, rfl, _, rfl, _, rfl, x, _, rfl, hx2.same (g1.trans g2), fun c3 G3 g3 dc3 => ⟨(by show 2 ≤ sizeLine; decide), fun l2 hl2 => ?_⟩⟩
    obtain ⟨da3, e3, n3⟩ := cut_ints da none (some (-1))
    rw [e3] at dc3
    have sl2 := Same.new (o := .lst [.ref c2, .ref c3]) hl2
    have sG := (g1.trans g2).trans g3
    refine ⟨a, l2, _, rfl, st02.1.same (sG.trans sl2), upd_same, (st02.1.same sG).ne_none hl2, (by show 0 < 2; decide), (by show 2 < 1000; decide), fun v G4 hv g4 => ?_⟩
    have tk4 := TK.stay (st02.1.same (sG.trans sl2)) g4
    have hv2 : ∃ (r : Addr) (l : List Int), v = .ref r ∧ TupD G4 r (l.map V.int) ∧ l.length ≤ da.length + 1 := by
      simp at hv
      rcases hv with rfl | rfl
      · refine ⟨c2, da ++ [10 ^ (12 : Int).toNat], rfl, ?_, by simp⟩
        rw [List.map_append]
        exact (dc2.same (g3.trans sl2)).tk tk4
      · exact ⟨c3, da3, rfl, (dc3.same sl2).tk tk4, by omega⟩
    obtain ⟨r, l, rfl, hr, hlr⟩ := hv2
    refine ⟨_, rfl, (by show 2 ≤ sizeLine; decide), fun p' G5 g5 dp => ?_⟩
    have stf : Stay a H G5 := (st02.trans ((Stay.of_same st02.1 (sG.trans sl2)).trans g4)).same g5
    exact q p' r y l ba G5 stf dp (hr.same g5) ((hy.tk (TK.stay hs stf))) hlr (by omega)
  refine ⟨_, rfl, rfl, _, rfl, ?_⟩
  refine ite2 (fun h1 => ?_) (fun h1 => ?_)
  · refine ⟨_, rfl, _, rfl, _, rfl, (by show 1 ≤ sizeLine; decide), fun c G1 g1 dc => ⟨y, c, _, _, rfl, rfl, hy2.same g1, dc, ?_, fun c2 G2 g2 dc2 => ?_⟩⟩
    · rw [hyl]
      exact szL _ (by simp; omega)
    refine ⟨_, rfl, _, rfl, _, rfl, y, _, rfl, hy2.same (g1.trans g2), fun c3 G3 g3 dc3 => ⟨(by show 2 ≤ sizeLine; decide), fun l2 hl2 => ?_⟩⟩
    obtain ⟨da3, e3, n3⟩ := cut_ints ba none (some (-1))
    rw [e3] at dc3
    have sl2 := Same.new (o := .lst [.ref c2, .ref c3]) hl2
    have sG := (g1.trans g2).trans g3
    refine ⟨a, l2, _, rfl, st02.1.same (sG.trans sl2), upd_same, (st02.1.same sG).ne_none hl2, (by show 0 < 2; decide), (by show 2 < 1000; decide), fun v G4 hv g4 => ?_⟩
    have tk4 := TK.stay (st02.1.same (sG.trans sl2)) g4
    have hv2 : ∃ (r : Addr) (l : List Int), v = .ref r ∧ TupD G4 r (l.map V.int) ∧ l.length ≤ ba.length + 1 := by
      simp at hv
      rcases hv with rfl | rfl
      · refine ⟨c2, ba ++ [0], rfl, ?_, by simp⟩
        rw [List.map_append]
        exact (dc2.same (g3.trans sl2)).tk tk4
      · exact ⟨c3, da3, rfl, (dc3.same sl2).tk tk4, by omega⟩
    obtain ⟨r, l, rfl, hr, hlr⟩ := hv2
    refine ⟨(by show 2 ≤ sizeLine; decide), fun p' G5 g5 dp => ?_⟩
    have stf : Stay a H G5 := (st02.trans ((Stay.of_same st02.1 (sG.trans sl2)).trans g4)).same g5
    exact q p' x r da l G5 stf dp ((hx.tk (TK.stay hs stf))) (hr.same g5) (by omega) hlr
  refine ⟨fun σ' H' => σ' = [some (.ref a), some (.ref t), some (.ref p), some (.ref x), some (.ref y), some (.int way), some (.int far), none, none, none, none] ∧ Stay a H H', ?_, ?_⟩
  · refine ⟨_, rfl, _, _, rfl, rfl, _, rfl, ?_⟩
    refine ite2 (fun h2 => ?_) (fun h2 => iteF ⟨rfl, st02⟩)
    refine ⟨_, rfl, Nat.zero_le _, fun e G1 g1 de => ⟨P1 da, P1 [], dp_tup (hx2.same g1).sq, dp_tup (ns := []) de.sq, shaped_tup da, shaped_tup [], _, rfl, ?_⟩⟩
    rw [eqv1]
    refine ite2 (fun h3 => ?_) (fun h3 => ⟨rfl, st02.same g1⟩)
    have hne : da ≠ [] := by simpa using h3
    have hpos : 0 < da.length := List.length_pos_iff.mpr hne
    have hx3 := hx2.same g1
    refine ⟨_, rfl, _, rfl, x, _, rfl, .inr hx3.sq, a, _, rfl, st02.1.same g1, by omega, by omega, fun k G2 k0 k1 g2 => ?_⟩
    rw [hxl] at k1
    obtain ⟨k, rfl⟩ := Int.eq_ofNat_of_zero_le k0
    have hk : k < da.length := by omega
    have st2 : Stay a H G2 := (st02.same g1).trans g2
    have hx4 := hx3.tk (TK.stay (st02.1.same g1) g2)
    have hatk : atI (da.map V.int) ((k : Nat) : Int) = some (.int (da.getD k 0)) := by
      refine at_of (j := k) rfl ?_
      rw [List.getElem?_map, List.getElem?_eq_getElem hk, List.getD_eq_getElem?_getD, List.getElem?_eq_getElem hk]
      rfl
    have hatp : ∃ z : Int, atI (da.map V.int) (((k : Nat) : Int) - 1) = some (.int z) := by
      by_cases h0 : 0 < k
      · refine ⟨da.getD (k - 1) 0, at_of (j := k - 1) (by omega) ?_⟩
        rw [List.getElem?_map, List.getElem?_eq_getElem (by omega), List.getD_eq_getElem?_getD, List.getElem?_eq_getElem (by omega)]
        rfl
      · have e0 : k = 0 := by omega
        subst e0
        refine ⟨da.getD (da.length - 1) 0, ?_⟩
        have ei : ixN (da.map V.int).length (((0 : Nat) : Int) - 1) = some (da.length - 1) := by
          unfold ixN
          rw [hxl, if_neg (by omega), if_pos (by omega)]
          congr 1
          omega
        unfold atI
        rw [ei]
        show (da.map V.int)[da.length - 1]? = _
        rw [List.getElem?_map, List.getElem?_eq_getElem (by omega), List.getD_eq_getElem?_getD, List.getElem?_eq_getElem (by omega)]
        rfl
    obtain ⟨z, hatp⟩ := hatp
    refine ⟨_, rfl, _, rfl, _, rfl, _, _, rfl, rfl, x, _, _, _, rfl, rfl, hx4.sq, hatp, _, rfl, _, rfl, x, _, _, _, rfl, rfl, hx4.sq, hatk, _, _, rfl, rfl, _, rfl, _, rfl, x, _, _, _, rfl, rfl, hx4.sq, hatk, _, _, rfl, rfl, _, rfl, (by show 4 ≤ sizeLine; decide), fun l2 hl2 => ?_⟩
    refine ⟨a, l2, _, rfl, st2.1.same (Same.new hl2), upd_same, st2.1.ne_none hl2, (by show 0 < 4; decide), (by show 4 < 1000; decide), fun v G3 hv g3 => ?_⟩
    have hv2 : ∃ z : Int, v = .int z := by
      simp only [List.mem_cons, List.not_mem_nil, or_false] at hv
      rcases hv with rfl | rfl | rfl | rfl <;> exact ⟨_, rfl⟩
    obtain ⟨dt, rfl⟩ := hv2
    have st3 : Stay a H G3 := st2.trans ((Stay.of_same st2.1 (Same.new hl2)).trans g3)
    have hx5 := hx.tk (TK.stay hs st3)
    have hy5 := hy.tk (TK.stay hs st3)
    refine ⟨_, rfl, _, rfl, _, rfl, x, _, rfl, hx5, fun c1 G4 g4 d1 => ⟨_, rfl, (by show 1 ≤ sizeLine; decide), fun c2 G5 g5 d2 => ⟨c1, c2, _, _, rfl, rfl, d1.same g5, d2, ?_, fun c3 G6 g6 d3 => ?_⟩⟩⟩
    · exact szL _ (by rw [cut_to, List.length_take]; simp; omega)
    refine ⟨_, rfl, _, rfl, _, _, rfl, rfl, _, rfl, x, _, rfl, hx5.same ((g4.trans g5).trans g6), fun c4 G7 g7 d4 => ⟨c3, c4, _, _, rfl, rfl, d3.same g7, d4, ?_, fun c5 G8 g8 d5 => ?_⟩⟩
    · exact szL _ (by rw [cut_to, cut_fromS', List.length_append, List.length_take, List.length_drop]; simp; omega)
    rw [cut_to, cut_fromS', ← List.map_take, ← List.map_drop] at d5
    have e5 : (da.take k).map V.int ++ [V.int dt] ++ (da.drop (k + 1)).map V.int = (da.take k ++ [dt] ++ da.drop (k + 1)).map V.int := by simp
    rw [e5] at d5
    refine ⟨_, rfl, (by show 2 ≤ sizeLine; decide), fun p' G9 g9 dp => ?_⟩
    have s49 := ((((g4.trans g5).trans g6).trans g7).trans g8).trans g9
    refine q p' c5 y (da.take k ++ [dt] ++ da.drop (k + 1)) ba G9 (st3.same s49) dp (d5.same g9) (hy5.same s49) ?_ (by omega)
    simp
    omega
  · rintro σ' G ⟨rfl, st⟩
    have tkG := TK.stay hs st
    have hx3 := hx.tk tkG
    have hy3 := hy.tk tkG
    refine ⟨_, rfl, Nat.zero_le _, fun e G1 g1 de => ⟨P1 ba, P1 [], dp_tup (hy3.same g1).sq, dp_tup (ns := []) de.sq, shaped_tup ba, shaped_tup [], _, rfl, ?_⟩⟩
    rw [eqv1]
    refine ite2 (fun h3 => ?_) (fun h3 => ?_)
    · exact ⟨_, rfl, q p x y da ba G1 (st.same g1) ((hp.tk tkG).same g1) (hx3.same g1) (hy3.same g1) (by omega) (by omega)⟩
    have hne : ba ≠ [] := by simpa using h3
    have hpos : 0 < ba.length := List.length_pos_iff.mpr hne
    have hy4 := hy3.same g1
    refine ⟨_, rfl, _, rfl, y, _, rfl, .inr hy4.sq, a, _, rfl, st.1.same g1, by omega, by omega, fun k G2 k0 k1 g2 => ?_⟩
    rw [hyl] at k1
    obtain ⟨k, rfl⟩ := Int.eq_ofNat_of_zero_le k0
    have hk : k < ba.length := by omega
    have st2 : Stay a H G2 := (st.same g1).trans g2
    have hx5 := hx.tk (TK.stay hs st2)
    have hy5 := hy.tk (TK.stay hs st2)
    have hatk : atI (ba.map V.int) ((k : Nat) : Int) = some (.int (ba.getD k 0)) := by
      refine at_of (j := k) rfl ?_
      rw [List.getElem?_map, List.getElem?_eq_getElem hk, List.getD_eq_getElem?_getD, List.getElem?_eq_getElem hk]
      rfl
    refine ⟨_, rfl, x, rfl, ⟨_, hx5.sq⟩, fun D1 hD1 => lc_it (walk_tup (xs := da.map V.int)) (Cw G2 (fun _ => true) (fun i => V.int (da.getD i 0)) D1) (cw0 hD1) (fun i H' _ p => (hx5.same p.2.1).sq) ?_ ?_⟩
    · rintro i w H' H'' hi pcw ⟨rfl, hw⟩
      obtain ⟨z, hz, rfl⟩ := map_of hw
      exact ⟨rfl, _, rfl, cwY pcw (Same.refl _) (by omega) rfl (by rw [getD_of hz])⟩
    · rintro G3 ⟨r1, r2, r3⟩
      rw [hxl, givn_all da 0 (fun z => V.int z)] at r3
      refine ⟨_, rfl, x, rfl, ⟨_, (hx5.same r2).sq⟩, fun D2 hD2 => lc_it (walk_tup (xs := da.map V.int)) (Cw G3 (fun _ => true) (fun i => V.int (da.getD i 0 + 1)) D2) (cw0 hD2) (fun i H' _ p => (hx5.same (r2.trans p.2.1)).sq) ?_ ?_⟩
      · rintro i w H' H'' hi pcw ⟨rfl, hw⟩
        obtain ⟨z, hz, rfl⟩ := map_of hw
        exact ⟨rfl, _, rfl, _, _, rfl, rfl, cwY pcw (Same.refl _) (by omega) rfl (by rw [getD_of hz])⟩
      · rintro G4 ⟨t1, t2, t3⟩
        rw [hxl, givn_all da 0 (fun z => V.int (z + 1))] at t3
        refine ⟨D1, D2, _, _, rfl, rfl, t2 _ _ r3, t3, ?_, fun N hN => ?_⟩
        · exact szL _ (by simp; omega)
        have sN := Same.new (o := .lst (da.map (fun z => V.int z) ++ da.map (fun z => V.int (z + 1)))) hN
        have s24 := (r2.trans t2).trans sN
        have hy6 := hy5.same s24
        refine ⟨_, rfl, _, rfl, _, rfl, _, rfl, y, _, rfl, hy6, fun c1 G5 g5 d1 => ?_⟩
        have hy7 := hy6.same g5
        refine ⟨_, rfl, _, rfl, _, rfl, _, rfl, y, _, _, _, rfl, rfl, hy7.sq, hatk, _, _, rfl, rfl, _, rfl, _, rfl, y, _, _, _, rfl, rfl, hy7.sq, hatk, _, _, rfl, rfl, _, rfl, (by show 3 ≤ sizeLine; decide), fun l3 hl3 => ?_⟩
        have sl3 := Same.new (o := .lst [.int (ba.getD k 0 + 1), .int (ba.getD k 0 - 1), .int far]) hl3
        refine ⟨N, l3, _, _, rfl, rfl, (g5.trans sl3) _ _ upd_same, upd_same, szL _ (by simp; omega), fun M hM => ?_⟩
        have sM := Same.new (o := .lst (da.map (fun z => V.int z) ++ da.map (fun z => V.int (z + 1)) ++ [.int (ba.getD k 0 + 1), .int (ba.getD k 0 - 1), .int far])) hM
        have s5 := (s24.trans g5).trans (sl3.trans sM)
        refine ⟨a, M, _, rfl, st2.1.same s5, upd_same, (st2.1.same ((s24.trans g5).trans sl3)).ne_none hM, by simp; omega, by simp; omega, fun v G6 hv g6 => ?_⟩
        have hv2 : ∃ z : Int, v = .int z := by
          rcases List.mem_append.mp hv with h | h
          · rcases List.mem_append.mp h with h | h
            · obtain ⟨z, _, rfl⟩ := List.mem_map.mp h
              exact ⟨_, rfl⟩
            · obtain ⟨z, _, rfl⟩ := List.mem_map.mp h
              exact ⟨_, rfl⟩
          · simp only [List.mem_cons, List.not_mem_nil, or_false] at h
            rcases h with rfl | rfl | rfl <;> exact ⟨_, rfl⟩
        obtain ⟨dt, rfl⟩ := hv2
        have st6 : Stay a H G6 := (st2.same s5).trans g6
        have d1' := (d1.same (sl3.trans sM)).tk (TK.stay (st2.1.same s5) g6)
        have hy8 := hy.tk (TK.stay hs st6)
        have hx8 := hx.tk (TK.stay hs st6)
        refine ⟨(by show 1 ≤ sizeLine; decide), fun c2 G7 g7 d2 => ⟨c1, c2, _, _, rfl, rfl, d1'.same g7, d2, ?_, fun c3 G8 g8 d3 => ?_⟩⟩
        · exact szL _ (by rw [cut_to, List.length_take]; simp; omega)
        refine ⟨_, rfl, _, rfl, _, _, rfl, rfl, _, rfl, y, _, rfl, hy8.same (g7.trans g8), fun c4 G9 g9 d4 => ⟨c3, c4, _, _, rfl, rfl, d3.same g9, d4, ?_, fun c5 K1 k1' d5 => ?_⟩⟩
        · exact szL _ (by rw [cut_to, cut_fromS', List.length_append, List.length_take, List.length_drop]; simp; omega)
        rw [cut_to, cut_fromS', ← List.map_take, ← List.map_drop] at d5
        have e5 : (ba.take k).map V.int ++ [V.int dt] ++ (ba.drop (k + 1)).map V.int = (ba.take k ++ [dt] ++ ba.drop (k + 1)).map V.int := by simp
        rw [e5] at d5
        refine ⟨(by show 2 ≤ sizeLine; decide), fun p' K2 k2 dp => ?_⟩
        have s79 := (((g7.trans g8).trans g9).trans k1').trans k2
        refine q p' x c5 da (ba.take k ++ [dt] ++ ba.drop (k + 1)) K2 (st6.same s79) dp (hx8.same s79) (d5.same k2) (by omega) ?_
        simp
        omega
end
end DK
set_option Elab.async false
set_option linter.all false
set_option maxRecDepth 100000
set_option maxHeartbeats 4000000
namespace DK
open PySem PySem.Spec PyProof.Rows L2 RZ DL
abbrev s_law_told : Stmt := topS 38
abbrev N_law_told : List Str := ["_law_calendar", "_law_dates_here", "e"]
theorem sc_law_told : FnScope N_law_told ["_law_calendar", "_law_dates_here"] (defScope s_law_told) := ⟨rfl, rfl, rfl, by decide +kernel, rfl, by decide +kernel, by decide +kernel⟩
theorem b_law_told : BindOk "_law_told" s_law_told ["_law_calendar", "_law_dates_here"] := fun _ _ _ _ _ _ us hl => match us, hl with | [_, _], _ => rfl

abbrev s_law : Stmt := topS 39
abbrev N_law : List Str := ["_law_script", "_law_source", "_law_turn", "_law_calendar", "_law_dates_here", "_law_made_here", "_law_change", "_law_due_here"]
theorem sc_law : FnScope N_law ["_law_script"] (defScope s_law) := ⟨rfl, rfl, rfl, by decide +kernel, rfl, by decide +kernel, by decide +kernel⟩
theorem b_law : BindOk "law" s_law ["_law_script"] := fun _ _ _ _ _ _ us hl => match us, hl with | [_], _ => rfl

theorem dates_len {bs da ba : List Int} {m : Nat} (h : DatesOk bs m da ba) : da.length = m ∧ ba.length = bs.length := by
  unfold DatesOk dueM at h
  by_cases h1 : da.length = m
  · by_cases h2 : ba.length = bs.length
    · exact ⟨h1, h2⟩
    · rw [if_neg (fun z => z h1), if_pos h2] at h
      cases h
  · rw [if_pos h1] at h
    cases h
def PD (da ba : List Int) : PyData := .tuple [P1 da, P1 ba]
theorem shapedD (da ba : List Int) : SeqAt.shaped (PD da ba) = true := by
  have h1 := depth1 da
  have h2 := depth1 ba
  unfold SeqAt.shaped PD
  simp [PyData.canLay0, PyData.canLayAll0, lay1, PyData.depth, PyData.depthAll]
  omega
theorem eqvD (a b a' b' : List Int) : PyData.eqv (PD a b) (PD a' b') = (decide (a = a') && decide (b = b')) := by
  have h1 := eqv1 a a'
  have h2 := eqv1 b b'
  simp only [P1, PyData.eqv] at h1 h2
  simp [PD, P1, PyData.eqv, PyData.eqvAll, h1, h2]
theorem dpD {K : PySem.W.Frag} {H : Hp} {a x y : Addr} {da ba : List Int} (h : SqT K H a [.ref x, .ref y]) (hx : TupI K H x da) (hy : TupI K H y ba) : Dp K H (.ref a) (PD da ba) := .tup h (.cons (dp_tup hx) (.cons (dp_tup hy) .nil))
theorem kb_made_dates_dates_calendar : KwOk "made_dates" s_made_dates ["calendar", "dates"] ["dates", "calendar"] rev2 := fun _ _ _ _ _ _ ws hl => match ws, hl with | [_, _], _ => rfl
section
variable {P : Program} {w : World} {K : PySem.W.Frag} {mg : Str → Option Value} {base : Heap} {C f0 fC CM fR CB CF : Addr}
def spTold (K : PySem.W.Frag) (C : Addr) : Sp := fun vs H Q _ => ∃ (c p x y : Addr) (bs : List Int) (ds : List (List Int)) (da ba : List Int), vs = [.ref c, .ref p] ∧ CalAt K C H c bs ds ∧ CalOk bs ds ∧ SqT K H p [.ref x, .ref y] ∧ TupI K H x da ∧ TupI K H y ba ∧
  (dueM bs ds.length da ba = none → ∀ H', Same H H' → Q (.ref p) H') ∧ ∀ w, dueM bs ds.length da ba = some w → ∀ l r H', Same H H' → H' l = some (.lst [.ref r]) → TupD H' r (([w.1, w.2] : List Int).map V.int) → Q (.ref l) H'
theorem ca_law_told (T : Er K mg "BadDates" CB fR) (gF : mg "Refused" = some (.ref CF)) (c_made_dates : Ca P w K mg base 3 "made_dates" s_made_dates ["calendar", "dates"] (spMadeDates K C CB)) (U : Up K mg "_law_told" s_law_told) :
    Ca P w K mg base 4 "_law_told" s_law_told ["_law_calendar", "_law_dates_here"] (spTold K C) := by
  refine ca0 U sc_law_told (fun vs H Q E h => by obtain ⟨c, p, x, y, bs, ds, da, ba, rfl, _⟩ := h; rfl) fun f cdv A outer s H vs Q E hr h => ?_
  obtain ⟨c, p, x, y, bs, ds, da, ba, rfl, hcal, ok, hp, hx, hy, q1, q2⟩ := h
  refine ⟨_, (pss_one (ps_trySome (i := 2) (n := "e") (Wo := fun _ _ _ _ => False) rfl rfl sc_law_told.nd rfl rfl takes0
      (fun W pn xe tk _ => (pss_one (ps_ret (pe_cakE c_made_dates kb_made_dates_dates_calendar kv2 hr (passAt tk) (pk_cons (pv 1) (pk_cons (pv 0) pk_nil))))))
      (.more (cv := .ref CB) ⟨rfl, by decide, Or.inl T.gC⟩ (fun a oe cls d pn hz hf => (pss_one (ps_ret (pe_lst (pa_cons (pe_xf T.xf T.nw hz hf (pv 2)) pa_nil)))))
      (.more (cv := .ref CF) ⟨rfl, by decide, Or.inl gF⟩ (fun a oe cls d pn hz hf => (pss_one (ps_ret (pe_lst (pa_cons pe_str (pa_cons (pe_xf T.xf T.nw hz hf (pv 2)) pa_nil)))))) .stop)))), ?_⟩
  refine ⟨_, rfl, _, rfl, rfl, c, p, x, y, bs, ds, da, ba, rfl, hcal, ok, hp, hx, hy, fun hn H1 s1 => q1 hn H1 s1, fun w hw r H1 s1 dr dd H2 s2 hn hxd => ?_⟩
  refine ⟨true, T.te, fun _ a0 ha0 => ?_, fun z => nomatch z⟩
  refine ⟨_, rfl, rfl, rfl, dd, _, .ref r, rfl, hxd, rfl, (by show 1 ≤ sizeLine; decide), fun l hl => ?_⟩
  exact q2 w hw l r _ ((s1.trans s2).trans (Same.new hl)) upd_same (dr.same (s2.trans (Same.new hl)))
def spLaw (K : PySem.W.Frag) : Sp := fun vs H Q _ => ∃ (a : Addr) (ns : List Int), vs = [.ref a] ∧ SqL K H a (ns.map V.int) ∧ ns.length ≤ 63 ∧ ∀ H', Q (.bl true) H'
theorem ca_law (B : Bl mg) (c_law_pool : Ca P w K mg base 1 "_law_pool" s_law_pool ["_law_script", "_law_k"] (spPool K)) (c_law_one : Ca P w K mg base 2 "_law_one" s_law_one ["_law_source", "_law_things"] spOne)
    (c_law_drawn : Ca P w K mg base 4 "_law_drawn" s_law_drawn ["_law_source", "_law_most"] (spDrawn K)) (c_law_made : Ca P w K mg base 7 "_law_made" s_law_made ["_law_calendar"] (spLawMade K C)) (c_law_dates : Ca P w K mg base 3 "_law_dates" s_law_dates ["_law_source", "_law_calendar"] (spDates K))
    (c_law_told : Ca P w K mg base 4 "_law_told" s_law_told ["_law_calendar", "_law_dates_here"] (spTold K C)) (c_law_due : Ca P w K mg base 1 "_law_due" s_law_due ["_law_calendar", "_law_dates_here"] (spDue K))
    (c_law_spoilt : Ca P w K mg base 3 "_law_spoilt" s_law_spoilt ["_law_source", "_law_calendar", "_law_dates_here"] spSpoilt)
    {f : Addr} {fd : FuncData} (F : Fun K "law" "law" s_law f fd) :
    FnOk P w K mg base CX0 24 f fd ["_law_script"] (spLaw K) := by
  refine F.ok sc_law (fun vs H Q E h => by obtain ⟨a, ns, rfl, _⟩ := h; rfl) fun cdv A outer s H vs Q E hr h => ?_
  obtain ⟨a, ns, rfl, hs, hl, q⟩ := h
  have hu64 := hr.units
  refine ⟨_, (pss_cons (ps_set (i := 1) sc_law.nd rfl (Or.inl rfl) (pe_ca c_law_pool b_law_pool hr ps0 (pa_cons (pv 0) (pa_cons pe_int pa_nil))))
      (pss_cons (ps_for PassesOwn.never rfl (pi_range1 (by rfl) B.range (pa_cons pe_int pa_nil)) (pg_name (i := 2) sc_law.nd rfl (Or.inl rfl))
      (pss_cons (ps_set (i := 3) sc_law.nd rfl (Or.inl rfl) (pe_ca c_law_drawn b_law_drawn hr ps0 (pa_cons (pv 1) (pa_cons pe_int pa_nil))))
      (pss_cons (ps_par (i := 4) (j := 5) (by rfl) sc_law.nd rfl rfl (by decide) rfl rfl (pa_cons (pe_ca c_law_dates b_law_dates hr ps0 (pa_cons (pv 1) (pa_cons (pv 3) pa_nil))) (pa_cons (pe_ca c_law_made b_law_made hr ps0 (pa_cons (pv 3) pa_nil)) pa_nil)) (by rfl))
      (pss_cons (ps_if (PW.pt (pw_or (pt_cmpR (op_neDK K rfl hu64) (pe_ca c_law_told b_law_told hr ps0 (pa_cons (pv 5) (pa_cons (pv 4) pa_nil))) (pv 4) (nomark _)) (pw_or1 (pt_cmpR (op_neDK K rfl hu64) (pe_ca c_law_due b_law_due hr ps0 (pa_cons (pv 3) (pa_cons (pv 4) pa_nil))) (pe_tupD pa_nil) (nomark _))))) (pss_one (ps_ret pe_bl))
      pss_nil)
      (pss_cons (ps_for PassesOwn.never rfl (pi_range1 (by rfl) B.range (pa_cons (pe_ca c_law_one b_law_one hr ps0 (pa_cons (pv 1) (pa_cons (pe_lst (pa_cons pe_int (pa_cons pe_int (pa_cons pe_int pa_nil)))) pa_nil))) pa_nil)) (pg_name (i := 6) sc_law.nd rfl (Or.inl rfl))
      (pss_one (ps_set (i := 4) sc_law.nd rfl (Or.inl rfl) (pe_ca c_law_spoilt b_law_spoilt hr ps0 (pa_cons (pv 1) (pa_cons (pv 3) (pa_cons (pv 4) pa_nil)))))))
      (pss_cons (ps_set (i := 7) sc_law.nd rfl (Or.inl rfl) (pe_ca c_law_due b_law_due hr ps0 (pa_cons (pv 3) (pa_cons (pv 4) pa_nil))))
      (pss_one (ps_if (pt_cmpR (op_neDK K rfl hu64) (pe_ca c_law_told b_law_told hr ps0 (pa_cons (pv 5) (pa_cons (pv 4) pa_nil))) (pe_ifExp (pt_cmpR (op_eqDK K rfl hu64) (pv 7) (pe_tupD pa_nil) (nomark _)) (pv 4) (pe_lst (pa_cons (pv 7) pa_nil))) (nomark _)) (pss_one (ps_ret pe_bl))
      pss_nil))))))))
      (pss_one (ps_ret pe_bl)))), ?_⟩
  refine ⟨_, rfl, a, ns, 0, rfl, hs, hl, by decide, by decide, fun p H1 hp s1 src => ?_⟩
  refine ⟨6, rfl, by decide, by decide, for_range (lo := 0) (n := 6) (fun i σ H' => Stay p H1 H' ∧ ∃ x2 x3 x4 x5 x6 x7 : Option V, σ = [some (.ref a), some (.ref p), x2, x3, x4, x5, x6, x7]) ⟨Stay.refl src, none, none, none, none, none, none, rfl⟩ ?_ ?_⟩
  · rintro i σ H2 hi ⟨st2, x2, x3, x4, x5, x6, x7, rfl⟩
    refine ⟨_, rfl, p, 6, rfl, st2.1, by decide, by decide, fun t b d bs ds H3 st3 ht hb hd ok n6 m6 => ?_⟩
    have hsq : SqT K H3 t [.ref b, .ref d] := SqT.of ht
    refine ⟨_, rfl, _, rfl, p, t, b, d, bs, ds, rfl, st3.1, hsq, hb, hd, ok, m6, fun p4 x y da ba H4 st4 dp dx dy dok => ?_⟩
    have tk4 := TK.stay st3.1 st4
    have hsq4 := TK.seqT tk4 hsq
    have hb4 := hb.tk tk4
    have hd4 := hd.tk tk4
    refine ⟨_, rfl, t, b, d, bs, ds, rfl, hsq4, hb4, hd4, ok, fun c H5 hc s5 cal => ?_⟩
    obtain ⟨ld, lb⟩ := dates_len dok
    have st15 : Stay p H1 H5 := ((st2.trans st3).trans st4).same s5
    refine ⟨_, _, rfl, ?_⟩
    refine ⟨_, rfl, _, rfl, c, p4, x, y, bs, ds, da, ba, rfl, cal, ok, (dp.same s5).sq, (dx.same s5).sq, (dy.same s5).sq, fun _ H6 s6 => ?_, fun w hw => absurd (dok.symm.trans hw) (by simp)⟩
    have s46 := s5.trans s6
    refine ⟨_, rfl, PD da ba, PD da ba, dpD (dp.same s46).sq (dx.same s46).sq (dy.same s46).sq, dpD (dp.same s46).sq (dx.same s46).sq (dy.same s46).sq, shapedD _ _, shapedD _ _, _, rfl, ?_⟩
    refine iteFd (by rw [eqvD]; simp) ?_
    refine ⟨_, rfl, _, rfl, t, p4, b, d, x, y, bs, ds, da, ba, rfl, TK.seqT (TK.same s46) hsq4, (hb4.same s46).sq, (hd4.same s46).ti, ok, (dp.same s46).sq, (dx.same s46).sq, (dy.same s46).sq, by omega, by omega, fun r H7 s7 dr => ?_⟩
    have edue : dueM bs ds.length da ba = none := dok
    rw [edue] at dr
    refine ⟨Nat.zero_le _, fun e H8 s8 de => ⟨P1 [], P1 [], dp_tup (ns := []) (dr.same s8).sq, dp_tup (ns := []) de.sq, shaped_tup [], shaped_tup [], _, rfl, ?_⟩⟩
    refine iteFd (by rw [eqv1]; simp) ?_
    have s68 := (s6.trans s7).trans s8
    have st18 : Stay p H1 H8 := st15.same s68
    have tk48 := TK.same (s5.trans s68)
    refine ⟨_, rfl, (by show 3 ≤ sizeLine; decide), fun l3 hl3 => ?_⟩
    have sl3 := Same.new (o := .lst [.int 1, .int 1, .int 2]) hl3
    refine ⟨p, l3, _, rfl, st18.1.same sl3, upd_same, st18.1.ne_none hl3, (by show 0 < 3; decide), (by show 3 < 1000; decide), fun v H9 hv st9 => ?_⟩
    have hv2 : ∃ z : Int, v = .int z ∧ 1 ≤ z ∧ z ≤ 2 := by
      simp at hv
      rcases hv with rfl | rfl
      · exact ⟨1, rfl, by omega, by omega⟩
      · exact ⟨2, rfl, by omega, by omega⟩
    obtain ⟨n, rfl, n1, n2⟩ := hv2
    have st89 : Stay p H8 H9 := (Stay.of_same st18.1 sl3).trans st9
    have tk49 := tk48.trans (TK.stay st18.1 st89)
    have cal9 := (cal.same s68).stay st18.1 st89
    refine ⟨n, rfl, by omega, by omega, for_range (lo := 0) (n := n.toNat) (fun i2 σ H' => Stay p H9 H' ∧ ∃ (q4 xx yy : Addr) (da' ba' : List Int) (x6 : Option V), σ = [some (.ref a), some (.ref p), some (.int (0 + (i : Nat))), some (.ref t), some (.ref q4), some (.ref c), x6, x7] ∧ TupD H' q4 [.ref xx, .ref yy] ∧ TupD H' xx (da'.map V.int) ∧ TupD H' yy (ba'.map V.int) ∧ da'.length ≤ 6 + i2 ∧ ba'.length ≤ 6 + i2) ⟨Stay.refl st9.1, p4, x, y, da, ba, x6, rfl, dp.tk tk49, dx.tk tk49, dy.tk tk49, by omega, by omega⟩ ?_ ?_⟩
    · rintro i2 σ G1 hi2 ⟨g1, q4, xx, yy, da', ba', x6', rfl, e1, e2, e3, e4, e5⟩
      refine ⟨_, rfl, _, rfl, _, rfl, p, t, q4, xx, yy, da', ba', rfl, g1.1, e1, e2, e3, by omega, by omega, fun p' x' y' da2 ba2 G2 g2 f1 f2 f3 f4 f5 => ?_⟩
      exact ⟨g1.trans g2, p', x', y', da2, ba2, _, rfl, f1, f2, f3, by omega, by omega⟩
    · rintro σ G1 ⟨g1, q4, xx, yy, da', ba', x6', rfl, e1, e2, e3, e4, e5⟩
      have tk4G := tk49.trans (TK.stay st9.1 g1)
      have calG := cal9.stay st9.1 g1
      refine ⟨_, rfl, _, rfl, t, q4, b, d, xx, yy, bs, ds, da', ba', rfl, TK.seqT tk4G hsq4, (hb4.tk tk4G).sq, (hd4.tk tk4G).ti, ok, e1.sq, e2.sq, e3.sq, by omega, by omega, fun r G2 g2 dr => ?_⟩
      have stG : ∀ G3, Same G1 G3 → Stay p H1 G3 := fun G3 g => ((st18.trans st89).trans g1).same g
      refine ⟨_, rfl, _, rfl, c, q4, xx, yy, bs, ds, da', ba', rfl, calG.same g2, ok, (e1.same g2).sq, (e2.same g2).sq, (e3.same g2).sq, fun hn G3 g3 => ?_, fun w hw l r2 G3 g3 hl3 dr2 => ?_⟩
      · rw [hn] at dr
        refine ⟨_, rfl, Nat.zero_le _, fun e G4 g4 de => ⟨P1 [], P1 [], dp_tup (ns := []) (dr.same (g3.trans g4)).sq, dp_tup (ns := []) de.sq, shaped_tup [], shaped_tup [], _, rfl, ?_⟩⟩
        refine iteTd (by rw [eqv1]; simp) ?_
        have s14 := (g2.trans g3).trans g4
        refine ⟨_, rfl, PD da' ba', PD da' ba', dpD (e1.same s14).sq (e2.same s14).sq (e3.same s14).sq, dpD (e1.same s14).sq (e2.same s14).sq (e3.same s14).sq, shapedD _ _, shapedD _ _, _, rfl, ?_⟩
        exact iteFd (by rw [eqvD]; simp) ⟨stG _ s14, _, _, _, _, _, _, rfl⟩
      · rw [hw] at dr
        refine ⟨_, rfl, Nat.zero_le _, fun e G4 g4 de => ⟨P1 [w.1, w.2], P1 [], dp_tup (ns := [w.1, w.2]) (dr.same (g3.trans g4)).sq, dp_tup (ns := []) de.sq, shaped_tup _, shaped_tup [], _, rfl, ?_⟩⟩
        refine iteFd (by rw [eqv1]; simp) ?_
        refine ⟨_, rfl, (by show 1 ≤ sizeLine; decide), fun l4 hl4 => ?_⟩
        have s4 := Same.new (o := .lst [.ref r]) hl4
        have s14 := ((g2.trans g3).trans g4).trans s4
        refine ⟨PL2 [[w.1, w.2]], PL2 [[w.1, w.2]], dpL2 (qs := [r2]) (SqL.of ((g4.trans s4) _ _ hl3)) rfl ?_, dpL2 (qs := [r]) (SqL.of upd_same) rfl ?_, shapedL2 _, shapedL2 _, _, rfl, ?_⟩
        · exact fun i q ns h1 h2 => ((RowsD.one (dr2.same (g4.trans s4))).2 i q ns h1 h2).sq
        · exact fun i q ns h1 h2 => ((RowsD.one (ns := [w.1, w.2]) (dr.same ((g3.trans g4).trans s4))).2 i q ns h1 h2).sq
        · exact iteFd (by rw [eqvL2]; simp) ⟨stG _ s14, _, _, _, _, _, _, rfl⟩
  · rintro σ H2 _
    exact q _
end
end DK
set_option Elab.async false
set_option linter.all false
set_option maxRecDepth 100000
set_option maxHeartbeats 4000000
namespace DK
open PySem PySem.Spec PyProof.Rows L2 RZ DL
abbrev s_Refused___init__ : Stmt := inClass (topS 1) 0
abbrev N_Refused___init__ : List Str := ["self", "what"]
theorem sc_Refused___init__ : FnScope N_Refused___init__ ["self", "what"] (defScope s_Refused___init__) := ⟨rfl, rfl, rfl, by decide +kernel, rfl, by decide +kernel, by decide +kernel⟩

section
variable {P : Program} {w : World} {K : PySem.W.Frag} {mg : Str → Option Value} {base : Heap}
theorem er_init {f : Addr} {fd : FuncData} (F : Fun K "__init__" "Refused.__init__" s_Refused___init__ f fd) : ErI P w K mg base f := by
  refine ⟨fd, fn_up (F.ok sc_Refused___init__ (fun vs H Q E h => by obtain ⟨a, C, v, rfl, _⟩ := h; rfl) fun cdv A outer s H vs Q E hr h => ?_), F.binds fun _ _ _ _ _ _ us hl => match us, hl with | [_, _], _ => rfl⟩
  obtain ⟨a, C, v, rfl, ox, nw, ha, q⟩ := h
  refine ⟨_, (pss_one (ps_ost (pv 0) (pv 1))), ?_⟩
  exact ⟨_, rfl, _, rfl, a, C, rfl, ox, nw, .inl ⟨ha, q⟩⟩
/-- from what the head tells to the promise of the law -/
theorem all_mk {h : Heap} {fa : Addr} (X : K.In h) (G : h.Ns mainGlobals mg) (hfa : mg "law" = some (.ref fa))
    (dB : DBl K) (dA : PySem.W.nsIn K mainGlobals "abs" = some none) (dK : DKn K "GREATEST" 1000000000000) (dL : DKn K "MOST_LEAVES" 12) (dD : DKn K "MOST_DAYS" 11) (dC : DCal K s_Calendar___init__)
    (dE_BadDates : DEr K "BadDates" "Refused.__init__" s_Refused___init__)
    (dG_Refused : DGl K "Refused")
    (d_is_number : Df K "is_number" s_is_number)
    (d_is_from_to : Df K "is_from_to" s_is_from_to)
    (d_law_take : Df K "_law_take" s_law_take)
    (d_law_one : Df K "_law_one" s_law_one)
    (d_law_pool : Df K "_law_pool" s_law_pool)
    (d_is_falling : Df K "is_falling" s_is_falling)
    (d_is_pattern : Df K "is_pattern" s_is_pattern)
    (d_ask_pattern : Df K "ask_pattern" s_ask_pattern)
    (d_met : Df K "met" s_met)
    (d_less : Df K "less" s_less)
    (d_days_many : Df K "days_many" s_days_many)
    (d_ask_lines : Df K "_ask_lines" s_ask_lines)
    (d_made_calendar : Df K "made_calendar" s_made_calendar)
    (d_law_pattern : Df K "_law_pattern" s_law_pattern)
    (d_law_drawn : Df K "_law_drawn" s_law_drawn)
    (d_law_made : Df K "_law_made" s_law_made)
    (d_law_dates : Df K "_law_dates" s_law_dates)
    (d_leaves_many : Df K "leaves_many" s_leaves_many)
    (d_is_ahead_of_day : Df K "_is_ahead_of_day" s_is_ahead_of_day)
    (d_made_dates : Df K "made_dates" s_made_dates)
    (d_law_due : Df K "_law_due" s_law_due)
    (d_law_spoilt : Df K "_law_spoilt" s_law_spoilt)
    (d_law_told : Df K "_law_told" s_law_told)
    (d_law : Df K "law" s_law) :
    ∃ fd : FuncData, (∀ (s : Shared) (u : Value), BindsTo s fd ⟨[u], []⟩ [("_law_script", u)]) ∧ ∀ base : Heap, K.In base → base.Ns mainGlobals mg → FnOk P w K mg base CX0 24 fa fd ["_law_script"] (spLaw K) := by
  have B := dB.bl X G
  have Ba : BlA mg := ⟨PySem.W.mg_none_of X G dA⟩
  have Kd : KnD mg := ⟨dK.kn X G⟩
  have Kc : Kn mg := ⟨dL.kn X G, dD.kn X G⟩
  obtain ⟨C, fC, fdC, T, FC⟩ := dC.cl X G
  obtain ⟨C_BadDates, f_BadDates, fd_BadDates, T_BadDates, F_BadDates⟩ := dE_BadDates.er X G
  obtain ⟨C_Refused, g_Refused⟩ := dG_Refused.gl X G
  obtain ⟨f, fd, F, hm⟩ := (d_law.up X G).ex
  rw [hfa] at hm
  cases hm
  refine ⟨fd, fun s u => ?_, fun base _ _ => ?_⟩
  · obtain ⟨oc, od, kV, doc, pm, an, cdv, ct, osl, rfl, lk, hcd⟩ := F.ex
    exact .of_eq rfl
  have G_Calendar := ok_init (P := P) (w := w) (base := base) T FC
  have Bi_Calendar : Binds K fdC ["self", "born", "days"] [] := FC.binds fun _ _ _ _ _ _ us hl => match us, hl with | [_, _, _], _ => rfl
  have c_is_number := ca_is_number (P := P) (w := w) (base := base) B (d_is_number.up X G)
  have c_is_from_to := ca_is_from_to (P := P) (w := w) (base := base) c_is_number (d_is_from_to.up X G)
  have c_law_take := ca_take (P := P) (w := w) (base := base) B (d_law_take.up X G)
  have c_law_one := ca_one (P := P) (w := w) (base := base) B c_law_take (d_law_one.up X G)
  have c_law_pool := ca_pool (P := P) (w := w) (base := base) B (d_law_pool.up X G)
  have c_is_falling := ca_is_falling (P := P) (w := w) (base := base) B (d_is_falling.up X G)
  have c_is_pattern := ca_is_pattern (P := P) (w := w) (base := base) B c_is_number c_is_falling (d_is_pattern.up X G)
  have c_ask_pattern := ca_ask_pattern (P := P) (w := w) (base := base) c_is_pattern (d_ask_pattern.up X G)
  have c_met := ca_met (P := P) (w := w) (base := base) B c_ask_pattern (d_met.up X G)
  have c_less := ca_less (P := P) (w := w) (base := base) B c_ask_pattern (d_less.up X G)
  have c_days_many := ca_days_many (P := P) (w := w) (base := base) B T (d_days_many.up X G)
  have c_ask_lines := ca_ask_lines (P := P) (w := w) (base := base) B c_met c_less (d_ask_lines.up X G)
  have c_made_calendar := ca_made_calendar (P := P) (w := w) (base := base) B Kc T G_Calendar Bi_Calendar c_is_pattern c_is_from_to c_ask_lines (d_made_calendar.up X G)
  have c_law_pattern := ca_pattern (P := P) (w := w) (base := base) B c_law_take c_law_one (d_law_pattern.up X G)
  have c_law_drawn := ca_drawn (P := P) (w := w) (base := base) B c_law_take c_law_one c_law_pattern (d_law_drawn.up X G)
  have c_law_made := ca_law_made (P := P) (w := w) (base := base) c_made_calendar (d_law_made.up X G)
  have c_law_dates := ca_law_dates (P := P) (w := w) (base := base) B c_law_take c_law_one (d_law_dates.up X G)
  have c_leaves_many := ca_leaves_many (P := P) (w := w) (base := base) B T (d_leaves_many.up X G)
  have c_is_ahead_of_day := ca_is_ahead (P := P) (w := w) (base := base) B (d_is_ahead_of_day.up X G)
  have c_made_dates := ca_made_dates (P := P) (w := w) (base := base) B Ba Kd T c_days_many c_leaves_many c_is_ahead_of_day T_BadDates (er_init F_BadDates) (d_made_dates.up X G)
  have c_law_due := ca_law_due (P := P) (w := w) (base := base) B (d_law_due.up X G)
  have c_law_spoilt := ca_law_spoilt (P := P) (w := w) (base := base) B c_law_take c_law_one (d_law_spoilt.up X G)
  have c_law_told := ca_law_told (P := P) (w := w) (base := base) T_BadDates g_Refused c_made_dates (d_law_told.up X G)
  exact ca_law B c_law_pool c_law_one c_law_drawn c_law_made c_law_dates c_law_told c_law_due c_law_spoilt F
end
theorem walk {l : PySem.W.OpenLaw} {q : Program} {loose : List Str} {XP : (Str → Option Value) → Heap → Prop} {YP : World → Heap → Prop} {d : DefRec} {K : Params → PySem.W.Frag} (hn : l.most = some 63) (hdf : d.params.defaults = [])
    (hY : ∀ (w : World) (h : Heap), YP w h → (K w.params).In h)
    (F : ∀ (w : World) (mg : Str → Option Value) (fa : Addr) (h : Heap), (K w.params).In h → h.Ns mainGlobals mg → mg d.name = some (.ref fa) →
      ∃ fd : FuncData, (∀ (s : Shared) (u : Value), BindsTo s fd ⟨[u], []⟩ [("_law_script", u)]) ∧ ∀ base : Heap, (K w.params).In base → base.Ns mainGlobals mg → FnOk l.prog w (K w.params) mg base CX0 24 fa fd ["_law_script"] (spLaw (K w.params))) :
    PySem.W.WalkO q loose XP YP l.row.toRowW d [] (fun f vs => PySem.call f vs) :=
  L2.walk_of (n := 63) (k := 24) (x := "_law_script") (CX := fun _ => CX0) (sp := fun w => spLaw (K w.params)) hn (by decide) hdf ⟨rfl, by decide, by decide⟩ hY F (fun _ _ a ns hl _ hS => ⟨a, ns, rfl, hS, hl, fun _ => rfl⟩) fun _ _ _ _ _ z => z
end DK
open PySem PySem.W PyProof.Rows
set_option Elab.async false
local macro_rules | `(tactic| walk_at "df") => `(tactic| (refine' DL.Df.of ?h1 ?h2 ?h3 ?h4; (case h1 => k_is); (case h2 => k_is); (case h3 => k_is); (case h4 => k_is)))
local macro_rules | `(tactic| walk_at "der") => `(tactic| (refine' DL.DEr.of ?h1 ?h2 ?h3 ?h4 ?h5 ?h6 ?h7 ?h8 ?h9 ?h10 ?h11 ?h12 ?h13 ?h14 ?h15 ?h16 ?h17 ?h18; (case h1 => k_is); (case h2 => k_is); (case h3 => decide +kernel); (case h4 => k_is); (case h5 => k_is); (case h6 => k_is); (case h7 => k_is); (case h8 => k_is); (case h9 => k_is); (case h10 => k_is); (case h11 => k_is); (case h12 => k_is); (case h13 => k_is); (case h14 => k_is); (case h15 => (first | rfl | k_is)); (case h16 => k_is); (case h17 => k_is); (case h18 => k_is)))
local macro_rules | `(tactic| walk_at "dcal") => `(tactic| (refine' DL.DCal.of ?h1 ?h2 ?h3 ?h4 ?h5 ?h6 ?h7 ?h8 ?h9 ?h10 ?h11 ?h12 ?h13 ?h14; (case h1 => k_is); (case h2 => k_is); (case h3 => k_is); (case h4 => k_is); (case h5 => k_is); (case h6 => k_is); (case h7 => k_is); (case h8 => k_is); (case h9 => k_is); (case h10 => k_is); (case h11 => k_is); (case h12 => k_is); (case h13 => k_is); (case h14 => k_is)))
local macro_rules | `(tactic| walk_at "dkn") => `(tactic| (refine' DL.DKn.of ?h1; (case h1 => k_is)))
set_option maxRecDepth 100000 in
set_option maxHeartbeats 0 in
theorem PySem.Challenge.cw_datedlines_k29_dates_taken_and_refused_holds : PySem.Challenge.rw_datedlines_k29_dates_taken_and_refused.Holds := by
  w_on; o_law; k_head; (case hw => w_witness2)
  k_fill
  refine DK.walk (l := PySem.Challenge.rw_datedlines_k29_dates_taken_and_refused) rfl rfl (fun w h Y => PySem.W.kIn_of Y) ?F
  case F =>
    intro w mg fa h KX G hmg
    refine' DK.all_mk KX G hmg ?dB ?dA ?dK ?dL ?dD ?dC ?dE_BadDates ?dG_Refused ?d_is_number ?d_is_from_to ?d_law_take ?d_law_one ?d_law_pool ?d_is_falling ?d_is_pattern ?d_ask_pattern ?d_met ?d_less ?d_days_many ?d_ask_lines ?d_made_calendar ?d_law_pattern ?d_law_drawn ?d_law_made ?d_law_dates ?d_leaves_many ?d_is_ahead_of_day ?d_made_dates ?d_law_due ?d_law_spoilt ?d_law_told ?d_law
    (case dB => refine' ⟨⟨?xb1, ?xb2, ?xb3, ?xb4, ?xb5, ?xb6, ?xb7, ?xb8, ?xb9, ?xb10, ?xb11, ?xb12, ?xb13⟩⟩ <;> k_is)
    (case dA => k_is)
    (case dK => walk_at "dkn")
    (case dL => walk_at "dkn")
    (case dD => walk_at "dkn")
    (case dC => walk_at "dcal")
    (case dE_BadDates => walk_at "der")
    (case dG_Refused => refine' DL.DGl.of ?hx; (case hx => k_is))
    all_goals walk_at "df"
#print axioms PySem.Challenge.cw_datedlines_k29_dates_taken_and_refused_holds
