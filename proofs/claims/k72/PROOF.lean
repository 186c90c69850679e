import PyProof.Rows.All
import Wide.All
import OpenK.AllK
import Wide.FinOn
import KE.KTupSum
import KE.DataFind
import KE.GoesEnum
import HandS.ForMost
import HandS.ForExc
import HandS.ExcInit
import HandS.ExcField
import HandS.IsInst
import HandS.Zip
import HandS.TupAny
import HandS.TupMul
import HandS.Walk
import HandS.Wide
import HandS.Style
import HandS.Conv
import HandS.Defaults
import HandS.CallLocal
import HandS.SetFor
import HandS.Evl
import HandS.TryMany
import HandS.Dict
import HandS.Lambda
import HandS.NestedK
import HandS.EndOwn
import HandS.Gcd
import HandS.TupSets
import HandS.SortKw
import KE.SortData
import HandS.DictComp
import HandS.ForDict
import PyProof.TupleOfSeq
import KE.DataMinMax
import HandS.Ends
import PyProof.ReprRoads
import PyProof.ReprLen
import PySem.Challenge.RW_datedlines_k72_leaves_of_depths_that_mee
set_option Elab.async false
set_option linter.all false
set_option maxRecDepth 100000
set_option maxHeartbeats 2000000
/-! rules of my own beside the layer: sum of a tuple, count in a tuple, enumerate over a tuple, calls by keywords alone, a call of a local that may raise -/
namespace DL
open PySem PySem.Spec PyProof.Rows L2 RZ
section
variable {X : Cx}
/-- sum(t) of a tuple of ints -/
def rSumT (K : PySem.W.Frag) : List V → Hp → VK → Prop := fun vs H Q => ∃ (a : Addr) (ns : List Int), vs = [V.ref a] ∧ SqT K H a (ns.map V.int) ∧ Q (.int ns.sum) H
theorem cr_sumT (hc : X.calm = true) : CallR X (.builtin "sum") (rSumT X.K) := by
  intro pins s σ H vs us Q I r h
  obtain ⟨a, ns, rfl, hs, q⟩ := h
  obtain ⟨its, rv, hl, _⟩ := I.tuple hs
  rw [Vals.ref1 r]
  have hi : IntsAre its ns := rv.ints
  obtain ⟨xs, e⟩ := hi.allInts.items
  have hn : numsOf (intItems xs).toList = ns := by rw [← e]; exact hi.numsOf
  rw [nums_intItems] at hn
  have hl' : s.heap.IsTuple a its.toArray := hl
  rw [e] at hl'
  refine PySem.W.ktm_sumG (I.ok.hd hc) hl' fun h' tk t' hk => ?_
  refine ⟨.int _, H, I.kept hk, ⟨t', rfl⟩, ?_⟩
  rw [preSum_eq, List.take_of_length_le (by simp), hn]
  exact q
/-- t.count(k) of a tuple of ints -/
def rCntT (K : PySem.W.Frag) : V → List V → Hp → VK → Prop := fun x xs H Q => ∃ (p : Addr) (ns : List Int) (k : Int), x = .ref p ∧ xs = [.int k] ∧ SqT K H p (ns.map V.int) ∧ Q (.int (ns.count k : Nat)) H
theorem mt_tcount : MtR X "tuple.count" (rCntT X.K) := by
  intro pins s σ H x xs v us Q I rx rxs h
  obtain ⟨p, ns, k, rfl, rfl, hs, q⟩ := h
  cases rx
  obtain ⟨u, rfl, ru⟩ := rxs.one
  obtain ⟨t, rfl⟩ := ru
  obtain ⟨its, rv, ⟨⟨cls, dd, data, sl⟩, ho, hc, n, hd⟩, hlen⟩ := I.tuple hs
  simp only at hc hd
  subst hc hd
  have hi := ints_of_vals rv
  refine call_meets PySem.F.slot_tuple_count ⟨_, ho, rfl⟩ PySem.F.entry_tuple_count (PySem.F.args_tuple_count_2 _ _)
    (SeqAt.tuple_countAt p its.toArray n dd sl (.int k t) (eqk k)) ⟨ho, fun y hy => (eqk_gives hi y (by simpa using hy)).at _ _, ?_⟩
  have ec : its.toArray.toList.countP (eqk k) = ns.count k := eqk_count hi
  refine ⟨.int (ns.count k : Nat), H, I.tok _, ⟨s.toks, ?_⟩, q⟩
  show Value.int ((its.toArray.toList.countP (eqk k) : Nat) : Int) s.toks = Value.int ((ns.count k : Nat) : Int) s.toks
  rw [ec]
end
/-! enumerate over a tuple -/
def IteT (K : PySem.W.Frag) (a : Addr) : It :=
  ⟨fun i H => ∃ (xs : List V) (x : V), SqT K H a xs ∧ xs[i]? = some x, fun i H v H' => ∃ T x, v = .ref T ∧ H T = none ∧ H' = upd H T (.tup [.int (i : Nat), x]) ∧ ∀ xs, SqT K H a xs → xs[i]? = some x, fun i H => ∃ xs : List V, SqT K H a xs ∧ xs.length = i⟩
theorem turn_enumT {P : Program} {w : World} {K : PySem.W.Frag} {elts : List Expr} {kk : Nat} {tpos : Pos} (a e it : Addr) :
    Turn P w K (.Tuple elts kk tpos) (IteT K a) [e, it] e (fun i h => (∃ old, IsEnum h e it ((i : Nat) : Int) old) ∧ h.IsTupleIter it a i ∧ e ≠ it ∧ a ≠ it) where
  mem := by simp
  obj := fun i h st b hb => by
    obtain ⟨⟨old, he⟩, ⟨o, ho, hc, hd⟩, _⟩ := st
    have e' : b = e ∨ b = it := by simpa using hb
    rcases e' with z | z
    · rw [z]; exact ⟨_, he, fun v q => nomatch q⟩
    · rw [z]; exact ⟨o, ho, fun v q => by rw [hd] at q; cases q⟩
  keep := fun i h h' st k => let ⟨⟨old, he⟩, hi, hne⟩ := st; ⟨⟨old, k e (by simp) _ he⟩, hi.at fun o q => k it (by simp) o q, hne⟩
  item := by
    intro X hP hw hK hc i pins s σ H E I hf st hg
    subst hP hw hK
    obtain ⟨⟨old, he⟩, hit, hne, hna⟩ := st
    obtain ⟨xs, x, hq, hx⟩ := hg
    obtain ⟨its, rv, p, hz⟩ := I.tuple hq
    obtain ⟨u, hu, ru⟩ := rv.get hx
    have hel : e < s.heap.objs.size := Heap.lt_size he
    have hil : it < s.heap.objs.size := by obtain ⟨_, q, _⟩ := hit; exact Heap.lt_size q
    have hal : a < s.heap.objs.size := by obtain ⟨_, q, _⟩ := p; exact Heap.lt_size q
    have hlt : i < its.toArray.size := by
      have := (List.getElem?_eq_some_iff.mp hu).1
      simpa using this
    have hea : e ≠ a := by
      intro z
      obtain ⟨o, q1, q2, _⟩ := p
      rw [← z] at q1
      have he' : s.heap.get? e = some _ := he
      rw [he'] at q1
      cases q1
      injection q2 with z2
      exact absurd z2 (by decide)
    refine wpAny_pyNext_enum_itemD (Draws.tuple (prog := X.prog) (w := X.w) (A := X.A.in1) (show X.A.in1.handled = none from I.ok.hd hc) it a hna its.toArray) he ⟨hit, p⟩ hlt hne (by simp [hne, hea]) fun x' h' tk hP ho hs' hT hsz hk => ?_
    have hxu : x' = u := by
      have hP' : its.toArray[i]? = some x' := hP
      rw [List.getElem?_toArray, hu] at hP'
      exact (Option.some.inj hP').symm
    subst hxu
    refine ⟨_, rfl, wpAny_letOwnedTupleGo_enum (s := { s with heap := h', toks := tk + 1 }) ho fun h'' he' sb => ?_⟩
    have hT2 : h''.get? s.heap.objs.size = some { cls := .type "tuple", data := .seq #[.int i tk, x'] } := (sb.2 _ (Nat.ne_of_gt hel)).trans hT
    have new : ObjOk X.prog X.w (upd H s.heap.objs.size (.tup [.int (i : Nat), x])) h'' s.heap.objs.size (.tup [.int (i : Nat), x]) :=
      ⟨by show 2 ≤ sizeLine; decide, [.int i tk, x'], .cons ⟨_, rfl⟩ (.cons ru .nil), ⟨_, hT2, rfl, _, rfl⟩⟩
    have I1 : Inv X pins σ (upd H s.heap.objs.size (.tup [.int (i : Nat), x])) { s with heap := h'', toks := tk + 1 } :=
      I.turnedNew (ch := [e, it]) (fun b ob hb q => (sb.2 b (fun z => hb (by simp [z]))).trans (hk b ob (fun z => hb (by simp [z])) (fun z => hb (by simp [z])) q)) hf (Nat.le_refl _) new
    refine ⟨.ref s.heap.objs.size, _, I1, rfl, ⟨_, x, rfl, I.hok.fresh (Nat.le_refl _), rfl, fun ys hy => by rw [I.tuple_inj hy hq]; exact hx⟩, ⟨⟨x', ?_⟩, hs'.1.at fun o q => (sb.2 it (Ne.symm hne)).trans q, hne, hna⟩, fun b hb => ?_⟩
    · have e1 : ((i + 1 : Nat) : Int) = (i : Int) + 1 := by omega
      rw [e1]; exact he'
    · have hb' : b < s.heap.objs.size := by
        have e' : b = e ∨ b = it := by simpa using hb
        rcases e' with z | z
        · rw [z]; exact hel
        · rw [z]; exact hil
      rw [upd_ne (Nat.ne_of_lt hb')]
      exact (hf b hb).1
  done := by
    intro X hP hw hK hc i pins s σ H E I hf st hg
    subst hP hw hK
    obtain ⟨⟨old, he⟩, hit, hne, hna⟩ := st
    obtain ⟨xs, hq, hx⟩ := hg
    obtain ⟨its, rv, p, hz⟩ := I.tuple hq
    obtain ⟨f0, f1, f2, f3, f4, f5⟩ := hf it (by simp)
    have hl := rv.length
    have hn : its.toArray.size = i := by
      show its.length = i
      omega
    refine wpAny_pyNext_enum_endD (n := its.toArray.size) (Draws.tuple (prog := X.prog) (w := X.w) (A := X.A.in1) (show X.A.in1.handled = none from I.ok.hd hc) it a hna its.toArray) he ⟨by rw [hn]; exact hit, p⟩ fun h' eb => ⟨rfl, I.turned (t' := s.toks) (fun b o hb q => eb b o hb q) f0 f1 f3 f4 f5⟩
  self := fun A i s Q E st h => let ⟨⟨_, he⟩, _⟩ := st; wpAny_pyIter_enum he h
set_option maxHeartbeats 4000000 in
theorem meets_enumerate_new1 {v : Value} {o : Obj} {H : Heap → Prop} (B : Begins v o H) :
    Meets (Builtin.«enumerate.__new__» ⟨[.type "enumerate", v], []⟩) (fun _ R s => H s.heap ∧
      R (.ok (.ret (.ref (s.heap.push o).objs.size))) { s with heap := (s.heap.push o).push { cls := .type "enumerate", data := .fields #[.none, .bool false, .ref s.heap.objs.size, rawInt 0, .none, .none] } }) :=
  .of_wp fun prog w A R s h => by
    obtain ⟨hp, g, d, tk, os⟩ := s; obtain ⟨h1, h⟩ := h
    have hsub := sub_enumerate
    have q1 : ∀ {A' : Around} {E : Value → Shared → Prop} {Q : Value → Shared → Prop}, Q (.ref hp.objs.size) ⟨hp.push o, g, d, tk, os⟩ → wpAny (model prog w) A' (pyIter v) Q E ⟨hp, g, d, tk, os⟩ :=
      fun q => B.iter prog w _ _ ⟨hp, g, d, tk, os⟩ _ h1 q
    wp_walk using q1
    refine wpAny_stack_any fun st => wpAny_pure ?_
    split
    · rename_i c _ _ _ _ _
      cases (c == Value.type "enumerate")
      · wp_walk using q1
        exact ⟨_, rfl, h⟩
      · wp_walk using q1
        exact ⟨_, rfl, h⟩
    · wp_walk using q1
      exact ⟨_, rfl, h⟩
section
variable {prog : Program} {w : World} {A : Around} {E : Value → Shared → Prop} {s : Shared}
theorem call_enum1 {v : Value} {o : Obj} {H : Heap → Prop} {Q : Value → Shared → Prop} (B : Begins v o H) (h1 : H s.heap)
    (h : ∀ h', IsEnum h' (s.heap.objs.size + 1) s.heap.objs.size 0 .none → h'.get? s.heap.objs.size = some o → h'.objs.size = s.heap.objs.size + 2 →
      (∀ b o, s.heap.get? b = some o → h'.get? b = some o) → Q (.ref (s.heap.objs.size + 1)) { s with heap := h' }) :
    wpAny (model prog w) A (call (.type "enumerate") [v]) Q E s := by
  refine callType_new F.called_enumerate (by decide) (F.typeCall_enumerate_1 _) (F.newCall_enumerate_1 _) (fun obj => F.args_object_init_2 obj _) F.entry_enumerate_new
    (meets_enumerate_new1 B) ⟨h1, ?_⟩
  have hz : (s.heap.push o).objs.size = s.heap.objs.size + 1 := Heap.size_push ..
  show _ ∧ _
  rw [hz]
  have he : IsEnum ((s.heap.push o).push { cls := .type "enumerate", data := .fields #[.none, .bool false, .ref s.heap.objs.size, rawInt 0, .none, .none] }) (s.heap.objs.size + 1) s.heap.objs.size 0 .none := by
    have := Heap.get?_push_size (s.heap.push o) (o := { cls := .type "enumerate", data := .fields #[.none, .bool false, .ref s.heap.objs.size, rawInt 0, .none, .none] }) rfl
    rw [hz] at this; exact this
  refine ⟨⟨_, he, rfl⟩, h _ he (Heap.get?_push_of_some _ (Heap.get?_push_size _ B.free)) (by rw [Heap.size_push, hz]) fun b o x => Heap.get?_push_of_some _ (Heap.get?_push_of_some _ x)⟩
end
def iEnumT (K : PySem.W.Frag) (ta : TA) : TI := fun σ H R => ta σ H fun vs H1 => ∃ a xs, vs = [.ref a] ∧ SqT K H1 a xs ∧ R (IteT K a) H1
theorem pi_enumT {X : Cx} {e : Expr} {ta : TA} {p pos tpos : Pos} {elts : List Expr} {kk : Nat} (hg : Gl X "enumerate") (hm : X.mg "enumerate" = none) (ha : PA X [e] ta) (hs : starEach [e] X.env = [(false, eval e X.env)] := by rfl) :
    PI X (.Tuple elts kk tpos) (.Call (.Name "enumerate" p) [e] [] pos) (iEnumT X.K ta) := by
  refine ⟨fun pins s σ H R I h => ?_⟩
  refine Call_ (ld_blt I hg hm boot_enumerate (PyProof.Rows.callWith_type1 (thn (ha.run pos pins s σ H _ I h) fun us s1 ⟨vs, H1, I1, r1, q1⟩ => ?_) hs rfl))
  obtain ⟨a, xs, ex, hq, q⟩ := q1
  subst ex
  cases r1 with
  | cons r rr =>
    cases rr
    cases r
    obtain ⟨its, rv, p', hz⟩ := I1.tuple hq
    have hal : a < s1.heap.objs.size := by obtain ⟨_, q, _⟩ := p'; exact Heap.lt_size q
    refine call_enum1 (begins_tuple a its.toArray) p' fun h' he hit hsz hk => wpAny_pyIter_enum he ?_
    have I2 : Inv X pins σ H1 { s1 with heap := h' } := I1.kept (t' := s1.toks) hk
    refine ⟨s1.heap.objs.size + 1, [s1.heap.objs.size + 1, s1.heap.objs.size], _, _, H1, rfl, I2, turn_enumT a (s1.heap.objs.size + 1) s1.heap.objs.size, ⟨⟨.none, he⟩, ⟨_, hit, rfl, rfl⟩, Nat.succ_ne_self _, Nat.ne_of_lt hal⟩, fun b hb => ?_, q⟩
    have e' : b = s1.heap.objs.size + 1 ∨ b = s1.heap.objs.size := by simpa using hb
    have hle : s1.heap.objs.size ≤ b := by
      rcases e' with z | z
      · rw [z]; exact Nat.le_add_right _ _
      · rw [z]; exact Nat.le_refl _
    exact I1.fpOk hle (I1.hok.fresh hle)
theorem walk_enumT {K : PySem.W.Frag} {a : Addr} {xs : List V} : Walk (IteT K a) xs.length (fun H => SqT K H a xs) (YPair (fun i => some (.int (i : Nat))) (fun i => xs[i]?)) := by
  refine ⟨fun i _ hi q => ⟨xs, xs[i], q, by simp [hi]⟩, fun _ q => ⟨xs, q, rfl⟩, fun i H v H' _ q y => ?_⟩
  obtain ⟨T, x, h1, h2, h3, h4⟩ := y
  exact ⟨T, .int (i : Nat), x, h1, h2, h3, rfl, h4 xs q⟩
/-! calls -/
section
variable {X : Cx} {CX : CXT} {k n i : Nat} {f : Addr} {fd : FuncData} {ps ks : List Str} {sp : Sp} {E : XK} {x : Str} {p pos : Pos} {e : Expr} {es : List Expr} {t tk : TA} {kws : List Keyword} {g : List Value → List Value → List Value} {gV : List V → List V → List V}
/-- f(k = v, ..): keywords alone -/
def tCallKw (m : Nat) (sp : Sp) (gV : List V → List V → List V) (E : XK) (tk : TA) : TE := fun σ H Q => tk σ H fun zs H1 => zs.length = m ∧ sp (gV [] zs) H1 Q E
theorem pe_callKw (F : FnOk X.prog X.w X.K X.mg X.base CX k f fd ps sp) (hr : Room k X.A) (hg : Gl X x) (hm : X.mg x = some (.ref f)) (hk : PySem.W.keepIn X.K (.ref f) = true) (hb : KBn X.K fd ps 0 ks g gV) (hx : Passes CX X E) (hkw : PK X kws tk)
    (hall : (backToKw pos (keywordEach kws X.env)).all (·.1.isSome) = true := by rfl) (hks : (backToKw pos (keywordEach kws X.env)).filterMap (·.1) = ks := by rfl) (hdb : (x == ("__debug__" : Str)) = false := by decide)
    (hpl : ((backTo pos (starEach [] X.env)).any (·.1) || (backToKw pos (keywordEach kws X.env)).any (·.1.isNone)) = false := by rfl) :
    PE X (.Call (.Name x p) [] kws pos) (tCallKw ks.length sp gV E tk) := by
  refine ⟨fun pins s σ H Q I h => ?_⟩
  refine wpAny_Call_Name_kw (ld_glob I hg hm ?_ hdb)
  refine PySem.W.callWith_KW0 (h₀ := X.base) I.ok.mod.kin hk hall ?_ hpl
  refine thn (hkw.run pos pins s σ H _ I h) fun ws s2 ⟨zs, H2, I2, rz, l2, q2⟩ => ⟨I2.kIn, ?_⟩
  rw [hks]
  exact run_fnN (us := []) (vs := []) F hr hb hx I2 .nil rz rfl l2 q2
/-- a call of a local that holds the def at f, of which something may be raised -/
def tCallLS (i : Nat) (A : Addr → Option Sp) (E : L2.St → XK) (t : TA) : TE := fun σ H Q => ∃ f sp, σ[i]? = some (some (.ref f)) ∧ A f = some sp ∧ t σ H fun vs H1 => sp vs H1 Q (E σ)
structure HeldX (P : Program) (w : World) (K : PySem.W.Frag) (mg : Str → Option Value) (base : Heap) (k : Nat) (f : Addr) (sp : Sp) : Prop where
  ex : ∃ (fd : FuncData) (ps : List Str), FnOk P w K mg base (L2.CX P w) k f fd ps sp ∧ PySem.W.keepIn K (.ref f) = true ∧ Binds K fd ps []
theorem pe_callLS {A : Addr → Option Sp} {E : L2.St → XK} (hA : ∀ f sp, A f = some sp → HeldX X.prog X.w X.K X.mg X.base k f sp) (hr : Room k X.A) (hN : X.N[i]? = some x) (hv : Vis X.env.scope x) (hx : ∀ σ, PassesAt (L2.CX X.prog X.w) X σ (E σ)) (ha : PA X (e :: es) t)
    (hdb : (x == ("__debug__" : Str)) = false := by decide) (hcd : (x == ("__classdict__" : Str)) = false := by decide)
    (he : starEach (e :: es) X.env = (false, eval e X.env) :: starEach es X.env := by rfl) (hpl : (backTo pos (starEach es X.env)).any (·.1) = false := by rfl) : PE X (.Call (.Name x p) (e :: es) [] pos) (tCallLS i A E t) := by
  refine ⟨fun pins s σ H Q I h => ?_⟩
  obtain ⟨f, sp, hs, hS, ht⟩ := h
  obtain ⟨fd, ps, F, hk, hb⟩ := (hA f sp hS).ex
  refine wpAny_Call_Name_kw (thn ((pe_var (pos := p) hN hv hdb hcd).run pins s σ H (fun v H1 => v = .ref f ∧ H1 = H) I ⟨.ref f, hs, rfl, rfl⟩) fun u s1 ⟨v, H1, I1, r1, q1⟩ => ?_)
  obtain ⟨rfl, rfl⟩ := q1
  cases r1
  refine PySem.W.callWith_K (h₀ := X.base) I.ok.mod.kin hk (thn (ha.run pos pins s1 σ _ _ I1 ht) fun us s2 ⟨vs, H2, I2, r, q⟩ => ⟨I2.kIn, ?_⟩) he hpl
  exact run_fnS F hr hb (hx σ) I2 r q
end

/-! tuples that are known to have no dict -/
def tupO (its : Array Value) (n : Nat) : Obj := { cls := .type "tuple", data := .seq its n }
def TupD (H : Hp) (p : Addr) (xs : List V) : Prop := ∃ (its : Array Value) (n : Nat), H p = some (.frz (tupO its n) (.tup xs))
theorem TupD.sq {K : PySem.W.Frag} {H : Hp} {p : Addr} {xs : List V} (h : TupD H p xs) : SqT K H p xs := by
  obtain ⟨its, n, e⟩ := h
  exact .inl (.inr ⟨_, e⟩)
theorem TupD.same {H H' : Hp} {p : Addr} {xs : List V} (h : TupD H p xs) (s : Same H H') : TupD H' p xs := by
  obtain ⟨its, n, e⟩ := h
  exact ⟨its, n, s _ _ e⟩
/-- what a new tuple of xs asks -/
def NewT (xs : List V) (H : Hp) (Q : VK) : Prop := ∀ p H', Same H H' → TupD H' p xs → Q (.ref p) H'
theorem same_new {H : Hp} {p : Addr} {o : HO} (h : H p = none) : Same H (upd H p o) := fun b u e => by
  rw [upd_ne (ne_of_none e h)]
  exact e
theorem laidD {X : Cx} {pins : List (Addr × Obj)} {σ : L2.St} {H : Hp} {s : Shared} {xs : List V} {us : List Value} {t : Nat} (I : L2.Inv X pins σ H s) (hz : xs.length ≤ sizeLine) (r : Vals xs us) :
    ∃ H', L2.Inv X pins σ H' { s with heap := s.heap.push { cls := .type "tuple", data := .seq us.toArray }, toks := t } ∧ Same H H' ∧ TupD H' s.heap.objs.size xs := by
  have hf : H s.heap.objs.size = none := I.hok.fresh (Nat.le_refl _)
  refine ⟨upd H s.heap.objs.size (.frz (tupO us.toArray 0) (.tup xs)), I.laid (t' := t) (fun b u e => Heap.get?_push_of_some _ e) (Nat.le_refl _) ?_, same_new hf, ⟨_, _, upd_same⟩⟩
  exact ⟨Heap.get?_push_size _ rfl, hz, us, r, IsTup.new _ _⟩
section
variable {X : Cx}
/-- tuple(l) of a list -/
theorem call_tuple_D : CallR X (.type "tuple") (fun xs H Q => ∃ p ys, xs = [.ref p] ∧ SqL X.K H p ys ∧ NewT ys H Q) := by
  intro pins s σ H xs us Q I r h
  obtain ⟨p, ys, rfl, hq, q⟩ := h
  obtain ⟨u, rfl, rx⟩ := vals1 r
  cases rx
  obtain ⟨its, r', pl, hz⟩ := I.list hq
  have hlen := r'.length
  refine call_tuple_list pl.isList (fun h' kp => ?_) (by simp only [List.size_toArray] <;> omega)
  have I1 : L2.Inv X pins σ H { s with heap := h' } := I.kept (t' := s.toks) kp
  obtain ⟨H', I', s', d'⟩ := laidD (t := s.toks) I1 hz r'
  exact ⟨.ref h'.objs.size, H', I', rfl, q _ _ s' d'⟩
def tBMD (r : V → List V → Hp → VK → Prop) (to : TE) (t : TA) : TE := fun σ H Q => to σ H fun x H1 => (∃ p xs, x = .ref p ∧ TupD H1 p xs) ∧ t σ H1 fun xs H2 => r x xs H2 Q
variable {o e : Expr} {es : List Expr} {to : TE} {t : TA} {name : Str} {apos cpos : Pos} {id : String} {r : V → List V → Hp → VK → Prop}
theorem pe_bmD (pa : PlainAttrs "tuple") (slot : Slot "tuple" name id) (hty : typeOf (.builtin id) = pure (.type "method_descriptor")) (hm : MtR X id r) (ho : PE X o to) (ha : PA X (e :: es) t)
    (hbase : attributeBase o name X.env (eval o X.env) = eval o X.env := by rfl)
    (hfew : ((backTo cpos (starEach (e :: es) X.env)).all (fun x => !x.1) && (backToKw cpos (keywordEach [] X.env)).all (fun x => x.1.isSome)
      && decide ((e :: es).length + ([] : List Keyword).length + (if ([] : List Keyword).isEmpty then 0 else 1) < 30)) = true := by rfl)
    (hline : (apos.endLine == cpos.line) = true := by rfl) (hs : starEach (e :: es) X.env = (false, eval e X.env) :: starEach es X.env := by rfl) (hplain : (backTo cpos (starEach es X.env)).any (·.1) = false := by rfl) :
    PE X (.Call (.Attribute o name apos) (e :: es) [] cpos) (tBMD r to t) := by
  refine ⟨fun pins s σ H Q I h => ?_⟩
  refine wpAny_Call_method_late hbase hfew hline rfl (thn (ho.run pins s σ H _ I h) fun v s1 ⟨x, H1, I1, r1, ty, q1⟩ => ?_)
  have hh : s1.TypeIs v "tuple" ∧ ∀ a, v = .ref a → ∃ ob, s1.heap.get? a = some ob ∧ ob.dict = none := by
    obtain ⟨p, xs, rfl, its0, n0, e1⟩ := ty
    cases r1
    obtain ⟨g1, g2, its, g3, o2, g4, g5, g6⟩ := I1.hok p _ e1
    refine ⟨⟨o2, g4, g5⟩, fun a z => ?_⟩
    cases z
    exact ⟨_, g1, rfl⟩
  obtain ⟨h1, h2⟩ := hh
  refine ⟨"tuple", id, pa, slot, hty, h1, h2, ?_⟩
  have hA := ha.run cpos pins s1 σ H1 _ I1 q1
  rw [hs] at hA ⊢
  refine Calls.callWith_builtin (by show (false || (backTo cpos (starEach es X.env)).any (·.1)) = false; rw [hplain] <;> rfl) (Calls.evalArgs_plain ?_)
  exact thn hA fun us s2 ⟨vs, H2, I2, r2, q2⟩ => hm pins s2 σ H2 x vs v us Q I2 r1 r2 q2
end
/-! l.extend(t) of a tuple -/
section
variable {X : Cx}
def rExtT : V → List V → Hp → VK → Prop := fun x vs H Q => ∃ l b xs zs, x = .ref l ∧ vs = [.ref b] ∧ H l = some (.lst xs) ∧ TupD H b zs ∧ xs.length + zs.length ≤ sizeLine ∧ Q .non (upd H l (.lst (xs ++ zs)))
theorem mt_extendT : MtR X "list.extend" rExtT := by
  intro pins s σ H x vs v us Q I rx rv h
  obtain ⟨l, b, xs, zs, rfl, rfl, hH, ⟨its0, n0, hB⟩, hz, q⟩ := h
  cases rx
  obtain ⟨u, rfl, ru⟩ := rv.one
  cases ru
  obtain ⟨z, its, n, r, hl, e⟩ := I.lstM hH
  obtain ⟨g1, g2, its2, r2, o2, g4, g5, n2, g6⟩ := I.hok b _ hB
  have eo : o2 = tupO its0 n0 := Option.some.inj (g4.symm.trans g1)
  subst eo
  have ei : its0 = its2.toArray := by
    have := g6
    unfold tupO at this
    injection this
  subst ei
  have hsz : its.toArray.size + its2.toArray.size ≤ sizeLine := by
    have h1 := r.length
    have h2 := r2.length
    rw [List.size_toArray, List.size_toArray]
    omega
  have hlong : ¬ (!its.toArray.isEmpty && Builtin.List.listTooLong (its.toArray.size + its2.toArray.size)) = true := by
    rw [notLongL hsz, Bool.and_false]
    exact Bool.false_ne_true
  refine call_meets F.slot_list_extend ⟨_, e, rfl⟩ F.entry_list_extend (F.args_list_extend_2 _ _)
    (AutoSeq1.list_extend_list_tuple_0 l its.toArray n b its2.toArray n0 hlong (by rw [List.size_toArray]; omega) (by omega)) ⟨e, g1, ?_⟩
  refine ⟨.non, _, I.lset (its' := its ++ its2) hH e (by simp) (r.append r2) ?_, rfl, q⟩
  rw [List.length_append]
  omega
end
/-! zip of two tuples -/
theorem walk_zipT {K : PySem.W.Frag} {a b : Addr} {xs ys : List V} {n : Nat} (hn : n = min xs.length ys.length) : Walk (ItzT K a b) n (fun H => SqT K H a xs ∧ SqT K H b ys) (YPair (fun i => xs[i]?) (fun i => ys[i]?)) := by
  subst hn
  refine ⟨fun i _ hi q => ?_, fun _ q => ⟨xs, ys, q.1, q.2, by omega⟩, fun i H v H' _ q y => ?_⟩
  · have h1 : i < xs.length := by omega
    have h2 : i < ys.length := by omega
    exact ⟨xs, ys, xs[i], ys[i], q.1, q.2, by simp [h1], by simp [h2]⟩
  · obtain ⟨T, x, z, h1, h2, h3, h4, h5⟩ := y
    exact ⟨T, x, z, h1, h2, h3, h4 xs q.1, h5 ys q.2⟩
end DL
set_option Elab.async false
set_option linter.all false
set_option maxRecDepth 100000
set_option maxHeartbeats 2000000
/-! bundles: a def of the text with its promise (Ca), an error class (Er), what raising one gives -/
namespace DL
open PySem PySem.Spec PyProof.Rows L2 RZ
/-- the def st stands under the name x -/
structure Up (K : PySem.W.Frag) (mg : Str → Option Value) (x : Str) (st : Stmt) : Prop where
  ex : ∃ (f : Addr) (fd : FuncData), Fun K x x st f fd ∧ mg x = some (.ref f)
def BindOk (x : Str) (st : Stmt) (ps : List Str) : Prop := ∀ (kV doc pm : Value) (an : Option Addr) (cdv ct : Value) (us : List Value), us.length = ps.length →
  bindArgs (PySem.W.fnOf x x (defArgs st) (defBody st) (defScope st) .none kV doc pm an cdv ct) ⟨us, []⟩ = pure (ps.zip us)
def KwOk (x : Str) (st : Stmt) (ps ks : List Str) (g : List Value → List Value) : Prop := ∀ (kV doc pm : Value) (an : Option Addr) (cdv ct : Value) (ws : List Value), ws.length = ks.length →
  bindArgs (PySem.W.fnOf x x (defArgs st) (defBody st) (defScope st) .none kV doc pm an cdv ct) ⟨[], ks.zip ws⟩ = pure (ps.zip (g ws))
/-- .. and keeps the promise sp -/
structure Ca (P : Program) (w : World) (K : PySem.W.Frag) (mg : Str → Option Value) (base : Heap) (k : Nat) (x : Str) (st : Stmt) (ps : List Str) (sp : Sp) : Prop where
  ex : ∃ (f : Addr) (fd : FuncData), Fun K x x st f fd ∧ mg x = some (.ref f) ∧ FnOk P w K mg base (L2.CX P w) k f fd ps sp
theorem fn_up {P : Program} {w : World} {K : PySem.W.Frag} {mg : Str → Option Value} {base : Heap} {k : Nat} {f : Addr} {fd : FuncData} {ps : List Str} {sp : Sp} (F : FnOk P w K mg base CX0 k f fd ps sp) : FnOk P w K mg base (L2.CX P w) k f fd ps sp :=
  ⟨F.len, fun A outer s H args us vs Q E hr he hb hv hs => codeAny_mono (F.run A outer s H args us vs Q E hr he hb hv hs) fun r s' q => by
    cases r with
    | ok fl =>
      cases fl with
      | ret u => exact q
      | next => exact q
      | brk => exact q
      | cont => exact q
    | error e => exact False.elim q⟩
section
variable {P : Program} {w : World} {K : PySem.W.Frag} {mg : Str → Option Value} {base : Heap}
theorem Ca.imp {k : Nat} {x : Str} {st : Stmt} {ps : List Str} {sp sp' : Sp} (c : Ca P w K mg base k x st ps sp) (h : ∀ vs H Q E, sp' vs H Q E → sp vs H Q E) : Ca P w K mg base k x st ps sp' := by
  obtain ⟨f, fd, F, hm, G⟩ := c.ex
  exact ⟨f, fd, F, hm, G.imp h⟩
/-- a def that raises nothing, by its body -/
theorem ca0 {x : Str} {st : Stmt} {N ps : List Str} {k : Nat} {sp : Sp} (U : Up K mg x st) (S : FnScope N ps (defScope st)) (len : ∀ vs H Q E, sp vs H Q E → vs.length = ps.length)
    (hbody : ∀ (f : Addr) (cdv : Value) (A : Around) (outer : List Env) (s : Shared) (H : Hp) (vs : List V) (Q : VK) (E : XK), Room k (A.deeper (envOfC x (defScope st) s.heap.objs.size f cdv)) → sp vs H Q E →
      ∃ t, PSs (cxOf CX0 P w K mg base N x (defScope st) f cdv A outer s H E).nox (defBody st) t ∧ t { nx := fun _ H' => Q .non H', rt := Q } (start N vs) H) : Ca P w K mg base (k + 1) x st ps sp := by
  obtain ⟨f, fd, F, hm⟩ := U.ex
  exact ⟨f, fd, F, hm, fn_up (F.ok S len (hbody f))⟩
/-- a def that may raise -/
theorem caX {x : Str} {st : Stmt} {N ps : List Str} {k : Nat} {sp : Sp} (U : Up K mg x st) (S : FnScope N ps (defScope st)) (len : ∀ vs H Q E, sp vs H Q E → vs.length = ps.length)
    (hbody : ∀ (f : Addr) (cdv : Value) (A : Around) (outer : List Env) (s : Shared) (H : Hp) (vs : List V) (Q : VK) (E : XK), Room k (A.deeper (envOfC x (defScope st) s.heap.objs.size f cdv)) → sp vs H Q E →
      ∃ t, PSs (cxOf (L2.CX P w) P w K mg base N x (defScope st) f cdv A outer s H E) (defBody st) t ∧ t { nx := fun _ H' => Q .non H', rt := Q } (start N vs) H) : Ca P w K mg base (k + 1) x st ps sp := by
  obtain ⟨f, fd, F, hm⟩ := U.ex
  exact ⟨f, fd, F, hm, F.okX S len (hbody f)⟩
end
section
variable {X : Cx} {k j : Nat} {x : Str} {st : Stmt} {ps ks : List Str} {sp : Sp} {E : L2.St → XK} {p pos : Pos} {e : Expr} {es : List Expr} {t tk : TA} {kws : List Keyword}
theorem ps0 : ∀ σ, PassesAt (L2.CX X.prog X.w) X σ ((fun _ => E0 : L2.St → XK) σ) := fun _ _ _ _ _ _ _ h => by
  obtain ⟨_, _, _, _, _, _, _, _, _, _, _, _, z⟩ := h
  exact z.elim
/-- a call f(e, ..) of a def of the text; what it may raise goes where hx says (ps0: nothing) -/
theorem pe_ca (c : Ca X.prog X.w X.K X.mg X.base k x st ps sp) (b : BindOk x st ps) (hr : Room j X.A) (hx : ∀ σ, PassesAt (L2.CX X.prog X.w) X σ (E σ)) (ha : PA X (e :: es) t) (hk : k ≤ j := by decide) (hg : Gl X x := by rfl)
    (hdb : (x == ("__debug__" : Str)) = false := by decide) (he : starEach (e :: es) X.env = (false, eval e X.env) :: starEach es X.env := by rfl) (hpl : (backTo pos (starEach es X.env)).any (·.1) = false := by rfl) :
    PE X (.Call (.Name x p) (e :: es) [] pos) (tCallS sp E t) := by
  obtain ⟨f, fd, F, hm, G⟩ := c.ex
  exact pe_callS G (hr.mono hk) hg hm F.kp (F.binds b) hx ha hdb he hpl
/-- keywords alone -/
def tCallKs (m : Nat) (sp : Sp) (gV : List V → List V) (E : XK) (tk : TA) : TE := fun σ H Q => tk σ H fun zs H1 => zs.length = m ∧ sp (gV zs) H1 Q E
theorem pe_cak {g : List Value → List Value} {gV : List V → List V} (c : Ca X.prog X.w X.K X.mg X.base k x st ps sp) (b : KwOk x st ps ks g) (hgv : ∀ {zs : List V} {ws : List Value}, Vals zs ws → Vals (gV zs) (g ws)) (hr : Room j X.A) (hkw : PK X kws tk) (hk : k ≤ j := by decide) (hg : Gl X x := by rfl)
    (hall : (backToKw pos (keywordEach kws X.env)).all (·.1.isSome) = true := by rfl) (hks : (backToKw pos (keywordEach kws X.env)).filterMap (·.1) = ks := by rfl) (hdb : (x == ("__debug__" : Str)) = false := by decide)
    (hpl : ((backTo pos (starEach [] X.env)).any (·.1) || (backToKw pos (keywordEach kws X.env)).any (·.1.isNone)) = false := by rfl) :
    PE X (.Call (.Name x p) [] kws pos) (tCallKs ks.length sp gV E0 tk) := by
  obtain ⟨f, fd, F, hm, G⟩ := c.ex
  obtain ⟨oc, od, kV, doc, pm, an, cdv, ct, osl, rfl, lk, hcd⟩ := F.ex
  have hb : KBn X.K (PySem.W.fnOf x x (defArgs st) (defBody st) (defScope st) .none kV doc pm an cdv ct) ps 0 ks (fun _ ws => g ws) (fun _ zs => gV zs) :=
    ⟨fun s us ws _ l1 l2 => by
      have e0 : us = [] := List.eq_nil_of_length_eq_zero l1
      subst e0
      exact .of_eq (b kV doc pm an cdv ct ws l2), fun _ r => hgv r⟩
  exact pe_callKw G (hr.mono hk) hg hm F.kp hb passL hkw hall hks hdb hpl
end
/-! ### errors -/
/-- what the text says of the error class of the name x, at C, whose __init__ (at f) stores what -/
structure Er (K : PySem.W.Frag) (mg : Str → Option Value) (x : Str) (C f : Addr) : Prop where
  gC : mg x = some (.ref C)
  ox : OexC K C
  iC : PySem.W.findIn K (.ref C) "__init__" = some (some (.ref f))
  tI : PySem.W.typeIn K (.ref f) = some (.type "function")
  xf : XfC K C
  nw : PySem.W.findIn K (.ref C) "what" = some none
  te : PySem.W.exmOne K (.ref C) (.ref C) = some true
theorem exm_self {K : PySem.W.Frag} {S : Addr} (h1 : PySem.W.subIn K (.ref S) (.type "BaseException") = some true) (h2 : PySem.W.isClsIn K S = true) (h3 : PySem.W.typeIn K (.ref S) = some (.type "type")) (h4 : PySem.W.subIn K (.ref S) (.ref S) = some true) :
    PySem.W.exmOne K (.ref S) (.ref S) = some true := by
  have e1 : (PySem.W.subIn K (.ref S) (.type "BaseException") == some true) = true := by rw [h1] <;> rfl
  have e2 : ((PySem.W.clsIn K S).isSome && PySem.W.typeIn K (.ref S) == some (.type "type")) = true := by
    have h2' : (PySem.W.clsIn K S).isSome = true := h2
    rw [h2', h3] <;> rfl
  show (if (PySem.W.subIn K (.ref S) (.type "BaseException") == some true) = true then (if ((PySem.W.clsIn K S).isSome && PySem.W.typeIn K (.ref S) == some (.type "type")) = true then PySem.W.subIn K (.ref S) (.ref S) else none) else none) = some true
  rw [if_pos e1, if_pos e2]
  exact h4
/-- what the way out of raise X(v) is: a new dict that holds what -/
def RaisesW (C : Addr) (v : V) (H : Hp) (E : XK) : Prop := ∀ (d : Addr) (H' : Hp), Same H H' → H d = none → H' d = some (.xd [(("what" : Str), v)]) → E (.ref C) (some d) H'
/-- Refused.__init__: self.what = what -/
def spInitE (K : PySem.W.Frag) : Sp := fun vs H Q _ => ∃ (a C : Addr) (v : V), vs = [.ref a, v] ∧ OexC K C ∧ PySem.W.findIn K (.ref C) "what" = some none ∧ H a = some (exo a C none) ∧
  ∀ dx, H dx = none → dx ≠ a → Q .non (upd (upd H dx (exd dx [(("what" : Str), v)])) a (exo a C (some dx)))
structure ErI (P : Program) (w : World) (K : PySem.W.Frag) (mg : Str → Option Value) (base : Heap) (f : Addr) : Prop where
  ex : ∃ fd : FuncData, FnOk P w K mg base (L2.CX P w) 1 f fd ["self", "what"] (spInitE K) ∧ Binds K fd ["self", "what"] []
section
variable {X : Cx} {x : Str} {C f : Addr} {te : TE} {W : WX} {e : Expr} {p pos pos' : Pos} {j : Nat}
def tMono (t : TE) : TE := fun σ H Q => ∃ Q0 : VK, t σ H Q0 ∧ ∀ x H1, Q0 x H1 → Q x H1
theorem pe_mono (he : PE X e te) : PE X e (tMono te) := ⟨fun pins s σ H Q I h => by
  obtain ⟨Q0, h0, hm⟩ := h
  exact thn (he.run pins s σ H Q0 I h0) fun u s1 ⟨v, H1, I1, r, q⟩ => ⟨v, H1, I1, r, hm _ _ q⟩⟩
/-- raise X(e) -/
def tRaiseW (C : Addr) (W : WX) (te : TE) : TS := fun _ σ H => te σ H fun v H1 => RaisesW C v H1 fun cls d H' => W cls d σ H'
theorem ps_raiseW (T : Er X.K X.mg x C f) (F : ErI X.prog X.w X.K X.mg X.base f) (hc : X.calm = true) (hr : Room j X.A) (tk : Takes X W) (he : PE X e te) (hj : 2 ≤ j := by decide) (hg : Gl X x := by rfl)
    (hdb : (x == ("__debug__" : Str)) = false := by decide) (hst : starEach (e :: []) X.env = (false, eval e X.env) :: starEach [] X.env := by rfl) (hpl : (backTo pos (starEach [] X.env)).any (·.1) = false := by rfl) :
    PS X (.Raise (some (.Call (.Name x p) [e] [] pos)) none pos') (tRaiseW C W te) := by
  obtain ⟨fd, G, hb⟩ := F.ex
  have hps := ps_raise (pos := pos') hc tk (pmk_oex (p := p) (pos := pos) (ds := []) (dvs := []) T.ox T.iC T.tI G (hr.mono hj) hb .nil passL hg T.gC (pa_cons (pe_mono he) pa_nil hst) hdb hst hpl)
  refine ⟨fun pins s σ H D I h => hps.run pins s σ H D I ?_⟩
  refine ⟨_, h, fun v H1 q => ⟨by show 1 ≤ 1000; decide, fun a ha => ⟨a, C, v, rfl, T.ox, T.nw, upd_same, fun dx hdx hne => ⟨rfl, dx, [(("what" : Str), v)], upd_same, ?_, ?_, ?_⟩⟩⟩⟩
  · rw [upd_ne hne, upd_same]
  · rw [upd_ne hne] at hdx
    exact hdx
  · have hd1 : H1 dx = none := by
      rw [upd_ne hne] at hdx
      exact hdx
    refine q dx _ (fun b o hb' => ?_) hd1 upd_same
    have h1 : b ≠ dx := ne_of_none hb' hd1
    have h2 : b ≠ a := ne_of_none hb' ha
    rw [upd_ne h1, del_ne h2, upd_ne h2, upd_ne h1, upd_ne h2]
    exact hb'
end
end DL
set_option Elab.async false
set_option linter.all false
set_option maxRecDepth 100000
set_option maxHeartbeats 2000000
/-! the law's source, data of calendars -/
namespace DL
open PySem PySem.Spec PyProof.Rows L2 RZ
theorem iteFd {c : Bool} {A B : Prop} (h : c = false) (b : B) : if c = true then A else B := by
  rw [h]
  exact iteF b
theorem iteTd {c : Bool} {A B : Prop} (h : c = true) (a : A) : if c = true then A else B := by
  rw [h]
  exact iteT a
theorem Same.seqT {K : PySem.W.Frag} {H H' : Hp} {a : Addr} {xs : List V} (e : Same H H') (h : SqT K H a xs) : SqT K H' a xs := by
  rcases h with (h | ⟨o, h⟩) | h
  · exact .inl (.inl (e _ _ h))
  · exact .inl (.inr ⟨o, e _ _ h⟩)
  · exact .inr h
theorem Same.new {H : Hp} {p : Addr} {o : HO} (h : H p = none) : Same H (upd H p o) := fun b u e => by
  rw [upd_ne (ne_of_none e h)]
  exact e
theorem Same.mut {H H' : Hp} {p : Addr} {o : HO} (e : Same H H') (h : H p = none) : Same H (upd H' p o) := fun b u ha => by
  rw [upd_ne (ne_of_none ha h)]
  exact e b u ha
theorem same_back {H H' : Hp} {p : Addr} (e : Same H H') (h : H' p = none) : H p = none := e.free h
/-! the drawing source: a list of two ints at a -/
def SrcV (x y : Int) : Prop := 0 ≤ x ∧ 0 ≤ y ∧ y < 2147483647
def Src (a : Addr) (H : Hp) : Prop := ∃ x y : Int, H a = some (.lst [.int x, .int y]) ∧ SrcV x y
/-- only the source at a has changed; new objects may have come -/
def Stay (a : Addr) (H H' : Hp) : Prop := Src a H' ∧ ∀ b o, b ≠ a → H b = some o → H' b = some o
theorem Stay.refl {a : Addr} {H : Hp} (s : Src a H) : Stay a H H := ⟨s, fun _ _ _ e => e⟩
theorem Stay.trans {a : Addr} {H H1 H2 : Hp} (x : Stay a H H1) (y : Stay a H1 H2) : Stay a H H2 := ⟨y.1, fun b o n e => y.2 b o n (x.2 b o n e)⟩
theorem Src.same {a : Addr} {H H' : Hp} (s : Src a H) (e : Same H H') : Src a H' := by
  obtain ⟨x, y, h, v⟩ := s
  exact ⟨x, y, e _ _ h, v⟩
theorem Stay.same {a : Addr} {H H1 H2 : Hp} (x : Stay a H H1) (y : Same H1 H2) : Stay a H H2 := ⟨x.1.same y, fun b o n e => y b o (x.2 b o n e)⟩
theorem Stay.of_same {a : Addr} {H H1 : Hp} (s : Src a H) (y : Same H H1) : Stay a H H1 := (Stay.refl s).same y
theorem Src.ne_none {a : Addr} {H : Hp} (s : Src a H) {p : Addr} (h : H p = none) : p ≠ a := fun e => by
  obtain ⟨x, y, q, _⟩ := s
  rw [← e, h] at q
  cases q
theorem Stay.none {a : Addr} {H H1 : Hp} (s : Src a H) (x : Stay a H H1) {p : Addr} (h : H1 p = none) : H p = none := by
  cases q : H p with
  | none => rfl
  | some o =>
    have n : p ≠ a := x.1.ne_none h
    rw [x.2 p o n q] at h
    cases h
/-- a list or tuple that is not the source stands as before -/
theorem src_ne_t {a p : Addr} {H : Hp} {o : HO} (s : Src a H) (h : H p = some o) (n : ∀ x y : Int, o ≠ .lst [.int x, .int y]) : p ≠ a := fun e => by
  obtain ⟨x, y, q, _⟩ := s
  rw [← e, h] at q
  exact n x y (Option.some.inj q)
/-! data -/
def TupI (K : PySem.W.Frag) (H : Hp) (a : Addr) (ns : List Int) : Prop := SqT K H a (ns.map V.int)
def TupTI (K : PySem.W.Frag) (H : Hp) (a : Addr) (nss : List (List Int)) : Prop := ∃ qs : List Addr, SqT K H a (qs.map V.ref) ∧ qs.length = nss.length ∧ ∀ (i : Nat) (q : Addr) (ns : List Int), qs[i]? = some q → nss[i]? = some ns → TupI K H q ns
theorem TupI.same {K : PySem.W.Frag} {H H' : Hp} {a : Addr} {ns : List Int} (h : TupI K H a ns) (e : Same H H') : TupI K H' a ns := Same.seqT e h
theorem TupTI.same {K : PySem.W.Frag} {H H' : Hp} {a : Addr} {nss : List (List Int)} (h : TupTI K H a nss) (e : Same H H') : TupTI K H' a nss := by
  obtain ⟨qs, h1, h2, h3⟩ := h
  exact ⟨qs, Same.seqT e h1, h2, fun i q ns a b => (h3 i q ns a b).same e⟩
/-- a pattern -/
def patB (ns : List Int) : Bool := (ns.map fun s => decide (2 ≤ s)).all id && ((ns.zip (ns.drop 1)).map fun p => decide (p.2 ≤ p.1)).all id
/-- a tuple of tuples of ints -/
def TupTD (H : Hp) (a : Addr) (nss : List (List Int)) : Prop := ∃ qs : List Addr, TupD H a (qs.map V.ref) ∧ qs.length = nss.length ∧ ∀ (i : Nat) (q : Addr) (ns : List Int), qs[i]? = some q → nss[i]? = some ns → TupD H q (ns.map V.int)
theorem TupTD.ti {K : PySem.W.Frag} {H : Hp} {a : Addr} {nss : List (List Int)} (h : TupTD H a nss) : TupTI K H a nss := by
  obtain ⟨qs, h1, h2, h3⟩ := h
  exact ⟨qs, h1.sq, h2, fun i q ns a b => (h3 i q ns a b).sq⟩
theorem TupTD.same {H H' : Hp} {a : Addr} {nss : List (List Int)} (h : TupTD H a nss) (e : Same H H') : TupTD H' a nss := by
  obtain ⟨qs, h1, h2, h3⟩ := h
  exact ⟨qs, h1.same e, h2, fun i q ns a b => (h3 i q ns a b).same e⟩
/-- an instance of the class at C: a calendar of these births and days -/
def CalAt (K : PySem.W.Frag) (C : Addr) (H : Hp) (c : Addr) (bs : List Int) (ds : List (List Int)) : Prop := ∃ (dx b d : Addr) (fs : List (Str × V)), H c = some (.ins C dx fs) ∧ fs.lookup ("born" : Str) = some (.ref b) ∧ fs.lookup ("days" : Str) = some (.ref d) ∧ TupD H b (bs.map V.int) ∧ TupTD H d ds
theorem CalAt.same {K : PySem.W.Frag} {C : Addr} {H H' : Hp} {c : Addr} {bs : List Int} {ds : List (List Int)} (h : CalAt K C H c bs ds) (e : Same H H') : CalAt K C H' c bs ds := by
  obtain ⟨dx, b, d, fs, h1, h2, h3, h4, h5⟩ := h
  exact ⟨dx, b, d, fs, e _ _ h1, h2, h3, h4.same e, h5.same e⟩
theorem CalAt.op {K : PySem.W.Frag} {C : Addr} {H : Hp} {c : Addr} {bs : List Int} {ds : List (List Int)} (h : CalAt K C H c bs ds) : ∃ (dx b d : Addr) (fs : List (Str × V)), H c = some (.ins C dx fs) ∧ fs.lookup ("born" : Str) = some (.ref b) ∧ fs.lookup ("days" : Str) = some (.ref d) ∧ TupI K H b bs ∧ TupTI K H d ds := by
  obtain ⟨dx, b, d, fs, h1, h2, h3, h4, h5⟩ := h
  exact ⟨dx, b, d, fs, h1, h2, h3, h4.sq, h5.ti⟩
def lessI (ns : List Int) : Int := ns.sum - (ns.length : Int)
def aliveAt (bs : List Int) (ds : List (List Int)) (d : Nat) : Int := ((bs.filter fun b => decide (b ≤ (d : Int))).length : Int) - ((ds.take d).map lessI).sum
/-- what the text says of the class Calendar -/
structure ClC (K : PySem.W.Frag) (mg : Str → Option Value) (C f : Addr) : Prop where
  cl : Cls K C
  nB : NoAttr K C "born"
  nD : NoAttr K C "days"
  mgC : mg "Calendar" = some (.ref C)
  mkC : Mk K C f
/-- built-in names that the module does not bind -/
structure Bl (mg : Str → Option Value) : Prop where
  len : mg "len" = none
  sum : mg "sum" = none
  min : mg "min" = none
  max : mg "max" = none
  int : mg "int" = none
  tuple : mg "tuple" = none
  isinstance : mg "isinstance" = none
  all : mg "all" = none
  range : mg "range" = none
  enumerate : mg "enumerate" = none
  zip : mg "zip" = none
  bool : mg "bool" = none
  list : mg "list" = none
end DL
set_option Elab.async false
set_option linter.all false
set_option maxRecDepth 100000
set_option maxHeartbeats 2000000
/-! comprehensions over Same; types of tuples -/
namespace DL
open PySem PySem.Spec PyProof.Rows L2 RZ
def givn (n : Nat) (k : Nat → Bool) (v : Nat → V) : List V := ((List.range n).filter k).map v
theorem givn_yes {n : Nat} {k : Nat → Bool} {v : Nat → V} (h : k n = true) : givn (n + 1) k v = givn n k v ++ [v n] := by
  simp [givn, List.range_succ, h]
theorem givn_no {n : Nat} {k : Nat → Bool} {v : Nat → V} (h : k n = false) : givn (n + 1) k v = givn n k v := by
  simp [givn, List.range_succ, h]
theorem givn_len (n : Nat) (k : Nat → Bool) (v : Nat → V) : (givn n k v).length ≤ n := by
  unfold givn
  rw [List.length_map]
  have h := List.length_filter_le k (List.range n)
  rw [List.length_range] at h
  exact h
theorem range_getD {α : Type} (ns : List α) (d : α) : (List.range ns.length).map (fun i => ns.getD i d) = ns := by
  apply List.ext_getElem
  · simp
  · intro i h1 h2
    simp [h2]
theorem givn_filter {α : Type} (ns : List α) (d : α) (k : α → Bool) (f : α → V) : givn ns.length (fun i => k (ns.getD i d)) (fun i => f (ns.getD i d)) = (ns.filter k).map f := by
  have h := range_getD ns d
  conv => rhs; rw [← h, List.filter_map, List.map_map]
  rfl
theorem givn_all {α : Type} (ns : List α) (d : α) (f : α → V) : givn ns.length (fun _ => true) (fun i => f (ns.getD i d)) = ns.map f := by
  have h := givn_filter ns d (fun _ => true) f
  rw [List.filter_eq_self.mpr (fun _ _ => rfl)] at h
  exact h
/-- behind i turns: nothing else has changed, and the new list at D holds what was given -/
def Cw (H0 : Hp) (k : Nat → Bool) (v : Nat → V) (D : Addr) (i : Nat) (H : Hp) : Prop := H0 D = none ∧ Same H0 H ∧ H D = some (.lst (givn i k v))
theorem cw0 {H0 : Hp} {k : Nat → Bool} {v : Nat → V} {D : Addr} (h : H0 D = none) : Cw H0 k v D 0 (upd H0 D (.lst [])) := ⟨h, Same.new h, upd_same⟩
theorem cwY {H0 H H4 : Hp} {k : Nat → Bool} {v : Nat → V} {D : Addr} {i : Nat} {y : V} (p : Cw H0 k v D i H) (e : Same H H4) (hi : i < 100000) (hk : k i = true) (hv : y = v i) :
    ∃ acc, H4 D = some (.lst acc) ∧ acc.length < sizeLine ∧ Cw H0 k v D (i + 1) (upd H4 D (.lst (acc ++ [y]))) := by
  obtain ⟨p1, p2, p3⟩ := p
  refine ⟨_, e _ _ p3, Nat.lt_of_le_of_lt (givn_len i k v) (Nat.lt_of_lt_of_le hi (by decide)), p1, Same.mut (p2.trans e) p1, ?_⟩
  rw [givn_yes hk, hv]
  exact upd_same
theorem cwN {H0 H H3 : Hp} {k : Nat → Bool} {v : Nat → V} {D : Addr} {i : Nat} (p : Cw H0 k v D i H) (e : Same H H3) (hk : k i = false) : Cw H0 k v D (i + 1) H3 := by
  obtain ⟨p1, p2, p3⟩ := p
  refine ⟨p1, p2.trans e, ?_⟩
  rw [givn_no hk]
  exact e _ _ p3
/-- the type of a tuple that is read -/
theorem tyT {K : PySem.W.Frag} {H : Hp} {a : Addr} {xs : List V} (h : SqT K H a xs) : TyX K H (.ref a) (.type "tuple") := by
  rcases h with (h | ⟨o, h⟩) | ⟨o, its, n, h1, h2, _⟩
  · exact .base (.tup h)
  · exact .fTuple h
  · exact .kTuple h1 h2
theorem getD_of {α : Type} {ns : List α} {i : Nat} {x d : α} (h : ns[i]? = some x) : ns.getD i d = x := by
  rw [List.getD_eq_getElem?_getD, h] <;> rfl
theorem map_of {α : Type} {ns : List α} {f : α → V} {i : Nat} {x : V} (h : (ns.map f)[i]? = some x) : ∃ z, ns[i]? = some z ∧ x = f z := by
  rw [List.getElem?_map] at h
  cases e : ns[i]? with
  | none =>
    rw [e] at h
    cases h
  | some z =>
    rw [e] at h
    exact ⟨z, rfl, (Option.some.inj h).symm⟩
theorem bool_all (ns : List Int) (f : Int → Bool) : ∃ bs : List Bool, bs = ns.map f ∧ (ns.map fun x => V.bl (f x)) = bs.map V.bl := ⟨_, rfl, by simp⟩
section
variable {X : Cx}
/-- t[lo:hi] of a tuple: some tuple of that part -/
def rSlS (K : PySem.W.Frag) : V → Option Int → Option Int → Hp → VK → Prop := fun x lo hi H Q => ∃ a xs, x = .ref a ∧ SqT K H a xs ∧ ∀ p H', Same H H' → SqT K H' p (cutV xs lo hi) → Q (.ref p) H'
theorem sl_tupS : SlR X (rSlS X.K) := by
  intro pins s σ H x v vl vu lo hi sl Q I rx hs pl pu h
  obtain ⟨a, xs, rfl, hx, q⟩ := h
  refine sl_tupA pins s σ H _ v vl vu lo hi sl Q I rx hs pl pu ⟨a, xs, rfl, hx, fun hw => q a H (Same.refl H) ?_, fun _ p hp => q p _ (Same.new hp) (SqT.of upd_same)⟩
  have e : cutV xs lo hi = xs := by
    unfold cutV
    rw [hw.1, hw.2]
    simp
  rw [e]
  exact hx
end
section
variable {X : Cx}
def rLenK (K : PySem.W.Frag) : List V → Hp → VK → Prop := fun xs H Q => ∃ p ys, xs = [.ref p] ∧ (SqL K H p ys ∨ SqT K H p ys) ∧ Q (.int ys.length) H
theorem call_lenK (K : PySem.W.Frag) (h : X.K = K) : CallR X (.builtin "len") (rLenK K) := by
  subst h
  exact call_len_seq
theorem cr_sumK (K : PySem.W.Frag) (h : X.K = K) (hc : X.calm = true) : CallR X (.builtin "sum") (rSum K) := by
  subst h
  exact cr_sum hc
theorem cr_sumTK (K : PySem.W.Frag) (h : X.K = K) (hc : X.calm = true) : CallR X (.builtin "sum") (rSumT K) := by
  subst h
  exact cr_sumT hc
theorem cr_allK (K : PySem.W.Frag) (h : X.K = K) (hc : X.calm = true) : CallR X (.builtin "all") (rAll K) := by
  subst h
  exact cr_all hc
theorem ix_listK (K : PySem.W.Frag) (h : X.K = K) : IxR X (rIxL K) := by
  subst h
  exact ix_list
theorem ix_tupK (K : PySem.W.Frag) (h : X.K = K) : IxR X (rIxT K) := by
  subst h
  exact ix_tup
theorem op_eqDK (K : PySem.W.Frag) (h : X.K = K) (hu : X.A.units + 64 < cLine) : OpR X (compareOp .Eq) (rEqD K) := by
  subst h
  exact op_eqD hu
theorem op_neDK (K : PySem.W.Frag) (h : X.K = K) (hu : X.A.units + 64 < cLine) : OpR X (compareOp .NotEq) (rNeD K) := by
  subst h
  exact op_neD hu
theorem call_isiK' (K : PySem.W.Frag) (h : X.K = K) : CallR X (.builtin "isinstance") (rIsi K) := by
  subst h
  exact call_isi
end
theorem cut_from (xs : List V) (k : Nat) : cutV xs (some (k : Int)) none = xs.drop k := by
  unfold cutV
  rw [HT.sIx_nat]
  show (xs.drop (min k xs.length)).take (xs.length - min k xs.length) = xs.drop k
  by_cases h : k ≤ xs.length
  · rw [Nat.min_eq_left h, List.take_of_length_le (by simp)]
  · rw [Nat.min_eq_right (by omega), List.drop_eq_nil_of_le (by omega), List.drop_eq_nil_of_le (by omega)]
    simp
theorem cut_to (xs : List V) (k : Nat) : cutV xs none (some (k : Int)) = xs.take k := by
  unfold cutV
  rw [HT.sIx_nat]
  show (xs.drop 0).take (min k xs.length - 0) = xs.take k
  rw [List.drop_zero, Nat.sub_zero]
  by_cases h : k ≤ xs.length
  · rw [Nat.min_eq_left h]
  · rw [Nat.min_eq_right (by omega), List.take_of_length_le (by omega), List.take_of_length_le (by omega)]
end DL
set_option Elab.async false
set_option linter.all false
set_option maxRecDepth 100000
set_option maxHeartbeats 2000000
/-! deep equality of rows of ints; constants; counts of births -/
namespace DL
open PySem PySem.Spec PyProof.Rows L2 RZ
theorem lay_ints : ∀ ns : List Int, PyData.canLayAll0 (ns.map PyData.int) = true
  | [] => by simp [PyData.canLayAll0]
  | n :: r => by simp [PyData.canLayAll0, PyData.canLay0, lay_ints r]
theorem depth_ints : ∀ ns : List Int, PyData.depthAll (ns.map PyData.int) = 0
  | [] => by simp [PyData.depthAll]
  | n :: r => by simp [PyData.depthAll, PyData.depth, depth_ints r]
theorem shaped_tup (ns : List Int) : SeqAt.shaped (.tuple (ns.map PyData.int)) = true := by
  unfold SeqAt.shaped
  simp [PyData.canLay0, lay_ints, PyData.depth, depth_ints]
theorem shaped_lst (ns : List Int) : SeqAt.shaped (.list (ns.map PyData.int)) = true := by
  unfold SeqAt.shaped
  simp [PyData.canLay0, lay_ints, PyData.depth, depth_ints]
theorem eqv_ints : ∀ a b : List Int, PyData.eqvAll (a.map PyData.int) (b.map PyData.int) = decide (a = b)
  | [], [] => by simp [PyData.eqvAll]
  | [], _ :: _ => by simp [PyData.eqvAll]
  | _ :: _, [] => by simp [PyData.eqvAll]
  | x :: a, y :: b => by
    simp only [List.map_cons, PyData.eqvAll, PyData.eqv, eqv_ints a b]
    by_cases h : x = y
    · subst h
      simp
    · simp [h]
theorem eqv_tup (a b : List Int) : PyData.eqv (.tuple (a.map PyData.int)) (.tuple (b.map PyData.int)) = decide (a = b) := by
  simp only [PyData.eqv]
  exact eqv_ints a b
theorem eqv_lst (a b : List Int) : PyData.eqv (.list (a.map PyData.int)) (.list (b.map PyData.int)) = decide (a = b) := by
  simp only [PyData.eqv]
  exact eqv_ints a b
theorem dp_all {K : PySem.W.Frag} {H : Hp} : ∀ ns : List Int, DpAll K H (ns.map V.int) (ns.map PyData.int)
  | [] => .nil
  | n :: r => .cons (.int n) (dp_all r)
theorem dp_tup {K : PySem.W.Frag} {H : Hp} {a : Addr} {ns : List Int} (h : TupI K H a ns) : Dp K H (.ref a) (.tuple (ns.map PyData.int)) := .tup h (dp_all ns)
theorem dp_lst {K : PySem.W.Frag} {H : Hp} {a : Addr} {ns : List Int} (h : SqL K H a (ns.map V.int)) : Dp K H (.ref a) (.list (ns.map PyData.int)) := .lst h (dp_all ns)
section
variable {X : Cx}
/-- a constant of the module -/
theorem pe_gI {x : Str} {n : Int} {pos : Pos} (h : ∃ t, X.mg x = some (.int n t)) (hg : Gl X x := by rfl) (hn : x ≠ "__name__" := by decide) (hd : (x == ("__debug__" : Str)) = false := by decide) : PE X (.Name x pos) (tC (.int n)) := by
  obtain ⟨t, e⟩ := h
  exact pe_glob hg e ⟨t, rfl⟩ (hd := hd)
/-- a def of the module as a value -/
theorem pe_gF {x : Str} {f : Addr} {pos : Pos} (h : X.mg x = some (.ref f)) (hg : Gl X x := by rfl) (hd : (x == ("__debug__" : Str)) = false := by decide) : PE X (.Name x pos) (tC (.ref f)) := pe_glob hg h rfl (hd := hd)
end
/-- births ahead of moment i, the newcomers of i not among them -/
def bornB (bs : List Int) (i : Nat) : Int := ((bs.filter fun b => decide (b < (i : Int))).length : Int)
def kAt (bs : List Int) (ds : List (List Int)) (i : Nat) : Int := bornB bs i - ((ds.take i).map lessI).sum
theorem filt_add (i : Int) : ∀ bs : List Int, (bs.filter fun b => decide (b < i)).length + bs.count i = (bs.filter fun b => decide (b ≤ i)).length
  | [] => rfl
  | b :: r => by
    have ih := filt_add i r
    by_cases h1 : b < i
    · have h2 : b ≤ i := by omega
      have h3 : ¬ b = i := by omega
      simp [h1, h2, h3, List.count_cons]
      omega
    · by_cases h3 : b = i
      · subst h3
        simp [List.count_cons]
        omega
      · have h2 : ¬ b ≤ i := by omega
        simp [h1, h2, h3, List.count_cons]
        omega
theorem filt_succ (i : Nat) (bs : List Int) : (bs.filter fun b => decide (b ≤ (i : Int))).length = (bs.filter fun b => decide (b < ((i + 1 : Nat) : Int))).length := by
  congr 1
  apply List.filter_congr
  intro b _
  simp
  omega
theorem kAt_count (bs : List Int) (ds : List (List Int)) (i : Nat) : kAt bs ds i + (bs.count (i : Int) : Nat) = aliveAt bs ds i := by
  unfold kAt aliveAt bornB
  have h := filt_add (i : Int) bs
  omega
theorem kAt_less {bs : List Int} {ds : List (List Int)} {i : Nat} {p : List Int} (h : ds[i]? = some p) : aliveAt bs ds i - lessI p = kAt bs ds (i + 1) := by
  unfold kAt aliveAt bornB
  rw [filt_succ i bs]
  have e : ds.take (i + 1) = ds.take i ++ [p] := by rw [List.take_add_one, h] <;> rfl
  rw [e, List.map_append, List.sum_append]
  simp
  omega
/-- what made_calendar takes -/
structure CalOk (bs : List Int) (ds : List (List Int)) : Prop where
  n1 : 1 ≤ bs.length
  n12 : bs.length ≤ 12
  m11 : ds.length ≤ 11
  pat : ∀ p ∈ ds, patB p = true ∧ p ≠ [] ∧ p.length ≤ 1000
  born : ∀ b ∈ bs, 0 ≤ b ∧ b ≤ (ds.length : Int)
  fit : ∀ (i : Nat) (p : List Int), ds[i]? = some p → p.sum ≤ aliveAt bs ds i
end DL
set_option Elab.async false
set_option linter.all false
set_option maxRecDepth 100000
set_option maxHeartbeats 2000000
/-! tests with a word between them and what follows; patterns that grow -/
namespace DL
open PySem PySem.Spec PyProof.Rows L2 RZ
def tMonoT (t : TT) : TT := fun σ H Q => ∃ Q0 : Bool → Hp → Prop, t σ H Q0 ∧ ∀ b H1, Q0 b H1 → Q b H1
section
variable {X : Cx} {e : Expr} {t : TT}
theorem pt_mono (he : PT X e t) : PT X e (tMonoT t) := ⟨fun pins s σ H Q I h => by
  obtain ⟨Q0, h0, hm⟩ := h
  exact thn (he.run pins s σ H Q0 I h0) fun u s1 ⟨H1, I1, q⟩ => ⟨H1, I1, hm _ _ q⟩⟩
end
theorem while_m {c : TT} {tb : TS} {D : Ends} {σ : L2.St} {H : Hp} (Pv : L2.St → Hp → Prop) (μ : L2.St → Nat) (h0 : Pv σ H)
    (hs : ∀ σ H, Pv σ H → ∃ Q0 : Bool → Hp → Prop, c σ H Q0 ∧ (∀ H1, Q0 true H1 → tb { D with nx := fun σ' H' => Pv σ' H' ∧ μ σ' < μ σ, ct := fun σ' H' => Pv σ' H' ∧ μ σ' < μ σ, bk := D.nx } σ H1) ∧ (∀ H1, Q0 false H1 → D.nx σ H1)) : tWhile (tMonoT c) tb D σ H := by
  refine ⟨fun m σ H => m = μ σ ∧ Pv σ H, ⟨_, rfl, h0⟩, ?_⟩
  rintro m σ H ⟨rfl, p⟩
  obtain ⟨Q0, q0, q1, q2⟩ := hs σ H p
  refine ⟨Q0, q0, fun b H1 q => ?_⟩
  cases b with
  | true => exact ⟨_, fun σ' H' ⟨p', l⟩ => ⟨_, l, rfl, p'⟩, q1 H1 q⟩
  | false => exact q2 H1 q
/-- the slot's int, as a measure -/
def slotN (i : Nat) (σ : L2.St) : Nat := match σ[i]? with
  | some (some (.int k)) => k.toNat
  | _ => 0
theorem Stay.mut {a l : Addr} {H H' : Hp} {o : HO} (s : Stay a H H') (hl : H l = Option.none) (hla : l ≠ a) : Stay a H (upd H' l o) := by
  obtain ⟨⟨x, y, e1, e2⟩, h⟩ := s
  refine ⟨⟨x, y, by rw [upd_ne (Ne.symm hla)]; exact e1, e2⟩, fun b u n e => ?_⟩
  rw [upd_ne (ne_of_none e hl)]
  exact h b u n e
theorem map_last {ps : List Int} (hn : ps ≠ []) : ps.map V.int = ps.dropLast.map V.int ++ [.int (ps.getLast hn)] := by
  conv => lhs; rw [← List.dropLast_concat_getLast hn]
  simp
theorem patB_iff (ns : List Int) : patB ns = true ↔ (∀ s ∈ ns, 2 ≤ s) ∧ ∀ p ∈ ns.zip (ns.drop 1), p.2 ≤ p.1 := by
  unfold patB
  rw [Bool.and_eq_true]
  simp
theorem zip_tail_append (a : Int) : ∀ (l : List Int) (x : Int), ((l ++ [a]) ++ [x]).zip (((l ++ [a]) ++ [x]).drop 1) = (l ++ [a]).zip ((l ++ [a]).drop 1) ++ [(a, x)]
  | [], x => rfl
  | [b], x => rfl
  | b :: c :: l, x => by
    have ih := zip_tail_append a (c :: l) x
    simp only [List.cons_append, List.drop_succ_cons, List.drop_zero, List.zip_cons_cons] at ih ⊢
    rw [ih]
theorem patB_app {ns : List Int} {x : Int} (h : patB ns = true) (hx : 2 ≤ x) (hl : ∀ y, ns.getLast? = some y → x ≤ y) : patB (ns ++ [x]) = true := by
  rw [patB_iff] at h ⊢
  obtain ⟨h1, h2⟩ := h
  refine ⟨fun s hs => ?_, fun p hp => ?_⟩
  · rcases List.mem_append.mp hs with h | h
    · exact h1 s h
    · simp at h
      omega
  · by_cases hn : ns = []
    · subst hn
      simp at hp
    · obtain ⟨l, a, rfl⟩ : ∃ l a, ns = l ++ [a] := ⟨ns.dropLast, ns.getLast hn, (List.dropLast_concat_getLast hn).symm⟩
      rw [zip_tail_append] at hp
      rcases List.mem_append.mp hp with h | h
      · exact h2 p h
      · simp at h
        subst h
        exact hl a (by simp)
theorem patB_nil : patB [] = true := rfl
theorem patB_ge {ns : List Int} (h : patB ns = true) : ∀ s ∈ ns, 2 ≤ s := ((patB_iff ns).mp h).1
theorem len_le_sum : ∀ {ns : List Int}, (∀ s ∈ ns, 2 ≤ s) → 2 * (ns.length : Int) ≤ ns.sum
  | [], _ => by simp
  | n :: r, h => by
    have ih := len_le_sum (ns := r) fun s hs => h s (List.mem_cons_of_mem _ hs)
    have h1 := h n List.mem_cons_self
    simp
    omega
end DL
set_option Elab.async false
set_option linter.all false
set_option maxRecDepth 100000
set_option maxHeartbeats 2000000
/-! tuples kept; the drawn calendar's mathematics -/
namespace DL
open PySem PySem.Spec PyProof.Rows L2 RZ
/-- every tuple is as it was -/
def TK (H H' : Hp) : Prop := ∀ (b : Addr) (xs : List V), (H b = some (.tup xs) → H' b = some (.tup xs)) ∧ ∀ o, H b = some (.frz o (.tup xs)) → H' b = some (.frz o (.tup xs))
theorem TK.refl (H : Hp) : TK H H := fun _ _ => ⟨fun e => e, fun _ e => e⟩
theorem TK.trans {H H1 H2 : Hp} (x : TK H H1) (y : TK H1 H2) : TK H H2 := fun b xs => ⟨fun e => (y b xs).1 ((x b xs).1 e), fun o e => (y b xs).2 o ((x b xs).2 o e)⟩
theorem TK.same {H H' : Hp} (s : Same H H') : TK H H' := fun _ _ => ⟨fun e => s _ _ e, fun _ e => s _ _ e⟩
theorem TK.stay {a : Addr} {H H' : Hp} (r : Src a H) (s : Stay a H H') : TK H H' := fun b xs => ⟨fun e => s.2 b _ (src_ne_t r e fun _ _ z => by cases z) e, fun o e => s.2 b _ (src_ne_t r e fun _ _ z => by cases z) e⟩
theorem TK.lst {H : Hp} {l : Addr} {xs : List V} {o : HO} (h : H l = some (.lst xs)) : TK H (upd H l o) := fun b ys => ⟨fun e => by rw [upd_ne (ne_of e h (fun z => by cases z))]; exact e, fun u e => by rw [upd_ne (ne_of e h (fun z => by cases z))]; exact e⟩
theorem TK.new {H : Hp} {l : Addr} {o : HO} (h : H l = none) : TK H (upd H l o) := TK.same (Same.new h)
theorem TK.seqT {K : PySem.W.Frag} {H H' : Hp} {a : Addr} {xs : List V} (e : TK H H') (h : SqT K H a xs) : SqT K H' a xs := by
  rcases h with (h | ⟨o, h⟩) | h
  · exact .inl (.inl ((e _ _).1 h))
  · exact .inl (.inr ⟨o, (e _ _).2 o h⟩)
  · exact .inr h
theorem TupI.tk {K : PySem.W.Frag} {H H' : Hp} {a : Addr} {ns : List Int} (h : TupI K H a ns) (e : TK H H') : TupI K H' a ns := TK.seqT e h
theorem TupD.tk {H H' : Hp} {p : Addr} {xs : List V} (h : TupD H p xs) (e : TK H H') : TupD H' p xs := by
  obtain ⟨its, n, h1⟩ := h
  exact ⟨its, n, (e _ _).2 _ h1⟩
/-! drawn calendars -/
structure Pre (ws : List Int) (ds : List (List Int)) : Prop where
  pat : ∀ p ∈ ds, patB p = true ∧ p ≠ [] ∧ p.length ≤ 1000
  fit : ∀ (i : Nat) (p : List Int), ds[i]? = some p → p.sum ≤ aliveAt ws ds i
theorem lessI_nn {p : List Int} (h : patB p = true) : 0 ≤ lessI p := by
  have := len_le_sum (patB_ge h)
  unfold lessI
  omega
theorem sum_nn {ds : List (List Int)} (h : ∀ p ∈ ds, 0 ≤ lessI p) : 0 ≤ (ds.map lessI).sum := by
  induction ds with
  | nil => simp
  | cons p r ih =>
    have h1 := h p List.mem_cons_self
    have h2 := ih fun q hq => h q (List.mem_cons_of_mem _ hq)
    simp
    omega
theorem aliveAt_app {ws : List Int} {ds : List (List Int)} {p : List Int} {i : Nat} (h : i ≤ ds.length) : aliveAt ws (ds ++ [p]) i = aliveAt ws ds i := by
  unfold aliveAt
  rw [List.take_append_of_le_length h]
theorem alive_le {ws : List Int} {ds : List (List Int)} (h : Pre ws ds) (i : Nat) : aliveAt ws ds i ≤ (ws.length : Int) := by
  have h1 := List.length_filter_le (fun b => decide (b ≤ (i : Int))) ws
  have h2 : 0 ≤ ((ds.take i).map lessI).sum := sum_nn fun p hp => lessI_nn (h.pat p (List.mem_of_mem_take hp)).1
  unfold aliveAt
  omega
theorem filt_next (ws : List Int) (m : Nat) : (ws.filter fun b => decide (b ≤ ((m + 1 : Nat) : Int))).length = (ws.filter fun b => decide (b ≤ (m : Int))).length + ws.count ((m + 1 : Nat) : Int) := by
  have h1 := filt_add ((m + 1 : Nat) : Int) ws
  have h2 := filt_succ m ws
  omega
theorem alive_next {ws : List Int} {ds : List (List Int)} {p : List Int} : aliveAt ws (ds ++ [p]) (ds.length + 1) = aliveAt ws ds ds.length - p.sum + (p.length : Int) + (ws.count ((ds.length + 1 : Nat) : Int) : Nat) := by
  unfold aliveAt
  have e : (ds ++ [p]).take (ds.length + 1) = ds ++ [p] := List.take_of_length_le (by simp)
  rw [e, List.take_length, List.map_append, List.sum_append, filt_next]
  have e2 : (List.map lessI [p]).sum = p.sum - (p.length : Int) := by simp [lessI]
  rw [e2]
  omega
theorem Pre.app {ws : List Int} {ds : List (List Int)} {p : List Int} (h : Pre ws ds) (h1 : patB p = true) (h2 : p ≠ []) (h3 : p.length ≤ 1000) (h4 : p.sum ≤ aliveAt ws ds ds.length) : Pre ws (ds ++ [p]) := by
  refine ⟨fun q hq => ?_, fun i q hq => ?_⟩
  · rcases List.mem_append.mp hq with z | z
    · exact h.pat q z
    · simp at z
      subst z
      exact ⟨h1, h2, h3⟩
  · by_cases hi : i < ds.length
    · rw [List.getElem?_append_left hi] at hq
      rw [aliveAt_app (by omega)]
      exact h.fit i q hq
    · have hi2 : i = ds.length := by
        have := (List.getElem?_eq_some_iff.mp hq).1
        simp at this
        omega
      subst hi2
      simp at hq
      subst hq
      rw [aliveAt_app (Nat.le_refl _)]
      exact h4
def capB (m : Int) (w : Int) : Int := if m < w then m else w
theorem Pre.cal {ws : List Int} {ds : List (List Int)} (h : Pre ws ds) (hw : ∀ w ∈ ws, 0 ≤ w) (n1 : 1 ≤ ws.length) (n2 : ws.length ≤ 12) (m : ds.length ≤ 11) : CalOk (ws.map (capB (ds.length : Int))) ds := by
  refine ⟨by simpa using n1, by simpa using n2, m, h.pat, fun b hb => ?_, fun i p hp => ?_⟩
  · obtain ⟨w, h1, rfl⟩ := List.mem_map.mp hb
    have := hw w h1
    unfold capB
    split <;> omega
  · have hi : i < ds.length := (List.getElem?_eq_some_iff.mp hp).1
    have e : aliveAt (ws.map (capB (ds.length : Int))) ds i = aliveAt ws ds i := by
      unfold aliveAt
      rw [List.filter_map, List.length_map]
      congr 3
      apply List.filter_congr
      intro w _
      unfold capB
      simp only [Function.comp]
      split
      · simp
        omega
      · rfl
    rw [e]
    exact h.fit i p hp
end DL
set_option Elab.async false
set_option linter.all false
set_option maxRecDepth 100000
set_option maxHeartbeats 2000000
/-! the state of a calendar that is drawn -/
namespace DL
open PySem PySem.Spec PyProof.Rows L2 RZ
theorem TupTD.tk {H H' : Hp} {a : Addr} {nss : List (List Int)} (h : TupTD H a nss) (e : TK H H') : TupTD H' a nss := by
  obtain ⟨qs, h1, h2, h3⟩ := h
  exact ⟨qs, h1.tk e, h2, fun i q ns a b => (h3 i q ns a b).tk e⟩
structure Apart (a W B D : Addr) : Prop where
  wa : W ≠ a
  ba : B ≠ a
  da : D ≠ a
  wb : W ≠ B
  wd : W ≠ D
  bd : B ≠ D
structure CalSt (K : PySem.W.Frag) (a : Addr) (H0 : Hp) (W B D : Addr) (ws nb : List Int) (ds : List (List Int)) (qs : List Addr) (H : Hp) : Prop where
  st : Stay a H0 H
  tk : TK H0 H
  nw : H0 W = Option.none
  nb0 : H0 B = Option.none
  nd : H0 D = Option.none
  hw : H W = some (.lst (ws.map V.int))
  hb : H B = some (.lst (nb.map V.int))
  hd : H D = some (.lst (qs.map V.ref))
  len : qs.length = ds.length
  tup : ∀ (i : Nat) (q : Addr) (ps : List Int), qs[i]? = some q → ds[i]? = some ps → TupD H q (ps.map V.int)
section
variable {K : PySem.W.Frag} {a : Addr} {H0 H H' : Hp} {W B D : Addr} {ws nb : List Int} {ds : List (List Int)} {qs : List Addr}
theorem CalSt.stay (c : CalSt K a H0 W B D ws nb ds qs H) (x : Apart a W B D) (s : Stay a H H') : CalSt K a H0 W B D ws nb ds qs H' :=
  ⟨c.st.trans s, c.tk.trans (TK.stay c.st.1 s), c.nw, c.nb0, c.nd, s.2 _ _ x.wa c.hw, s.2 _ _ x.ba c.hb, s.2 _ _ x.da c.hd, c.len, fun i q ps h1 h2 => (c.tup i q ps h1 h2).tk (TK.stay c.st.1 s)⟩
theorem CalSt.same (c : CalSt K a H0 W B D ws nb ds qs H) (s : Same H H') : CalSt K a H0 W B D ws nb ds qs H' :=
  ⟨c.st.same s, c.tk.trans (TK.same s), c.nw, c.nb0, c.nd, s _ _ c.hw, s _ _ c.hb, s _ _ c.hd, c.len, fun i q ps h1 h2 => (c.tup i q ps h1 h2).same s⟩
theorem CalSt.push (c : CalSt K a H0 W B D ws nb ds qs H) (x : Apart a W B D) {q : Addr} {p : List Int} (h : TupD H q (p.map V.int)) : CalSt K a H0 W B D ws nb (ds ++ [p]) (qs ++ [q]) (upd H D (.lst (qs.map V.ref ++ [.ref q]))) := by
  have tk : TK H (upd H D (.lst (qs.map V.ref ++ [.ref q]))) := TK.lst c.hd
  refine ⟨c.st.mut c.nd x.da, c.tk.trans tk, c.nw, c.nb0, c.nd, by rw [upd_ne x.wd]; exact c.hw, by rw [upd_ne x.bd]; exact c.hb, by rw [upd_same, List.map_append]; rfl, by simp [c.len], fun i r ps h1 h2 => ?_⟩
  by_cases hi : i < ds.length
  · rw [List.getElem?_append_left (by rw [c.len]; exact hi)] at h1
    rw [List.getElem?_append_left hi] at h2
    exact (c.tup i r ps h1 h2).tk tk
  · have hi2 : i = ds.length := by
      have := (List.getElem?_eq_some_iff.mp h2).1
      simp at this
      omega
    subst hi2
    rw [← c.len] at h1
    simp at h1
    simp at h2
    subst h1 h2
    exact h.tk tk
theorem CalSt.setB (c : CalSt K a H0 W B D ws nb ds qs H) (x : Apart a W B D) (nb' : List Int) : CalSt K a H0 W B D ws nb' ds qs (upd H B (.lst (nb'.map V.int))) :=
  ⟨c.st.mut c.nb0 x.ba, c.tk.trans (TK.lst c.hb), c.nw, c.nb0, c.nd, by rw [upd_ne x.wb]; exact c.hw, upd_same, by rw [upd_ne (Ne.symm x.bd)]; exact c.hd, c.len, fun i q ps h1 h2 => (c.tup i q ps h1 h2).tk (TK.lst c.hb)⟩
end
theorem TupTI.tk {K : PySem.W.Frag} {H H' : Hp} {a : Addr} {nss : List (List Int)} (h : TupTI K H a nss) (e : TK H H') : TupTI K H' a nss := by
  obtain ⟨qs, h1, h2, h3⟩ := h
  exact ⟨qs, TK.seqT e h1, h2, fun i q ns a b => (h3 i q ns a b).tk e⟩
theorem CalAt.stay {K : PySem.W.Frag} {C a : Addr} {H H' : Hp} {c : Addr} {bs : List Int} {ds : List (List Int)} (h : CalAt K C H c bs ds) (r : Src a H) (e : Stay a H H') : CalAt K C H' c bs ds := by
  obtain ⟨dx, b, d, fs, h1, h2, h3, h4, h5⟩ := h
  exact ⟨dx, b, d, fs, e.2 _ _ (src_ne_t r h1 fun _ _ z => by cases z) h1, h2, h3, h4.tk (TK.stay r e), h5.tk (TK.stay r e)⟩
theorem filt0 {ws : List Int} (h : ∀ w ∈ ws, 0 ≤ w) : ((ws.filter fun z => decide (V.int z = V.int 0)).length : Int) = aliveAt ws [] 0 := by
  unfold aliveAt
  simp only [List.take_nil, List.map_nil, List.sum_nil, Int.sub_zero]
  congr 2
  apply List.filter_congr
  intro w hw
  have := h w hw
  simp
  omega
theorem count_filt (ws : List Int) (m : Int) : (ws.filter fun z => decide (V.int z = V.int m)).length = ws.count m := by
  rw [List.count_eq_length_filter]
  congr 1
  apply List.filter_congr
  intro w _
  by_cases h : w = m <;> simp [h]
end DL
set_option Elab.async false
set_option linter.all false
set_option maxRecDepth 100000
set_option maxHeartbeats 2000000
/-! what the head tells, by defs and classes -/
namespace DL
open PySem PySem.Spec PyProof.Rows L2 RZ
structure Df (K : PySem.W.Frag) (x : Str) (st : Stmt) : Prop where
  ex : ∃ (f : Addr) (oc : Value) (od : Option Addr) (osl : Array (Option Value)) (kV doc pm : Value) (an : Option Addr) (cdv ct : Value),
    PySem.W.nsIn K mainGlobals x = some (some (.ref f)) ∧ K.lookup f = some ⟨oc, od, .func (PySem.W.fnOf x x (defArgs st) (defBody st) (defScope st) .none kV doc pm an cdv ct), osl⟩ ∧ PySem.W.codeIn K cdv x = true ∧ PySem.W.keepIn K (.ref f) = true
theorem Df.up {K : PySem.W.Frag} {h : Heap} {mg : Str → Option Value} {x : Str} {st : Stmt} (d : Df K x st) (X : K.In h) (G : h.Ns mainGlobals mg) : Up K mg x st := by
  obtain ⟨f, oc, od, osl, kV, doc, pm, an, cdv, ct, h1, h2, h3, h4⟩ := d.ex
  exact ⟨f, _, fun_mk h2 h3 h4, PySem.W.mg_of X G h1⟩
/-- an error class over ValueError, its __init__ the def st of the name q -/
structure DEr (K : PySem.W.Frag) (x q : Str) (st : Stmt) : Prop where
  ex : ∃ (C f : Addr) (nm q2 : Str) (N : Addr) (bs bm : List Value) (sn : List Str) (sub : List Value) (ab : Bool) (col : Option Bool) (dd : Option Addr) (m0 m1 m2 m3 m5 : Option Value) (oc : Value) (od : Option Addr) (osl : Array (Option Value)) (kV doc pm : Value) (an : Option Addr) (cdv ct : Value),
    PySem.W.nsIn K mainGlobals x = some (some (.ref C)) ∧ K.lookup C = some (excClassObj nm q2 C N bs bm true sn sub ab col dd m0 m1 m2 m3 m5 "ValueError.__new__") ∧ PySem.HandSPX.refsVE bm = true ∧
    PySem.W.findIn K (.ref C) "__setattr__" = some (some (.builtin "object.__setattr__")) ∧ PySem.W.subIn K (.ref C) (.type "BaseException") = some true ∧ PySem.W.typeIn K (.ref C) = some (.type "type") ∧ PySem.W.keepIn K (.ref C) = true ∧
    PySem.W.findIn K (.ref C) "__init__" = some (some (.ref f)) ∧ PySem.W.typeIn K (.ref f) = some (.type "function") ∧ PySem.W.findIn K (.ref C) "__getattribute__" = some (some (.builtin "BaseException.__getattribute__")) ∧ PySem.W.findIn K (.ref C) "__getattr__" = some none ∧
    PySem.W.hasDictIn K C = true ∧ PySem.W.findIn K (.ref C) "what" = some none ∧ PySem.W.isClsIn K C = true ∧ PySem.W.subIn K (.ref C) (.ref C) = some true ∧
    K.lookup f = some ⟨oc, od, .func (PySem.W.fnOf "__init__" q (defArgs st) (defBody st) (defScope st) .none kV doc pm an cdv ct), osl⟩ ∧ PySem.W.codeIn K cdv q = true ∧ PySem.W.keepIn K (.ref f) = true
theorem DEr.er {K : PySem.W.Frag} {h : Heap} {mg : Str → Option Value} {x q : Str} {st : Stmt} (d : DEr K x q st) (X : K.In h) (G : h.Ns mainGlobals mg) : ∃ (C f : Addr) (fd : FuncData), Er K mg x C f ∧ Fun K "__init__" q st f fd := by
  obtain ⟨C, f, nm, q2, N, bs, bm, sn, sub, ab, col, dd, m0, m1, m2, m3, m5, oc, od, osl, kV, doc, pm, an, cdv, ct, h1, h2, h3, h4, h5, h6, h7, h8, h9, h10, h11, h12, h13, h14, h15, h16, h17, h18⟩ := d.ex
  exact ⟨C, f, _, ⟨PySem.W.mg_of X G h1, ⟨⟨nm, q2, N, bs, bm, sn, sub, ab, col, dd, m0, m1, m2, m3, m5, h2, h3⟩, h4, h5, h6, h7⟩, h8, h9, ⟨h10, h11, h5, h12⟩, h13, exm_self h5 h14 h6 h15⟩, fun_mk h16 h17 h18⟩
/-- the class Calendar -/
structure DCal (K : PySem.W.Frag) (st : Stmt) : Prop where
  ex : ∃ (C f : Addr) (oc : Value) (od : Option Addr) (osl : Array (Option Value)) (kV doc pm : Value) (an : Option Addr) (cdv ct : Value),
    PySem.W.nsIn K mainGlobals "Calendar" = some (some (.ref C)) ∧ PySem.W.plainGet K C Str.empty = true ∧ PySem.W.hasDictIn K C = true ∧ PySem.W.plainOver K C = true ∧ PySem.W.findIn K (.ref C) "__setattr__" = some (some (.builtin "object.__setattr__")) ∧
    PySem.W.makesIn K C = true ∧ PySem.W.keepIn K (.ref C) = true ∧ PySem.W.findIn K (.ref C) "born" = some none ∧ PySem.W.findIn K (.ref C) "days" = some none ∧ PySem.W.findIn K (.ref C) "__init__" = some (some (.ref f)) ∧ PySem.W.isFn K (.ref f) = true ∧
    K.lookup f = some ⟨oc, od, .func (PySem.W.fnOf "__init__" "Calendar.__init__" (defArgs st) (defBody st) (defScope st) .none kV doc pm an cdv ct), osl⟩ ∧ PySem.W.codeIn K cdv "Calendar.__init__" = true ∧ PySem.W.keepIn K (.ref f) = true
theorem DCal.cl {K : PySem.W.Frag} {h : Heap} {mg : Str → Option Value} {st : Stmt} (d : DCal K st) (X : K.In h) (G : h.Ns mainGlobals mg) : ∃ (C f : Addr) (fd : FuncData), ClC K mg C f ∧ Fun K "__init__" "Calendar.__init__" st f fd := by
  obtain ⟨C, f, oc, od, osl, kV, doc, pm, an, cdv, ct, h1, h2, h3, h4, h5, h6, h7, h8, h9, h10, h11, h12, h13, h14⟩ := d.ex
  exact ⟨C, f, _, ⟨⟨h2, h3, h4, h5⟩, h8, h9, PySem.W.mg_of X G h1, ⟨h6, h10, h11, h7⟩⟩, fun_mk h12 h13 h14⟩
/-- built-in names that the module does not bind -/
structure DBl (K : PySem.W.Frag) : Prop where
  ex : PySem.W.nsIn K mainGlobals "len" = some none ∧ PySem.W.nsIn K mainGlobals "sum" = some none ∧ PySem.W.nsIn K mainGlobals "min" = some none ∧ PySem.W.nsIn K mainGlobals "max" = some none ∧ PySem.W.nsIn K mainGlobals "int" = some none ∧ PySem.W.nsIn K mainGlobals "tuple" = some none ∧
    PySem.W.nsIn K mainGlobals "isinstance" = some none ∧ PySem.W.nsIn K mainGlobals "all" = some none ∧ PySem.W.nsIn K mainGlobals "range" = some none ∧ PySem.W.nsIn K mainGlobals "enumerate" = some none ∧ PySem.W.nsIn K mainGlobals "zip" = some none ∧ PySem.W.nsIn K mainGlobals "bool" = some none ∧ PySem.W.nsIn K mainGlobals "list" = some none
theorem DBl.bl {K : PySem.W.Frag} {h : Heap} {mg : Str → Option Value} (d : DBl K) (X : K.In h) (G : h.Ns mainGlobals mg) : Bl mg := by
  obtain ⟨h1, h2, h3, h4, h5, h6, h7, h8, h9, h10, h11, h12, h13⟩ := d.ex
  exact ⟨PySem.W.mg_none_of X G h1, PySem.W.mg_none_of X G h2, PySem.W.mg_none_of X G h3, PySem.W.mg_none_of X G h4, PySem.W.mg_none_of X G h5, PySem.W.mg_none_of X G h6, PySem.W.mg_none_of X G h7, PySem.W.mg_none_of X G h8, PySem.W.mg_none_of X G h9, PySem.W.mg_none_of X G h10, PySem.W.mg_none_of X G h11, PySem.W.mg_none_of X G h12, PySem.W.mg_none_of X G h13⟩
/-- a number of the module -/
structure DKn (K : PySem.W.Frag) (x : Str) (n : Int) : Prop where
  ex : ∃ t, PySem.W.nsIn K mainGlobals x = some (some (.int n t))
theorem DKn.kn {K : PySem.W.Frag} {h : Heap} {mg : Str → Option Value} {x : Str} {n : Int} (d : DKn K x n) (X : K.In h) (G : h.Ns mainGlobals mg) : ∃ t, mg x = some (.int n t) := by
  obtain ⟨t, e⟩ := d.ex
  exact ⟨t, PySem.W.mg_of X G e⟩
/-- two defs of different names stand apart -/
theorem fun_ne {K : PySem.W.Frag} {x y : Str} {st st2 : Stmt} {f g : Addr} {fd fd2 : FuncData} (F : Fun K x x st f fd) (G : Fun K y y st2 g fd2) (h : x ≠ y) : f ≠ g := by
  intro e
  subst e
  obtain ⟨oc, od, kV, doc, pm, an, cdv, ct, osl, rfl, lk, _⟩ := F.ex
  obtain ⟨oc2, od2, kV2, doc2, pm2, an2, cdv2, ct2, osl2, rfl, lk2, _⟩ := G.ex
  rw [lk] at lk2
  have e1 := Option.some.inj lk2
  injection e1 with _ _ e2 _
  injection e2 with e3
  have e4 := congrArg FuncData.name e3
  exact h e4
theorem Df.of {K : PySem.W.Frag} {x : Str} {st : Stmt} {f : Addr} {oc : Value} {od : Option Addr} {osl : Array (Option Value)} {kV doc pm : Value} {an : Option Addr} {cdv ct : Value} (h1 : PySem.W.nsIn K mainGlobals x = some (some (.ref f))) (h2 : K.lookup f = some ⟨oc, od, .func (PySem.W.fnOf x x (defArgs st) (defBody st) (defScope st) .none kV doc pm an cdv ct), osl⟩) (h3 : PySem.W.codeIn K cdv x = true) (h4 : PySem.W.keepIn K (.ref f) = true) : Df K x st := ⟨⟨f, oc, od, osl, kV, doc, pm, an, cdv, ct, h1, h2, h3, h4⟩⟩
theorem DEr.of {K : PySem.W.Frag} {x q : Str} {st : Stmt} {C f : Addr} {nm q2 : Str} {N : Addr} {bs bm : List Value} {sn : List Str} {sub : List Value} {ab : Bool} {col : Option Bool} {dd : Option Addr} {m0 m1 m2 m3 m5 : Option Value} {oc : Value} {od : Option Addr} {osl : Array (Option Value)} {kV doc pm : Value} {an : Option Addr} {cdv ct : Value} (h1 : PySem.W.nsIn K mainGlobals x = some (some (.ref C))) (h2 : K.lookup C = some (excClassObj nm q2 C N bs bm true sn sub ab col dd m0 m1 m2 m3 m5 "ValueError.__new__")) (h3 : PySem.HandSPX.refsVE bm = true) (h4 : PySem.W.findIn K (.ref C) "__setattr__" = some (some (.builtin "object.__setattr__"))) (h5 : PySem.W.subIn K (.ref C) (.type "BaseException") = some true) (h6 : PySem.W.typeIn K (.ref C) = some (.type "type")) (h7 : PySem.W.keepIn K (.ref C) = true) (h8 : PySem.W.findIn K (.ref C) "__init__" = some (some (.ref f))) (h9 : PySem.W.typeIn K (.ref f) = some (.type "function")) (h10 : PySem.W.findIn K (.ref C) "__getattribute__" = some (some (.builtin "BaseException.__getattribute__"))) (h11 : PySem.W.findIn K (.ref C) "__getattr__" = some none) (h12 : PySem.W.hasDictIn K C = true) (h13 : PySem.W.findIn K (.ref C) "what" = some none) (h14 : PySem.W.isClsIn K C = true) (h15 : PySem.W.subIn K (.ref C) (.ref C) = some true) (h16 : K.lookup f = some ⟨oc, od, .func (PySem.W.fnOf "__init__" q (defArgs st) (defBody st) (defScope st) .none kV doc pm an cdv ct), osl⟩) (h17 : PySem.W.codeIn K cdv q = true) (h18 : PySem.W.keepIn K (.ref f) = true) : DEr K x q st := ⟨⟨C, f, nm, q2, N, bs, bm, sn, sub, ab, col, dd, m0, m1, m2, m3, m5, oc, od, osl, kV, doc, pm, an, cdv, ct, h1, h2, h3, h4, h5, h6, h7, h8, h9, h10, h11, h12, h13, h14, h15, h16, h17, h18⟩⟩
theorem DCal.of {K : PySem.W.Frag} {st : Stmt} {C f : Addr} {oc : Value} {od : Option Addr} {osl : Array (Option Value)} {kV doc pm : Value} {an : Option Addr} {cdv ct : Value} (h1 : PySem.W.nsIn K mainGlobals "Calendar" = some (some (.ref C))) (h2 : PySem.W.plainGet K C Str.empty = true) (h3 : PySem.W.hasDictIn K C = true) (h4 : PySem.W.plainOver K C = true) (h5 : PySem.W.findIn K (.ref C) "__setattr__" = some (some (.builtin "object.__setattr__"))) (h6 : PySem.W.makesIn K C = true) (h7 : PySem.W.keepIn K (.ref C) = true) (h8 : PySem.W.findIn K (.ref C) "born" = some none) (h9 : PySem.W.findIn K (.ref C) "days" = some none) (h10 : PySem.W.findIn K (.ref C) "__init__" = some (some (.ref f))) (h11 : PySem.W.isFn K (.ref f) = true) (h12 : K.lookup f = some ⟨oc, od, .func (PySem.W.fnOf "__init__" "Calendar.__init__" (defArgs st) (defBody st) (defScope st) .none kV doc pm an cdv ct), osl⟩) (h13 : PySem.W.codeIn K cdv "Calendar.__init__" = true) (h14 : PySem.W.keepIn K (.ref f) = true) : DCal K st := ⟨⟨C, f, oc, od, osl, kV, doc, pm, an, cdv, ct, h1, h2, h3, h4, h5, h6, h7, h8, h9, h10, h11, h12, h13, h14⟩⟩
theorem DKn.of {K : PySem.W.Frag} {x : Str} {n : Int} {t : Tok} (h : PySem.W.nsIn K mainGlobals x = some (some (.int n t))) : DKn K x n := ⟨⟨t, h⟩⟩
end DL
set_option Elab.async false
set_option linter.all false
set_option maxRecDepth 100000
set_option maxHeartbeats 4000000
/-! tuples whose object is known: displays, sums, products, slices -/
namespace DL
open PySem PySem.Spec PyProof.Rows L2 RZ
section
variable {X : Cx} {es : List Expr} {t : TA} {pos : Pos}
def tTupD (t : TA) : TE := fun σ H Q => t σ H fun xs H1 => xs.length ≤ sizeLine ∧ NewT xs H1 Q
theorem pe_tupD {x1} (h : PA X es t) : PE X (.Tuple es x1 pos) (tTupD t) := by
  refine ⟨fun pins s σ H Q I hq => ?_⟩
  refine wpAny_Tuple_spliced (thn (h.run pos pins s σ H _ I hq) fun us s1 ⟨xs, H1, I1, r, z, q⟩ => ⟨by rw [← r.length]; exact z, ?_⟩)
  obtain ⟨H', I', s', d'⟩ := laidD (t := s1.toks) I1 z r
  exact ⟨.ref s1.heap.objs.size, H', I', rfl, q _ _ s' d'⟩
def rCatD : R2 := fun x y H Q => ∃ a b xs ys, x = .ref a ∧ y = .ref b ∧ TupD H a xs ∧ TupD H b ys ∧ xs.length + ys.length ≤ sizeLine ∧ NewT (xs ++ ys) H Q
theorem op_catD : OpR X (binaryOp .Add) rCatD := by
  intro pins s σ H x y v u Q I rx ry h
  obtain ⟨a, b, xs, ys, rfl, rfl, ha, hb, hz, q⟩ := h
  cases rx
  cases ry
  obtain ⟨its, r1, p1, _⟩ := I.tuple (ha.sq (K := X.K))
  obtain ⟨its2, r2, p2, _⟩ := I.tuple (hb.sq (K := X.K))
  by_cases hx : xs = []
  · subst hx
    cases r1
    exact cat_tup0 p1 p2 ⟨.ref b, H, I, rfl, q b H (Same.refl H) hb⟩
  · refine HT.cat_tup p1 p2 (fun z => hx (r1.nil_iff.mp z)) (fun z => ⟨.ref a, H, I, rfl, q a H (Same.refl H) ?_⟩) (fun z => ?_) (by rw [← r1.length, ← r2.length]; exact hz)
    · have e : ys = [] := r2.nil_iff.mp z
      rw [e, List.append_nil]
      exact ha
    · obtain ⟨H', I', s', d'⟩ := laidD (t := s.toks) I (by rw [List.length_append]; exact hz) (r1.append r2)
      exact ⟨.ref s.heap.objs.size, H', I', rfl, q _ _ s' d'⟩
def rSlD : V → Option Int → Option Int → Hp → VK → Prop := fun x lo hi H Q => ∃ a xs, x = .ref a ∧ TupD H a xs ∧ NewT (cutV xs lo hi) H Q
theorem sl_tupD : SlR X rSlD := by
  intro pins s σ H x v vl vu lo hi sl Q I rx hs pl pu h
  obtain ⟨a, xs, rfl, hx, q⟩ := h
  cases rx
  obtain ⟨its, r, ht, hz⟩ := I.tuple (hx.sq (K := X.K))
  have hlen : its.toArray.size = xs.length := by rw [List.size_toArray]; exact r.length.symm
  refine ⟨"tuple", _, PyProof.Rows.slot_tuple_getitem.lookup, ht.typeIs, ?_⟩
  by_cases hw : HT.sIx xs.length 0 lo = 0 ∧ HT.sIx xs.length xs.length hi = xs.length
  · refine getItem_tuple_whole ht hs pl pu (by rw [hlen]; exact hw) ⟨.ref a, H, I, rfl, q a H (Same.refl H) ?_⟩
    have e : cutV xs lo hi = xs := by
      unfold cutV
      rw [hw.1, hw.2]
      simp
    rw [e]
    exact hx
  · refine HT.getItem_tuple_cut ht hs pl pu (by rw [hlen]; exact hw) ?_ (by rw [hlen]; exact hz)
    rw [hlen]
    obtain ⟨H', I', s', d'⟩ := laidD (t := s.toks) I (Nat.le_trans (cutV_length xs lo hi) hz) ((r.drop (HT.sIx xs.length 0 lo)).take (HT.sIx xs.length xs.length hi - HT.sIx xs.length 0 lo))
    exact ⟨.ref s.heap.objs.size, H', I', rfl, q _ _ s' d'⟩
end
theorem tuple_mul1 (l : Addr) (items : Array Value) (n : Nat) (dd : Option Addr) (sl : Array (Option Value)) (x : Int) (u : Tok) (c0 : (decide (x < -(2 ^ 63)) || decide (x ≥ 2 ^ 63)) = false) (c1 : (items.isEmpty || x == 1) = true) :
    Meets (Builtin.«tuple.__mul__» ⟨[.ref l, .int x u], []⟩) (fun _ R s => s.heap.get? l = some { cls := .type "tuple", dict := dd, data := .seq items n, slots := sl } ∧ R (.ok (.ret (Value.ref l))) s) :=
  .of_wp fun prog w A R s h => by
    obtain ⟨hp, g, d, tk, os⟩ := s
    obtain ⟨hl, h⟩ := h
    have f1 := AutoSeq1.idx_int
    wp_walk using wpAny_loadPart' hl
    repeat (first
      | (refine wpAny_ite_false (decide_eq_false (by rw [c0]; exact Bool.false_ne_true)) ?_; wp_walk using wpAny_loadPart' hl)
      | (refine wpAny_ite_true (decide_eq_true (by rw [c1])) ?_; wp_walk using wpAny_loadPart' hl))
    exact ⟨_, rfl, h⟩
theorem tuple_mul0 (l : Addr) (items : Array Value) (n : Nat) (dd : Option Addr) (sl : Array (Option Value)) (x : Int) (u : Tok) (c0 : (decide (x < -(2 ^ 63)) || decide (x ≥ 2 ^ 63)) = false) (c1 : (items.isEmpty || x == 1) = false) (c2 : (decide (x ≤ 0) || items.isEmpty) = true) :
    Meets (Builtin.«tuple.__mul__» ⟨[.ref l, .int x u], []⟩) (fun _ R s => s.heap.get? l = some { cls := .type "tuple", dict := dd, data := .seq items n, slots := sl } ∧
      R (.ok (.ret (Value.ref s.heap.objs.size))) { s with heap := s.heap.push { cls := Value.type "tuple", data := Data.seq #[] }, toks := s.toks }) :=
  .of_wp fun prog w A R s h => by
    obtain ⟨hp, g, d, tk, os⟩ := s
    obtain ⟨hl, h⟩ := h
    have f1 := AutoSeq1.idx_int
    wp_walk using wpAny_loadPart' hl
    repeat (first
      | (refine wpAny_ite_false (decide_eq_false (by rw [c0]; exact Bool.false_ne_true)) ?_; wp_walk using wpAny_loadPart' hl)
      | (refine wpAny_ite_false (decide_eq_false (by rw [c1]; exact Bool.false_ne_true)) ?_; wp_walk using wpAny_loadPart' hl)
      | (refine wpAny_ite_true (decide_eq_true (by rw [c2])) ?_; wp_walk using wpAny_loadPart' hl))
    exact ⟨_, rfl, h⟩
def rRepD : R2 := fun x y H Q => ∃ l k xs, x = .ref l ∧ y = .int k ∧ TupD H l xs ∧ -1000 ≤ k ∧ k ≤ 1000 ∧ xs.length ≤ 1000 ∧ NewT (List.replicate k.toNat xs).flatten H Q
section
variable {X : Cx}
theorem op_repD : OpR X (binaryOp .Mult) rRepD := by
  intro pins s σ H x y v u Q I rx ry h
  obtain ⟨l, k, xs, rfl, rfl, hT, h1, h2, hz, q⟩ := h
  cases rx
  obtain ⟨t, rfl⟩ := ry
  obtain ⟨its, r, ⟨⟨cls, dd, data, sl⟩, ho, hc, n, hd⟩, hs⟩ := I.tuple (hT.sq (K := X.K))
  simp only at hc hd
  subst hc hd
  have hle : its.length = xs.length := r.length.symm
  have hsz0 : its.toArray.size = xs.length := by rw [List.size_toArray, hle]
  have c0 : (decide (k < -(2 ^ 63)) || decide (k ≥ 2 ^ 63)) = false := by
    rw [decide_eq_false (by omega), decide_eq_false (by omega)] <;> rfl
  by_cases e1 : (its.toArray.isEmpty || k == 1) = true
  · have ex : (List.replicate k.toNat xs).flatten = xs := by
      rcases (Bool.or_eq_true_iff.mp e1) with h | h
      · have hx : xs = [] := by
          have : its = [] := by simpa using h
          rw [this] at hle
          exact List.eq_nil_of_length_eq_zero hle.symm
        subst hx
        simp
      · have hk : k = 1 := by simpa using h
        subst hk
        simp
    refine wpAny_binaryOp_repeat_ref (T := "tuple") (U := "int") (by decide) ⟨_, ho, rfl⟩ (fun s' => typeIs_int s' k t) noFill_tuple_mul F.fills_int_mul F.slot_int_rmul repeat_tuple F.slot_int_index.lookup
      (call_meets F.slot_int_rmul (typeIs_int s k t) F.entry_int_rmul (F.args_int_rmul_2 _ _) (int_rmul_tuple k t l its.toArray n dd sl)
        ⟨ho, rfl, ⟨_, ho, rfl⟩, call_meets F.slot_tuple_mul ⟨_, ho, rfl⟩ F.entry_tuple_mul (F.args_tuple_mul_2 _ _) (tuple_mul1 l its.toArray n dd sl k t c0 e1) ⟨ho, ?_⟩⟩)
    exact ⟨.ref l, H, I, rfl, q l H (Same.refl H) (by rw [ex]; exact hT)⟩
  · have c1 : (its.toArray.isEmpty || k == 1) = false := by simpa using e1
    have hne : its.toArray.isEmpty = false := (Bool.or_eq_false_iff.mp c1).1
    have hk1 : k ≠ 1 := by
      have := (Bool.or_eq_false_iff.mp c1).2
      simpa using this
    by_cases e2 : k ≤ 0
    · have c2 : (decide (k ≤ 0) || its.toArray.isEmpty) = true := by rw [decide_eq_true e2]; rfl
      refine wpAny_binaryOp_repeat_ref (T := "tuple") (U := "int") (by decide) ⟨_, ho, rfl⟩ (fun s' => typeIs_int s' k t) noFill_tuple_mul F.fills_int_mul F.slot_int_rmul repeat_tuple F.slot_int_index.lookup
        (call_meets F.slot_int_rmul (typeIs_int s k t) F.entry_int_rmul (F.args_int_rmul_2 _ _) (int_rmul_tuple k t l its.toArray n dd sl)
          ⟨ho, rfl, ⟨_, ho, rfl⟩, call_meets F.slot_tuple_mul ⟨_, ho, rfl⟩ F.entry_tuple_mul (F.args_tuple_mul_2 _ _) (tuple_mul0 l its.toArray n dd sl k t c0 c1 c2) ⟨ho, ?_⟩⟩)
      obtain ⟨H', I', s', d'⟩ := laidD (xs := []) (us := []) (t := s.toks) I (Nat.zero_le _) .nil
      refine ⟨.ref s.heap.objs.size, H', I', rfl, q _ _ s' ?_⟩
      rw [show k.toNat = 0 by omega]
      exact d'
    · have hm : ((its.toArray.size : Nat) : Int) * k ≤ 1000000 := by
        rw [hsz0]
        have a1 : ((xs.length : Nat) : Int) * k ≤ 1000 * k := Int.mul_le_mul_of_nonneg_right (by omega) (by omega)
        omega
      have flen : (List.replicate k.toNat its).flatten.length ≤ sizeLine := by
        rw [PyProof.Rows.lm_len_rep_flat, hle, sizeLine_eq]
        have a1 : k.toNat * xs.length ≤ 1000 * 1000 := Nat.mul_le_mul (by omega) hz
        omega
      have c2 : (decide (k ≤ 0) || its.toArray.isEmpty) = false := by
        rw [hne, Bool.or_false]
        exact decide_eq_false e2
      have c4 : Builtin.Tuple.tupleTooMany (((its.toArray.size : Nat) : Int) * k) = false := by
        unfold Builtin.Tuple.tupleTooMany
        rw [sizeLine_eq]
        exact decide_eq_false (by omega)
      refine wpAny_binaryOp_repeat_ref (T := "tuple") (U := "int") (by decide) ⟨_, ho, rfl⟩ (fun s' => typeIs_int s' k t) noFill_tuple_mul F.fills_int_mul F.slot_int_rmul repeat_tuple F.slot_int_index.lookup
        (call_meets F.slot_int_rmul (typeIs_int s k t) F.entry_int_rmul (F.args_int_rmul_2 _ _) (int_rmul_tuple k t l its.toArray n dd sl)
          ⟨ho, rfl, ⟨_, ho, rfl⟩, call_meets F.slot_tuple_mul ⟨_, ho, rfl⟩ F.entry_tuple_mul (F.args_tuple_mul_2 _ _) (tuple_mulW l its.toArray n dd sl k t c0 c1 c2 (by omega) c4 (by rw [size_rep, List.size_toArray]; exact flen)) ⟨ho, ?_⟩⟩)
      rw [size_rep]
      have hx : (List.replicate k.toNat xs).flatten.length ≤ sizeLine := by
        rw [PyProof.Rows.lm_len_rep_flat, ← hle, ← PyProof.Rows.lm_len_rep_flat]
        exact flen
      obtain ⟨H', I', s', d'⟩ := laidD (t := s.toks) I hx (r.rep k.toNat)
      exact ⟨.ref s.heap.objs.size, H', I', rfl, q _ _ s' d'⟩
end
end DL
set_option Elab.async false
set_option linter.all false
set_option maxRecDepth 100000
set_option maxHeartbeats 2000000
/-! deep equality of rows of rows -/
namespace DL
open PySem PySem.Spec PyProof.Rows L2 RZ
theorem eqv_map {α : Type} [DecidableEq α] {f : α → PyData} (h : ∀ x y, PyData.eqv (f x) (f y) = decide (x = y)) : ∀ a b : List α, PyData.eqvAll (a.map f) (b.map f) = decide (a = b)
  | [], [] => by simp [PyData.eqvAll]
  | [], _ :: _ => by simp [PyData.eqvAll]
  | _ :: _, [] => by simp [PyData.eqvAll]
  | x :: a, y :: b => by
    simp only [List.map_cons, PyData.eqvAll, h x y, eqv_map h a b]
    by_cases e : x = y
    · subst e
      simp
    · simp [e]
theorem lay_map {α : Type} {f : α → PyData} (h : ∀ x, (f x).canLay0 = true) : ∀ a : List α, PyData.canLayAll0 (a.map f) = true
  | [] => by simp [PyData.canLayAll0]
  | x :: a => by simp [PyData.canLayAll0, h x, lay_map h a]
theorem depth_map {α : Type} {f : α → PyData} {n : Nat} (h : ∀ x, (f x).depth ≤ n) : ∀ a : List α, PyData.depthAll (a.map f) ≤ n
  | [] => by simp [PyData.depthAll]
  | x :: a => by
    have h1 := h x
    have h2 := depth_map h a
    simp [PyData.depthAll]
    omega
theorem dp_map {α : Type} {f : α → PyData} {K : PySem.W.Frag} {H : Hp} : ∀ (qs : List Addr) (xs : List α), qs.length = xs.length → (∀ (i : Nat) (q : Addr) (x : α), qs[i]? = some q → xs[i]? = some x → Dp K H (.ref q) (f x)) → DpAll K H (qs.map V.ref) (xs.map f)
  | [], [], _, _ => .nil
  | [], _ :: _, e, _ => by cases e
  | _ :: _, [], e, _ => by cases e
  | q :: qs, x :: xs, e, h => .cons (h 0 q x rfl rfl) (dp_map qs xs (by simpa using e) fun i r y h1 h2 => h (i + 1) r y h1 h2)
def P1 (ns : List Int) : PyData := .tuple (ns.map PyData.int)
def P2 (nss : List (List Int)) : PyData := .tuple (nss.map P1)
def PL2 (nss : List (List Int)) : PyData := .list (nss.map P1)
theorem lay1 (ns : List Int) : (P1 ns).canLay0 = true := by simp [P1, PyData.canLay0, lay_ints]
theorem depth1 (ns : List Int) : (P1 ns).depth ≤ 1 := by simp [P1, PyData.depth, depth_ints]
theorem eqv1 (a b : List Int) : PyData.eqv (P1 a) (P1 b) = decide (a = b) := eqv_tup a b
theorem eqvL2 (a b : List (List Int)) : PyData.eqv (PL2 a) (PL2 b) = decide (a = b) := by
  unfold PL2
  simp only [PyData.eqv]
  exact eqv_map eqv1 a b
theorem eqv2 (a b : List (List Int)) : PyData.eqv (P2 a) (P2 b) = decide (a = b) := by
  unfold P2
  simp only [PyData.eqv]
  exact eqv_map eqv1 a b
theorem shapedL2 (a : List (List Int)) : SeqAt.shaped (PL2 a) = true := by
  have := depth_map depth1 a
  unfold SeqAt.shaped PL2
  simp [PyData.canLay0, lay_map lay1, PyData.depth]
  omega
theorem lay2 (a : List (List Int)) : (P2 a).canLay0 = true := by simp [P2, PyData.canLay0, lay_map lay1]
theorem depth2 (a : List (List Int)) : (P2 a).depth ≤ 2 := by
  have := depth_map depth1 a
  simp [P2, PyData.depth]
  omega
theorem dpL2 {K : PySem.W.Frag} {H : Hp} {a : Addr} {qs : List Addr} {nss : List (List Int)} (h : SqL K H a (qs.map V.ref)) (hl : qs.length = nss.length) (hq : ∀ (i : Nat) (q : Addr) (ns : List Int), qs[i]? = some q → nss[i]? = some ns → TupI K H q ns) : Dp K H (.ref a) (PL2 nss) :=
  .lst h (dp_map qs nss hl fun i q x h1 h2 => dp_tup (hq i q x h1 h2))
theorem dp2 {K : PySem.W.Frag} {H : Hp} {a : Addr} {nss : List (List Int)} (h : TupTI K H a nss) : Dp K H (.ref a) (P2 nss) := by
  obtain ⟨qs, h1, h2, h3⟩ := h
  exact .tup h1 (dp_map qs nss h2 fun i q x a b => dp_tup (h3 i q x a b))
/-- (births, days) -/
def P3 (bs : List Int) (ds : List (List Int)) : PyData := .tuple [P1 bs, P2 ds]
theorem shaped3 (bs : List Int) (ds : List (List Int)) : SeqAt.shaped (P3 bs ds) = true := by
  have h1 := depth1 bs
  have h2 := depth2 ds
  unfold SeqAt.shaped P3
  simp [PyData.canLay0, PyData.canLayAll0, lay1, lay2, PyData.depth, PyData.depthAll]
  omega
theorem eqv3 (bs bs' : List Int) (ds ds' : List (List Int)) : PyData.eqv (P3 bs ds) (P3 bs' ds') = (decide (bs = bs') && decide (ds = ds')) := by
  unfold P3
  simp [PyData.eqv, PyData.eqvAll, eqv1, eqv2]
theorem dp3 {K : PySem.W.Frag} {H : Hp} {a b d : Addr} {bs : List Int} {ds : List (List Int)} (h : SqT K H a [.ref b, .ref d]) (hb : TupI K H b bs) (hd : TupTI K H d ds) : Dp K H (.ref a) (P3 bs ds) :=
  .tup h (.cons (dp_tup hb) (.cons (dp2 hd) .nil))
end DL
namespace DL
open PySem PySem.Spec PyProof.Rows L2 RZ
theorem filt_nil {α : Type} (k : α → Bool) : ∀ l : List α, decide ((l.filter fun x => !k x).length = 0) = (l.map k).all id
  | [] => by simp
  | x :: r => by
    have ih := filt_nil k r
    cases h : k x
    · simp [h]
    · simp [h] at ih ⊢
      exact ih
theorem zip_filt_snd {α β : Type} (k : β → Bool) : ∀ (qs : List α) (ds : List β), qs.length = ds.length → ((qs.zip ds).filter fun p => k p.2).map Prod.snd = ds.filter k
  | [], [], _ => rfl
  | [], _ :: _, h => by cases h
  | _ :: _, [], h => by cases h
  | q :: qs, d :: ds, h => by
    have ih := zip_filt_snd k qs ds (by simpa using h)
    cases e : k d
    · simp [e, ih]
    · simp [e, ih]
theorem nil_dec {α : Type} [DecidableEq α] (l : List α) : decide (l = []) = decide (l.length = 0) := by
  cases l <;> simp
end DL
namespace DL
open PySem PySem.Spec PyProof.Rows L2 RZ
section
variable {X : Cx}
theorem call_reprB : CallR X (.builtin "repr") (fun xs H Q => ∃ b : Bool, xs = [.bl b] ∧ Q (.str (if b then "True" else "False")) H) := by
  intro pins s σ H xs us Q I r h
  obtain ⟨b, rfl, q⟩ := h
  obtain ⟨u, rfl, r1⟩ := vals1 r
  cases r1
  exact PySem.P.repr_of_bool ⟨.str _, H, I.tok _, ⟨_, rfl⟩, q⟩
end
structure BlR (mg : Str → Option Value) : Prop where
  repr : mg "repr" = none
end DL
set_option Elab.async false
set_option linter.all false
set_option maxRecDepth 100000
set_option maxHeartbeats 2000000
/-! plain and level calendars: the mathematics -/
namespace DL
open PySem PySem.Spec PyProof.Rows L2 RZ
def countsL (bs : List Int) (ds : List (List Int)) : List Int := (List.range (ds.length + 1)).map (aliveAt bs ds)
def plainB (bs : List Int) (ds : List (List Int)) : Bool := (bs.map fun b => decide (b = 0)).all id && ((ds.map fun p => decide (p = [2])).all id && decide ((ds.length : Int) = (bs.length : Int) - 1))
/-- the sizes of all days, in a row -/
def sizesL (ds : List (List Int)) : List Int := ds.flatten
def fullB (bs : List Int) (ds : List (List Int)) : Bool := (List.range ds.length).all fun i => decide ((ds.getD i []).sum = aliveAt bs ds i)
def alikeB (ns : List Int) : Bool := (ns.map fun s => decide (s = ns.headD 0)).all id
def levelB (bs : List Int) (ds : List (List Int)) : Bool := fullB bs ds && (alikeB (sizesL ds) && decide (aliveAt bs ds ds.length = 1))
theorem all_true {α : Type} {l : List α} {f : α → Bool} (h : (l.map f).all id = true) : ∀ x ∈ l, f x = true := by
  intro x hx
  rw [List.all_eq_true] at h
  exact h _ (List.mem_map_of_mem hx)
theorem sum_twos : ∀ {ds : List (List Int)}, (∀ p ∈ ds, p = [2]) → (ds.map lessI).sum = (ds.length : Int)
  | [], _ => rfl
  | p :: r, h => by
    have e := h p List.mem_cons_self
    subst e
    have ih := sum_twos (ds := r) fun q hq => h q (List.mem_cons_of_mem _ hq)
    rw [List.map_cons, List.sum_cons, ih]
    simp [lessI]
    omega
theorem plain_end {bs : List Int} {ds : List (List Int)} (h1 : (bs.map fun b => decide (b = 0)).all id = true) (h2 : (ds.map fun p => decide (p = [2])).all id = true) :
    decide (aliveAt bs ds ds.length = 1) = decide ((ds.length : Int) = (bs.length : Int) - 1) := by
  have a1 := all_true h1
  have a2 := all_true h2
  have e1 : (bs.filter fun b => decide (b ≤ (ds.length : Int))) = bs := by
    rw [List.filter_eq_self]
    intro b hb
    have := of_decide_eq_true (a1 b hb)
    simp
    omega
  have e2 : (ds.map lessI).sum = (ds.length : Int) := sum_twos fun p hp => of_decide_eq_true (a2 p hp)
  unfold aliveAt
  rw [e1, List.take_length, e2]
  congr 1
  apply propext
  constructor <;> intro h <;> omega
theorem sizes_len {ds : List (List Int)} (h : ∀ p ∈ ds, p.length ≤ 1000) : (sizesL ds).length ≤ 1000 * ds.length := by
  induction ds with
  | nil => simp [sizesL]
  | cons p r ih =>
    have h1 := h p List.mem_cons_self
    have h2 := ih fun q hq => h q (List.mem_cons_of_mem _ hq)
    simp only [sizesL, List.flatten_cons, List.length_append, List.length_cons] at h2 ⊢
    omega
theorem sizes_next {ds : List (List Int)} {i : Nat} {p : List Int} (h : ds[i]? = some p) : sizesL (ds.take (i + 1)) = sizesL (ds.take i) ++ p := by
  have e : ds.take (i + 1) = ds.take i ++ [p] := by rw [List.take_add_one, h] <;> rfl
  rw [e]
  simp [sizesL]
theorem full_of {bs : List Int} {ds : List (List Int)} (h : ∀ i p, ds[i]? = some p → p.sum = aliveAt bs ds i) : fullB bs ds = true := by
  unfold fullB
  rw [List.all_eq_true]
  intro i hi
  have hi' : i < ds.length := by simpa using hi
  have e : ds[i]? = some ds[i] := by simp
  rw [List.getD_eq_getElem?_getD, e]
  simp only [Option.getD_some]
  exact decide_eq_true (h i _ e)
theorem full_not {bs : List Int} {ds : List (List Int)} {i : Nat} {p : List Int} (h : ds[i]? = some p) (hn : p.sum ≠ aliveAt bs ds i) : fullB bs ds = false := by
  unfold fullB
  rw [List.all_eq_false]
  refine ⟨i, ?_, ?_⟩
  · have := (List.getElem?_eq_some_iff.mp h).1
    simpa using this
  · rw [List.getD_eq_getElem?_getD, h]
    simpa using hn
end DL
set_option Elab.async false
set_option linter.all false
set_option maxRecDepth 100000
set_option maxHeartbeats 2000000
/-! leaves at drawn depths: the mathematics -/
namespace DL
open PySem PySem.Spec PyProof.Rows L2 RZ
structure LevOk (r g : Int) (bs : List Int) (ds : List (List Int)) : Prop where
  g1 : 1 ≤ g
  room : (bs.length : Int) + g * r ≤ 12
  pat : ∀ p ∈ ds, patB p = true ∧ p ≠ [] ∧ p.length ≤ 1000
  born : ∀ b ∈ bs, 0 ≤ b ∧ b ≤ (ds.length : Int)
  fit : ∀ (i : Nat) (p : List Int), ds[i]? = some p → p.sum ≤ aliveAt (bs ++ List.replicate g.toNat 0) ds i
theorem patB_rep {r : Int} (hr : 2 ≤ r) : ∀ n : Nat, patB (List.replicate n r) = true
  | 0 => rfl
  | n + 1 => by
    rw [List.replicate_succ']
    refine patB_app (patB_rep hr n) hr fun y hy => ?_
    have := List.mem_of_getLast? hy
    have := List.eq_of_mem_replicate this
    omega
theorem sum_rep (n : Nat) (r : Int) : (List.replicate n r).sum = n * r := by
  induction n with
  | zero => simp
  | succ n ih =>
    rw [List.replicate_succ, List.sum_cons, ih]
    rw [Int.natCast_succ, Int.add_mul]
    omega
theorem filt_rep (n : Nat) {k : Int → Bool} (h : k 0 = true) : ((List.replicate n (0 : Int)).filter k).length = n := by
  rw [List.filter_eq_self.mpr]
  · simp
  · intro x hx
    rw [List.eq_of_mem_replicate hx, h]
section
variable {r g b c : Int} {bs : List Int} {ds : List (List Int)}
theorem up_filt (m : Nat) (bs : List Int) : ((bs.map (· + 1)).filter fun x => decide (x ≤ ((m + 1 : Nat) : Int))).length = (bs.filter fun x => decide (x ≤ (m : Int))).length := by
  rw [List.filter_map, List.length_map]
  congr 1
  apply List.filter_congr
  intro x _
  simp
theorem up_filt0 (h : ∀ x ∈ bs, 0 ≤ x) : ((bs.map (· + 1)).filter fun x => decide (x ≤ ((0 : Nat) : Int))).length = 0 := by
  rw [List.length_eq_zero_iff, List.filter_eq_nil_iff]
  intro x hx
  obtain ⟨y, hy, rfl⟩ := List.mem_map.mp hx
  have := h y hy
  simp
  omega
theorem lev_alive0 {p : List Int} (h : ∀ x ∈ bs, 0 ≤ x) (hb : 0 ≤ b) (hc : 0 ≤ c) : aliveAt ((bs.map (· + 1) ++ List.replicate c.toNat 0) ++ List.replicate b.toNat 0) (p :: ds) 0 = b + c := by
  unfold aliveAt
  rw [List.filter_append, List.filter_append, List.length_append, List.length_append, up_filt0 h, filt_rep _ (by simp), filt_rep _ (by simp)]
  simp
  omega
theorem lev_aliveS (hg : 1 ≤ g) (hb : 0 ≤ b) (hc : 0 ≤ c) (e : b + c = g * r) (i : Nat) : aliveAt ((bs.map (· + 1) ++ List.replicate c.toNat 0) ++ List.replicate b.toNat 0) (List.replicate g.toNat r :: ds) (i + 1) = aliveAt (bs ++ List.replicate g.toNat 0) ds i := by
  unfold aliveAt
  rw [List.filter_append, List.filter_append, List.length_append, List.length_append, up_filt, filt_rep _ (by simp; omega), filt_rep _ (by simp; omega), List.filter_append, List.length_append, filt_rep _ (by simp)]
  rw [List.take_succ_cons, List.map_cons, List.sum_cons]
  have e1 : lessI (List.replicate g.toNat r) = g * r - g := by
    unfold lessI
    rw [sum_rep, List.length_replicate, show ((g.toNat : Nat) : Int) = g by omega]
  rw [e1]
  omega
theorem LevOk.start {r : Int} (h : r ≤ 4) : LevOk r 1 [] [] := ⟨by omega, by simp; omega, fun p h => (nomatch h), fun b h => (nomatch h), fun i p h => by cases h⟩
theorem LevOk.pats (h : LevOk r g bs ds) (hr : 2 ≤ r) : ∀ p ∈ List.replicate g.toNat r :: ds, patB p = true ∧ p ≠ [] ∧ p.length ≤ 1000 := by
  intro p hp
  have h1 := h.g1
  have h2 := h.room
  rcases List.mem_cons.mp hp with rfl | hp
  · have h3 : g * 2 ≤ g * r := Int.mul_le_mul_of_nonneg_left hr (by omega)
    refine ⟨patB_rep hr _, ?_, ?_⟩
    · intro z
      have := congrArg List.length z
      simp at this
      omega
    · simp
      omega
  · exact h.pat p hp
theorem LevOk.borns (h : LevOk r g bs ds) {k : Nat} : ∀ x ∈ bs.map (· + 1) ++ List.replicate k 0, 0 ≤ x ∧ x ≤ (((List.replicate g.toNat r :: ds).length : Nat) : Int) := by
  intro x hx
  rcases List.mem_append.mp hx with hx | hx
  · obtain ⟨y, hy, rfl⟩ := List.mem_map.mp hx
    have := h.born y hy
    simp
    omega
  · rw [List.eq_of_mem_replicate hx]
    simp
    omega
theorem LevOk.fits (h : LevOk r g bs ds) (hb : 0 ≤ b) (hc : 0 ≤ c) (e : b + c = g * r) : ∀ (i : Nat) (p : List Int), (List.replicate g.toNat r :: ds)[i]? = some p → p.sum ≤ aliveAt ((bs.map (· + 1) ++ List.replicate c.toNat 0) ++ List.replicate b.toNat 0) (List.replicate g.toNat r :: ds) i := by
  intro i p hp
  have h1 := h.g1
  cases i with
  | zero =>
    cases hp
    rw [lev_alive0 (fun x hx => (h.born x hx).1) hb hc, sum_rep, show ((g.toNat : Nat) : Int) = g by omega]
    omega
  | succ i =>
    rw [lev_aliveS h1 hb hc e]
    exact h.fit i p hp
theorem LevOk.cut (h : LevOk r g bs ds) (hr : 2 ≤ r) (hb : 0 ≤ b) (hc : 0 ≤ c) (e : b + c = g * r) (hd : ds.length ≤ 10) : CalOk ((bs.map (· + 1) ++ List.replicate c.toNat 0) ++ List.replicate b.toNat 0) (List.replicate g.toNat r :: ds) := by
  have h1 := h.g1
  have h2 := h.room
  have h3 : g * 2 ≤ g * r := Int.mul_le_mul_of_nonneg_left hr (by omega)
  refine ⟨by simp; omega, by simp; omega, by simp; omega, h.pats hr, fun x hx => ?_, h.fits hb hc e⟩
  rcases List.mem_append.mp hx with hx | hx
  · exact h.borns x hx
  · rw [List.eq_of_mem_replicate hx]
    simp
    omega
theorem LevOk.next (h : LevOk r g bs ds) (hr : 2 ≤ r) (hb : 1 ≤ b) (hc : 0 ≤ c) (e : b + c = g * r) (hz : (((bs.map (· + 1) ++ List.replicate c.toNat 0).length : Nat) : Int) + b * r ≤ 12) : LevOk r b (bs.map (· + 1) ++ List.replicate c.toNat 0) (List.replicate g.toNat r :: ds) :=
  ⟨hb, hz, h.pats hr, h.borns, h.fits (by omega) hc e⟩
theorem LevOk.fin (h : LevOk r g bs ds) (hr : 2 ≤ r) (hd : ds.length ≤ 11) : CalOk (bs ++ List.replicate g.toNat 0) ds := by
  have h1 := h.g1
  have h2 := h.room
  have h3 : g * 2 ≤ g * r := Int.mul_le_mul_of_nonneg_left hr (by omega)
  refine ⟨by simp; omega, by simp; omega, hd, h.pat, fun x hx => ?_, h.fit⟩
  rcases List.mem_append.mp hx with hx | hx
  · exact h.born x hx
  · rw [List.eq_of_mem_replicate hx]
    omega
end
end DL
set_option Elab.async false
set_option linter.all false
set_option maxRecDepth 100000
set_option maxHeartbeats 2000000
/-! plain ones, stars, changed calendars: the mathematics; rows of tuples in parts -/
namespace DL
open PySem PySem.Spec PyProof.Rows L2 RZ
def zerosL (n : Int) : List Int := List.replicate n.toNat 0
def twosL (n : Int) : List (List Int) := List.replicate (n - 1).toNat [2]
def oneDay (n : Int) : List (List Int) := [[n]]
theorem less_twos (k : Nat) : ((List.replicate k [(2 : Int)]).map lessI).sum = k := by
  induction k with
  | zero => rfl
  | succ k ih =>
    rw [List.replicate_succ, List.map_cons, List.sum_cons, ih]
    simp [lessI]
    omega
theorem cal_plain {n : Int} (h1 : 1 ≤ n) (h2 : n ≤ 12) : CalOk (zerosL n) (twosL n) := by
  refine ⟨by simp [zerosL]; omega, by simp [zerosL]; omega, by simp [twosL]; omega, fun p hp => ?_, fun b hb => ?_, fun i p hp => ?_⟩
  · rw [List.eq_of_mem_replicate hp]
    exact ⟨rfl, by simp, by simp⟩
  · rw [List.eq_of_mem_replicate hb]
    omega
  · have hm := List.eq_of_mem_replicate (List.mem_of_getElem? hp)
    have hi := (List.getElem?_eq_some_iff.mp hp).1
    simp [twosL] at hi
    subst hm
    have e1 : (twosL n).take i = List.replicate i [2] := by
      unfold twosL
      rw [List.take_replicate, Nat.min_eq_left (by omega)]
    unfold aliveAt zerosL
    rw [filt_rep _ (by simp), e1, less_twos]
    simp
    omega
theorem cal_star {n : Int} (h1 : 2 ≤ n) (h2 : n ≤ 12) : CalOk (zerosL n) (oneDay n) := by
  refine ⟨by simp [zerosL]; omega, by simp [zerosL]; omega, by simp [oneDay], fun p hp => ?_, fun b hb => ?_, fun i p hp => ?_⟩
  · rw [List.mem_singleton.mp hp]
    exact ⟨by simp [patB, h1], by simp, by simp⟩
  · rw [List.eq_of_mem_replicate hb]
    omega
  · cases i with
    | zero =>
      cases hp
      unfold aliveAt zerosL
      rw [filt_rep _ (by simp)]
      simp
      omega
    | succ i => cases hp
theorem cal_one : CalOk [0] [] := ⟨by decide, by decide, by decide, fun p h => (nomatch h), fun b hb => by rw [List.mem_singleton.mp hb]; decide, fun i p h => by cases h⟩
/-- addresses of tuples that hold these rows -/
def RowsD (H : Hp) (qs : List Addr) (ds : List (List Int)) : Prop := qs.length = ds.length ∧ ∀ (i : Nat) (q : Addr) (ns : List Int), qs[i]? = some q → ds[i]? = some ns → TupD H q (ns.map V.int)
theorem TupTD.rows {H : Hp} {a : Addr} {ds : List (List Int)} (h : TupTD H a ds) : ∃ qs : List Addr, TupD H a (qs.map V.ref) ∧ RowsD H qs ds := by
  obtain ⟨qs, h1, h2, h3⟩ := h
  exact ⟨qs, h1, h2, h3⟩
theorem RowsD.td {H : Hp} {a : Addr} {qs : List Addr} {ds : List (List Int)} (h : RowsD H qs ds) (t : TupD H a (qs.map V.ref)) : TupTD H a ds := ⟨qs, t, h.1, h.2⟩
theorem RowsD.same {H H' : Hp} {qs : List Addr} {ds : List (List Int)} (h : RowsD H qs ds) (s : Same H H') : RowsD H' qs ds := ⟨h.1, fun i q ns a b => (h.2 i q ns a b).same s⟩
theorem RowsD.tk {H H' : Hp} {qs : List Addr} {ds : List (List Int)} (h : RowsD H qs ds) (s : TK H H') : RowsD H' qs ds := ⟨h.1, fun i q ns a b => (h.2 i q ns a b).tk s⟩
theorem RowsD.one {H : Hp} {q : Addr} {ns : List Int} (h : TupD H q (ns.map V.int)) : RowsD H [q] [ns] := ⟨rfl, fun i r ms h1 h2 => by
  cases i with
  | zero =>
    cases h1
    cases h2
    exact h
  | succ i => cases h1⟩
theorem RowsD.app {H : Hp} {qs qs' : List Addr} {ds ds' : List (List Int)} (h : RowsD H qs ds) (h' : RowsD H qs' ds') : RowsD H (qs ++ qs') (ds ++ ds') := by
  refine ⟨by rw [List.length_append, List.length_append, h.1, h'.1], fun i q ns h1 h2 => ?_⟩
  by_cases hi : i < qs.length
  · rw [List.getElem?_append_left hi] at h1
    rw [List.getElem?_append_left (by rw [← h.1]; exact hi)] at h2
    exact h.2 i q ns h1 h2
  · rw [List.getElem?_append_right (by omega)] at h1
    rw [List.getElem?_append_right (by rw [← h.1]; omega), ← h.1] at h2
    exact h'.2 _ q ns h1 h2
theorem RowsD.take {H : Hp} {qs : List Addr} {ds : List (List Int)} (h : RowsD H qs ds) (k : Nat) : RowsD H (qs.take k) (ds.take k) := by
  refine ⟨by rw [List.length_take, List.length_take, h.1], fun i q ns h1 h2 => ?_⟩
  by_cases hi : i < k
  · rw [List.getElem?_take_of_lt hi] at h1 h2
    exact h.2 i q ns h1 h2
  · rw [List.getElem?_take, if_neg hi] at h1
    cases h1
theorem RowsD.drop {H : Hp} {qs : List Addr} {ds : List (List Int)} (h : RowsD H qs ds) (k : Nat) : RowsD H (qs.drop k) (ds.drop k) := by
  refine ⟨by rw [List.length_drop, List.length_drop, h.1], fun i q ns h1 h2 => ?_⟩
  rw [List.getElem?_drop] at h1 h2
  exact h.2 _ q ns h1 h2
/-- what a change leaves: to be cut to a calendar -/
structure Rough (bs : List Int) (ds : List (List Int)) : Prop where
  n1 : 1 ≤ bs.length
  n12 : bs.length ≤ 12
  m12 : ds.length ≤ 12
  pat : ∀ p ∈ ds, patB p = true ∧ p ≠ [] ∧ p.length ≤ 1000
  nn : ∀ b ∈ bs, 0 ≤ b
theorem Rough.of {bs : List Int} {ds : List (List Int)} (h : CalOk bs ds) : Rough bs ds := ⟨h.n1, h.n12, by have := h.m11; omega, h.pat, fun b hb => (h.born b hb).1⟩
theorem Rough.cal {bs : List Int} {ds : List (List Int)} (h : Rough bs ds) (hm : ds.length < 12) (hf : ∀ (i : Nat) (p : List Int), ds[i]? = some p → p.sum ≤ aliveAt (bs.map (capB (ds.length : Int))) ds i) : CalOk (bs.map (capB (ds.length : Int))) ds := by
  refine ⟨by simpa using h.n1, by simpa using h.n12, by omega, h.pat, fun b hb => ?_, hf⟩
  obtain ⟨x, hx, rfl⟩ := List.mem_map.mp hb
  have := h.nn x hx
  unfold capB
  split <;> omega
theorem cap_min (m w : Int) : (if m < w then m else w) = capB m w := rfl
end DL
set_option Elab.async false
set_option linter.all false
set_option maxRecDepth 100000
set_option maxHeartbeats 2000000
/-! a try whose clauses all name what they catch, with one name: the rule of one such clause, taken for several -/
namespace DL
open PySem PySem.Spec PyProof.Rows L2
/-- what clauses one behind the other wish, each of them with the name at slot i -/
def wSome (K : PySem.W.Frag) (i : Nat) (Wo : WX) (D : Ends) : List (Value × (Addr → Value → Option Addr → TS)) → WX
  | [] => Wo
  | cl :: more => wAs K cl.1 i cl.2 (wSome K i Wo D more) D
inductive Clauses (X : Cx) (n : Str) : List ExceptHandler → List (Value × (Addr → Value → Option Addr → TS)) → Prop
  | stop : Clauses X n [] []
  | more {y : Str} {cv : Value} {tq : Addr → Value → Option Addr → TS} {st0 : Stmt} {sts : List Stmt} {q1 q2 : Pos} {hl : List ExceptHandler} {ll : List (Value × (Addr → Value → Option Addr → TS))} (nm : Names X y cv)
      (run : ∀ (ea : Addr) (eo : Obj) (ec : Value) (ed : Option Addr) (ps : List (Addr × Obj)), Zc ec ed eo → (∃ fv, eo.data = .fields fv) → PSs (X.suite ea ((ea, eo) :: ps)) (st0 :: sts) (tq ea ec ed)) (tl : Clauses X n hl ll) :
      Clauses X n (.ExceptHandler (some (.Name y q1)) (some n) (st0 :: sts) q2 :: hl) ((cv, tq) :: ll)
section
variable {X : Cx} {n : Str} {i : Nat} {body : List Stmt} {hd : ExceptHandler} {hl : List ExceptHandler} {ll : List (Value × (Addr → Value → Option Addr → TS))} {q0 : Pos} {tb : WX → TS} {Wo : WX}
theorem ps_trySome (stk : X.stack = X.env :: X.outer) (frm : X.env.frame = some X.env.locals) (nod : X.N.Nodup) (slt : X.N[i]? = some n) (knd : X.env.kindOf n = some .local) (tk : Takes X Wo)
    (bd : ∀ (W : WX) (ps : List (Addr × Obj)) (xw : Value → Shared → Prop), Takes (X.tr ps xw) W → PassesOwn (model X.prog X.w) X.A X.env xw → PSs (X.tr ps xw) body (tb W))
    (all : Clauses X n (hd :: hl) ll) : PS X (.Try body (hd :: hl) [] [] q0) (fun D σ H => tb (wSome X.K i Wo D ll) D σ H) := by
  refine ⟨fun pp s σ H D J0 want => ?_⟩
  have okk := J0.ok
  have fr0 : X.A.frames = some (X.env :: X.outer) := okk.frames.trans (congrArg some stk)
  refine wpAny_Try_except (wpAny_mono ((bd (wSome X.K i Wo D ll) (X.pn ++ pp) (fun ex z1 => wpAny (model X.prog X.w) X.A (noteFrame ex X.env) (fun _ z2 => wpAny (model X.prog X.w) X.A (setFlight ex none) (fun _ z3 => wpAny (model X.prog X.w) X.A (handleBy ex X.env (hd :: hl)) (SP X pp D) X.xe z3) X.xe z2) X.xe z1) (fun _ z4 got => ?_) PassesOwn.looking).run [] s σ H D (J0.toTry _) want) (fun fl z5 got => ?_) fun _ _ got => got)
  · obtain ⟨ea, B, zI, pq, σc, Hc, ec, ed, rfl, Jt, nb, up, sky, fresh, os, ag, goal⟩ := got
    have Jc : Inv X pp σc Hc zI := Jt.ofTry okk
    have sky2 : Sky B (X.env :: X.outer) ea (Zc ec ed) X.env.locals z4.heap := stk ▸ sky
    show wpAny (model X.prog X.w) X.A (noteFrame (.ref ea) X.env) _ _ _
    refine Sky.land Zc.steady fr0 frm sky2 fun g3 f3 u3 => ?_
    have up3 := up.trans u3
    have Jl : Inv X pp σc Hc { z4 with heap := g3 } := Jc.landed nb f3.1 up3 os ag
    obtain ⟨eo3, fv3, at3, cls3, dat3⟩ := f3.there
    have outside : ea ∉ frs (X.env :: X.outer) := fun hm => by
      obtain ⟨_, eo', at', nof⟩ := f3.2.2.1.mem hm
      rw [at3] at at'
      cases at'
      exact nof _ dat3
    have offL : ea ≠ X.env.locals := fun z => outside (List.mem_filterMap.mpr ⟨X.env, List.mem_cons_self, frm.trans (congrArg some z.symm)⟩)
    have offF : ea ∉ X.fs := fun hm => by
      obtain ⟨ev, hev, qev⟩ := List.mem_filterMap.mp hm
      exact outside (List.mem_filterMap.mpr ⟨ev, List.mem_cons_of_mem _ hev, qev⟩)
    have Js := Jl.suite at3 dat3 fresh offL offF
    have lks : PySem.W.Looks (model X.prog X.w) g3 (typeOf (.ref ea)) ec := fun A' Q' E' z6 kk q6 => wpAny_typeOf_ref (kk _ _ at3) (by rw [cls3.1]; exact q6)
    have walk : ∀ {hl' : List ExceptHandler} {ll' : List (Value × (Addr → Value → Option Addr → TS))}, Clauses X n hl' ll' → wSome X.K i Wo D ll' ec ed σc Hc → wpAny (model X.prog X.w) X.A (handleBy (.ref ea) X.env hl') (SP X pp D) X.xe { z4 with heap := g3 } := by
      intro hl' ll' hk
      induction hk with
      | stop =>
        intro goal2
        obtain ⟨_, _, _, ox, fvx, Tx, oTx, tsx, atx, _, datx, fx, _⟩ := id f3
        refine wpAny_handleBy_nil (by
          unfold PySem.passOn
          refine wpAny_bind (wpAny_field atx datx fx ?_)
          rw [if_neg (show ¬ ((Value.ref Tx == Value.none) = true) from by simp)]
          have last : wpAny (model X.prog X.w) X.A (setFlight (.ref ea) X.env.frame) (fun _ z7 => wpAny (model X.prog X.w) X.A (throw (.ref ea) : Sem Flow) (SP X pp D) X.xe z7) X.xe { z4 with heap := g3 } := by
            rw [frm]
            exact HandSPX.setFlight_upZ f3 fun g4 f4 u4 => wpAny_throw (tk _ _ ⟨ea, B, zI, pp, σc, Hc, ec, ed, rfl, Jc, nb, up3.trans u4, .inr (.inr (by rw [stk]; exact f4)), fresh, os, ag, goal2⟩)
          first | exact wpAny_bind (wpAny_pure (wpAny_bind last)) | exact wpAny_bind last)
      | @more y cv tq st0 sts q1 q2 hl2 ll2 nm run tl ih =>
        rintro ⟨yes, hy, onYes, onNo⟩
        refine wpAny_handleBy_cons (codeAny_handlers_test ?_) (by intro q; cases q)
        have seen := PySem.W.exm_one (M := model X.prog X.w) Jl.kIn lks hy
        have ask : ∀ {Q' E' : Value → Shared → Prop}, Q' cv { z4 with heap := g3 } → wpAny (model X.prog X.w) (X.A.mark (some (.ref ea))) (eval (.Name y q1) X.env) Q' E' { z4 with heap := g3 } := fun {Q' E'} q7 => by
          obtain ⟨gl, dbg, own | ⟨own, bt, nn⟩⟩ := nm
          · exact ld_glob (X := X.suite ea ((ea, eo3) :: (X.pn ++ pp))) Js gl own q7 dbg
          · exact ld_blt (X := X.suite ea ((ea, eo3) :: (X.pn ++ pp))) Js gl own bt q7 nn dbg
        refine ask (seen.here ?_)
        cases yes with
        | false => exact ih (onNo rfl)
        | true =>
          refine codeAny_handlers_suite_as (HandSPX.lands_againZ f3 fun g4 f4 u4 => ?_)
          obtain ⟨eo4, fv4, at4, cls4, dat4⟩ := f4.there
          have Jl4 : Inv X pp σc Hc { z4 with heap := g4 } := Jc.landed nb f4.1 (up3.trans u4) os ag
          have Js4 := Jl4.suite at4 dat4 fresh offL offF
          refine store_ok (X := X.suite ea ((ea, eo4) :: (X.pn ++ pp))) (v := .ref ea) Js4 nod slt (.inl knd) rfl (fun z8 J8 => ?_) (.inr knd)
          refine wpAny_mono ((run ea eo4 ec ed (X.pn ++ pp) cls4 ⟨_, dat4⟩).run [] z8 _ Hc _ J8 (onYes rfl ea fresh)) (fun fl z9 got => ?_) fun _ _ z => False.elim z
          have out : ∀ {σ9 : L2.St} {H9 : Hp} {Q' : Shared → Prop}, Inv (X.suite ea ((ea, eo4) :: (X.pn ++ pp))) [] σ9 H9 z9 → (∀ z10, Inv X pp (σ9.set i none) H9 z10 → Q' z10) → wpAny (model X.prog X.w) X.A (do bindName X.env n .none; unbindBehindTheSuite X.env n q2) (fun _ z10 => Q' z10) X.xe z9 := fun J9 hq => gone_ok (J9.unsuite okk) nod slt knd hq
          cases fl with
          | next =>
            obtain ⟨_, _, J9, g⟩ := got
            exact out J9 fun _ J10 => ⟨_, _, J10, g⟩
          | brk =>
            obtain ⟨_, _, J9, g⟩ := got
            exact out J9 fun _ J10 => ⟨_, _, J10, g⟩
          | cont =>
            obtain ⟨_, _, J9, g⟩ := got
            exact out J9 fun _ J10 => ⟨_, _, J10, g⟩
          | ret u =>
            obtain ⟨_, _, _, J9, rr, g⟩ := got
            exact out J9 fun _ J10 => ⟨_, _, _, J10, rr, g⟩
    exact walk all goal
  · cases fl with
    | next =>
      obtain ⟨_, _, J5, g⟩ := got
      exact wpAny_execs_nil ⟨_, _, J5.ofTry okk, g⟩
    | brk =>
      obtain ⟨_, _, J5, g⟩ := got
      exact ⟨_, _, J5.ofTry okk, g⟩
    | cont =>
      obtain ⟨_, _, J5, g⟩ := got
      exact ⟨_, _, J5.ofTry okk, g⟩
    | ret u =>
      obtain ⟨_, _, _, J5, rr, g⟩ := got
      exact ⟨_, _, _, J5.ofTry okk, rr, g⟩
end
end DL
set_option Elab.async false
set_option linter.all false
set_option maxRecDepth 100000
set_option maxHeartbeats 2000000
/-! a call by keywords alone that may raise; rows and numbers told with a word -/
namespace DL
open PySem PySem.Spec PyProof.Rows L2 RZ
section
variable {X : Cx} {k j : Nat} {x : Str} {st : Stmt} {ps ks : List Str} {sp : Sp} {E : L2.St → XK} {p pos : Pos} {tk : TA} {kws : List Keyword}
theorem kw_run {CX : CXT} {f : Addr} {fd : FuncData} {g : List Value → List Value} {gV : List V → List V} {pq : List (Addr × Obj)} {σ : L2.St} {H : Hp} {s : Shared} {Q : VK} {ws : List Value} {zs : List V} (F : FnOk X.prog X.w X.K X.mg X.base CX k f fd ps sp) (room : Room k X.A)
    (tb : BindsTo s fd ⟨[], ks.zip ws⟩ (ps.zip (g ws))) (out : PassesAt CX X σ (E σ)) (J : Inv X pq σ H s) (rel : Vals (gV zs) (g ws)) (want : sp (gV zs) H Q (E σ)) : wpAny (model X.prog X.w) X.A (call (.ref f) [] (ks.zip ws)) (EP X pq σ Q) X.xe s := by
  refine wpAny_call (codeAny_mono (F.run X.A X.stack s H ⟨[], ks.zip ws⟩ (g ws) (gV zs) Q (E σ) room J.env0 tb rel want) fun ends z got => ?_)
  rcases ends with e | fl
  · exact out pq H s e z J got
  · cases fl with
    | ret u => exact J.after got
    | next => exact got.elim
    | brk => exact got.elim
    | cont => exact got.elim
def tCallKE (m : Nat) (sp : Sp) (gV : List V → List V) (E : L2.St → XK) (tk : TA) : TE := fun σ H Q => tk σ H fun zs H1 => zs.length = m ∧ sp (gV zs) H1 Q (E σ)
theorem pe_cakE {g : List Value → List Value} {gV : List V → List V} (c : Ca X.prog X.w X.K X.mg X.base k x st ps sp) (b : KwOk x st ps ks g) (hgv : ∀ {zs : List V} {ws : List Value}, Vals zs ws → Vals (gV zs) (g ws)) (hr : Room j X.A) (hx : ∀ σ, PassesAt (L2.CX X.prog X.w) X σ (E σ)) (hkw : PK X kws tk) (hk : k ≤ j := by decide) (hg : Gl X x := by rfl)
    (named : (backToKw pos (keywordEach kws X.env)).all (·.1.isSome) = true := by rfl) (names : (backToKw pos (keywordEach kws X.env)).filterMap (·.1) = ks := by rfl) (dbg : (x == ("__debug__" : Str)) = false := by decide)
    (bare : ((backTo pos (starEach [] X.env)).any (·.1) || (backToKw pos (keywordEach kws X.env)).any (·.1.isNone)) = false := by rfl) :
    PE X (.Call (.Name x p) [] kws pos) (tCallKE ks.length sp gV E tk) := by
  obtain ⟨f, fd, F, hm, G⟩ := c.ex
  have keep := F.kp
  obtain ⟨oc, od, kV, doc, pm, an, cdv, ct, osl, rfl, lk, hcd⟩ := F.ex
  refine ⟨fun pq s σ H Q J want => wpAny_Call_Name_kw (ld_glob J hg hm (PySem.W.callWith_KW0 (h₀ := X.base) J.ok.mod.kin keep named (thn (hkw.run pos pq s σ H _ J want) fun ws s2 ⟨zs, H2, J2, rz, l2, q2⟩ => ⟨J2.kIn, ?_⟩) bare) dbg)⟩
  rw [names]
  exact kw_run G (hr.mono hk) (.of_eq (b kV doc pm an cdv ct ws (rz.length.symm.trans l2))) (hx σ) J2 (hgv rz) q2
end
/-- ("word", rows) -/
def PT2 (s : Str) (nss : List (List Int)) : PyData := .tuple [.str s, P2 nss]
theorem shapedT2 (s : Str) (nss : List (List Int)) (hs : PyData.strOk s = true := by decide +kernel) : SeqAt.shaped (PT2 s nss) = true := by
  have := depth2 nss
  unfold SeqAt.shaped PT2
  simp [PyData.canLay0, PyData.canLayAll0, lay2, PyData.depth, PyData.depthAll, hs]
  omega
theorem eqvT2 (s : Str) (a b : List (List Int)) : PyData.eqv (PT2 s a) (PT2 s b) = decide (a = b) := by
  simp [PT2, PyData.eqv, PyData.eqvAll, eqv2]
theorem dpT2 {K : PySem.W.Frag} {H : Hp} {a r : Addr} {s : Str} {nss : List (List Int)} (h : SqT K H a [.str s, .ref r]) (hr : TupTI K H r nss) : Dp K H (.ref a) (PT2 s nss) :=
  .tup h (.cons (.str s) (.cons (dp2 hr) .nil))
/-- ("word", number) -/
def PTi (s : Str) (n : Int) : PyData := .tuple [.str s, .int n]
theorem shapedTi (s : Str) (n : Int) (hs : PyData.strOk s = true := by decide +kernel) : SeqAt.shaped (PTi s n) = true := by
  unfold SeqAt.shaped PTi
  simp [PyData.canLay0, PyData.canLayAll0, PyData.depth, PyData.depthAll, hs]
theorem eqvTi (s : Str) (a b : Int) : PyData.eqv (PTi s a) (PTi s b) = decide (a = b) := by
  simp only [PTi, PyData.eqv, PyData.eqvAll, beq_self_eq_true, Bool.true_and, Bool.and_true]
  by_cases h : a = b
  · subst h
    simp
  · rw [decide_eq_false h]
    exact beq_eq_false_iff_ne.mpr h
theorem dpTi {K : PySem.W.Frag} {H : Hp} {a : Addr} {s : Str} {n : Int} (h : SqT K H a [.str s, .int n]) : Dp K H (.ref a) (PTi s n) := .tup h (.cons (.str s) (.cons (.int n) .nil))
/-- a name of the module that holds an object -/
structure DGl (K : PySem.W.Frag) (x : Str) : Prop where
  ex : ∃ C : Addr, PySem.W.nsIn K mainGlobals x = some (some (.ref C))
theorem DGl.gl {K : PySem.W.Frag} {h : Heap} {mg : Str → Option Value} {x : Str} (d : DGl K x) (X : K.In h) (G : h.Ns mainGlobals mg) : ∃ C : Addr, mg x = some (.ref C) := by
  obtain ⟨C, e⟩ := d.ex
  exact ⟨C, PySem.W.mg_of X G e⟩
theorem DGl.of {K : PySem.W.Frag} {x : Str} {C : Addr} (h : PySem.W.nsIn K mainGlobals x = some (some (.ref C))) : DGl K x := ⟨⟨C, h⟩⟩
end DL
set_option Elab.async false
set_option linter.all false
set_option maxRecDepth 100000
set_option maxHeartbeats 2000000
/-! a tuple of numbers told with a word -/
namespace DL
open PySem PySem.Spec PyProof.Rows L2 RZ
def PT1 (s : Str) (ns : List Int) : PyData := .tuple [.str s, P1 ns]
theorem shapedT1 (s : Str) (ns : List Int) (hs : PyData.strOk s = true := by decide +kernel) : SeqAt.shaped (PT1 s ns) = true := by
  have := depth1 ns
  unfold SeqAt.shaped PT1
  simp [PyData.canLay0, PyData.canLayAll0, lay1, PyData.depth, PyData.depthAll, hs]
  omega
theorem eqvT1 (s : Str) (a b : List Int) : PyData.eqv (PT1 s a) (PT1 s b) = decide (a = b) := by
  have h := eqv1 a b
  simp only [P1, PyData.eqv] at h
  simp [PT1, P1, PyData.eqv, PyData.eqvAll, h]
theorem dpT1 {K : PySem.W.Frag} {H : Hp} {a r : Addr} {s : Str} {ns : List Int} (h : SqT K H a [.str s, .ref r]) (hr : TupI K H r ns) : Dp K H (.ref a) (PT1 s ns) :=
  .tup h (.cons (.str s) (.cons (dp_tup hr) .nil))
/-- three keywords, the other way about -/
def rev3 {α : Type} : List α → List α
  | [x, y, z] => [z, y, x]
  | l => l
theorem kv3 : ∀ {zs : List V} {ws : List Value}, Vals zs ws → Vals (rev3 zs) (rev3 ws)
  | _, _, .nil => .nil
  | _, _, .cons a .nil => .cons a .nil
  | _, _, .cons a (.cons b .nil) => .cons a (.cons b .nil)
  | _, _, .cons a (.cons b (.cons c .nil)) => .cons c (.cons b (.cons a .nil))
  | _, _, .cons a (.cons b (.cons c (.cons d r))) => .cons a (.cons b (.cons c (.cons d r)))
def rev2 {α : Type} : List α → List α
  | [x, y] => [y, x]
  | l => l
theorem kv2 : ∀ {zs : List V} {ws : List Value}, Vals zs ws → Vals (rev2 zs) (rev2 ws)
  | _, _, .nil => .nil
  | _, _, .cons a .nil => .cons a .nil
  | _, _, .cons a (.cons b .nil) => .cons b (.cons a .nil)
  | _, _, .cons a (.cons b (.cons c r)) => .cons a (.cons b (.cons c r))
def rev4 {α : Type} : List α → List α
  | [x, y, z, t] => [t, z, y, x]
  | l => l
theorem kv4 : ∀ {zs : List V} {ws : List Value}, Vals zs ws → Vals (rev4 zs) (rev4 ws)
  | _, _, .nil => .nil
  | _, _, .cons a .nil => .cons a .nil
  | _, _, .cons a (.cons b .nil) => .cons a (.cons b .nil)
  | _, _, .cons a (.cons b (.cons c .nil)) => .cons a (.cons b (.cons c .nil))
  | _, _, .cons a (.cons b (.cons c (.cons d .nil))) => .cons d (.cons c (.cons b (.cons a .nil)))
  | _, _, .cons a (.cons b (.cons c (.cons d (.cons e r)))) => .cons a (.cons b (.cons c (.cons d (.cons e r))))
end DL
set_option Elab.async false
set_option linter.all false
set_option maxRecDepth 100000
set_option maxHeartbeats 2000000
/-! dict([]): to be a dict whose keys are tuples -/
namespace DL
open PySem PySem.Spec PyProof.Rows L2 RZ
section
variable {X : Cx}
theorem cr_dictE (K : PySem.W.Frag) (hK : X.K = K) (calm : X.calm = true) : CallR X (.type "dict") (fun xs H Q => ∃ a : Addr, xs = [.ref a] ∧ SqL K H a [] ∧ ∀ p, H p = none → Q (.ref p) (upd H p (.dT []))) := by
  subst hK
  intro pins s σ H xs us Q J rel want
  obtain ⟨a, rfl, hq, q⟩ := want
  obtain ⟨u, eu, rx⟩ := vals1 rel
  subst eu
  cases rx
  obtain ⟨its, rv, pl, _⟩ := J.list hq
  cases rv
  obtain ⟨o, n, ho, hc, hd, hdat⟩ := pl
  refine call_dict_pairs (prs := []) (J.ok.hd calm) ho hc hd hdat rfl (Nat.zero_le _) (fun j q' e => by cases e) fun h' tk new kept => ?_
  refine ⟨.ref s.heap.objs.size, upd H s.heap.objs.size (.dT []), J.laid (t' := tk) kept (Nat.le_refl _) ?_, rfl, q _ (J.hok.fresh (Nat.le_refl _))⟩
  obtain ⟨ob, es, ep, e1, e2, e3, e4, e5, e6⟩ := new
  have e7 : es.toList = [] := List.length_eq_zero_iff.mp e5.length
  exact ⟨Nat.zero_le _, beq_eq_false_iff_ne.mpr (Nat.ne_of_gt J.big), [], .nil, ob, es, ep, e1, e2, e3, e7, List.nodup_nil⟩
end
theorem shaped2 (a : List (List Int)) : SeqAt.shaped (P2 a) = true := by
  have := depth_map depth1 a
  unfold SeqAt.shaped P2
  simp [PyData.canLay0, lay_map lay1, PyData.depth]
  omega
theorem TK.dt {H : Hp} {l : Addr} {kvs : List (List L2.Key × V)} {o : HO} (h : H l = some (.dT kvs)) : TK H (upd H l o) := fun b ys => ⟨fun e => by rw [upd_ne (ne_of e h (fun z => by cases z))]; exact e, fun u e => by rw [upd_ne (ne_of e h (fun z => by cases z))]; exact e⟩
end DL
set_option Elab.async false
set_option linter.all false
set_option maxRecDepth 100000
set_option maxHeartbeats 2000000
/-! lambdas: what stays; the law's own table -/
namespace DL
open PySem PySem.Spec PyProof.Rows L2 RZ
theorem TK.extn {H H' : Hp} (e : LamX.ExtN H H') : TK H H' := fun _ _ => ⟨fun h => e _ _ h (fun _ z => by cases z), fun _ h => e _ _ h (fun _ z => by cases z)⟩
theorem extn_lst {H H' : Hp} (e : LamX.ExtN H H') {p : Addr} {xs : List V} (h : H p = some (.lst xs)) : H' p = some (.lst xs) := e _ _ h (fun _ z => by cases z)
theorem CalAt.extn {K : PySem.W.Frag} {C c : Addr} {H H' : Hp} {bs : List Int} {ds : List (List Int)} (h : CalAt K C H c bs ds) (e : LamX.ExtN H H') : CalAt K C H' c bs ds := by
  obtain ⟨dx, b, d, fs, h1, h2, h3, h4, h5⟩ := h
  exact ⟨dx, b, d, fs, e _ _ h1 (fun _ z => by cases z), h2, h3, h4.tk (TK.extn e), h5.tk (TK.extn e)⟩
theorem Src.extn {a : Addr} {H H' : Hp} (s : Src a H) (e : LamX.ExtN H H') : Src a H' := by
  obtain ⟨x, y, h, v⟩ := s
  exact ⟨x, y, extn_lst e h, v⟩
theorem extn_same {H H' : Hp} (s : Same H H') : LamX.ExtN H H' := LamX.ExtN.of fun b o h => s b o h
theorem tabs_stay {T : List (Addr × Str)} {a : Addr} {H H' : Hp} (t : LamX.Tabs T H) (r : Src a H) (s : Stay a H H') : LamX.Tabs T H' := fun p hp => by
  obtain ⟨ps, h1, h2, h3⟩ := t p hp
  refine ⟨ps, s.2 _ _ (src_ne_t r h1 fun _ _ z => by cases z) h1, h2, fun pos cv hc => ?_⟩
  obtain ⟨c, e1, e2⟩ := h3 pos cv hc
  exact ⟨c, e1, s.2 _ _ (src_ne_t r e2 fun _ _ z => by cases z) e2⟩
/-- the law's def, its code object at c, the table at P -/
structure DfT (K : PySem.W.Frag) (x : Str) (st : Stmt) : Prop where
  ex : ∃ (f c P : Addr) (oc : Value) (od : Option Addr) (osl : Array (Option Value)) (kV doc pm : Value) (an : Option Addr) (ct : Value),
    PySem.W.nsIn K mainGlobals x = some (some (.ref f)) ∧ K.lookup f = some ⟨oc, od, .func (PySem.W.fnOf x x (defArgs st) (defBody st) (defScope st) .none kV doc pm an (.ref c) ct), osl⟩ ∧ PySem.W.codeIn K (.ref c) x = true ∧ PySem.W.codeHdIn K c P = true ∧ K.lookup P = none
theorem DfT.of {K : PySem.W.Frag} {x : Str} {st : Stmt} {f c P : Addr} {oc : Value} {od : Option Addr} {osl : Array (Option Value)} {kV doc pm : Value} {an : Option Addr} {ct : Value} (h1 : PySem.W.nsIn K mainGlobals x = some (some (.ref f))) (h2 : K.lookup f = some ⟨oc, od, .func (PySem.W.fnOf x x (defArgs st) (defBody st) (defScope st) .none kV doc pm an (.ref c) ct), osl⟩) (h3 : PySem.W.codeIn K (.ref c) x = true) (h4 : PySem.W.codeHdIn K c P = true) (h5 : K.lookup P = none) : DfT K x st :=
  ⟨⟨f, c, P, oc, od, osl, kV, doc, pm, an, ct, h1, h2, h3, h4, h5⟩⟩
/-- what codeHdIn says of the table -/
theorem hd_tab {K : PySem.W.Frag} {c P : Addr} (h : PySem.W.codeHdIn K c P = true) : ∃ (e : Value) (dd : Option Addr) (vs : Array Value) (sl : Array (Option Value)), K.lookup c = some ⟨e, dd, .fields vs, sl⟩ ∧ vs[11]? = some (.ref P) := by
  unfold PySem.W.codeHdIn at h
  split at h
  · rename_i dd vs sl hk
    simp only [Bool.and_eq_true] at h
    obtain ⟨⟨⟨⟨⟨e1, _⟩, _⟩, _⟩, _⟩, _⟩ := h
    split at e1
    · rename_i P' h11
      have hP : P' = P := beq_iff_eq.mp e1
      subst hP
      exact ⟨_, dd, vs, sl, hk, h11⟩
    · cases e1
  · cases h
/-- the law's promise with its own table, from the pieces -/
theorem law_at {l : PySem.W.OpenLaw} {w : World} {K : PySem.W.Frag} {CX : CXT} {k : Nat} {x : Str} {st : Stmt} {mg : Str → Option Value} {fa : Addr} {h : Heap} {ps : Str} {sp : Addr → Sp} (D : DfT K x st) (X : K.In h) (G : h.Ns mainGlobals mg) (hfa : mg x = some (.ref fa)) (own : LamX.OwnTab K fa h)
    (hb : ∀ (kV doc pm : Value) (an : Option Addr) (cdv ct : Value) (s : Shared) (u : Value), BindsTo s (PySem.W.fnOf x x (defArgs st) (defBody st) (defScope st) .none kV doc pm an cdv ct) ⟨[u], []⟩ [(ps, u)])
    (hsp : ∀ (P : Addr) (H : Hp) (a : Addr) (ns : List Int), ns.length ≤ 63 → H P = some (.tbl #[]) → SqL K H a (ns.map V.int) → sp P [.ref a] H (fun v _ => v = .bl true) fun _ _ _ => False)
    (F : ∀ (c P : Addr) (oc : Value) (od : Option Addr) (osl : Array (Option Value)) (kV doc pm : Value) (an : Option Addr) (ct : Value), K.lookup fa = some ⟨oc, od, .func (PySem.W.fnOf x x (defArgs st) (defBody st) (defScope st) .none kV doc pm an (.ref c) ct), osl⟩ → PySem.W.codeIn K (.ref c) x = true → ∀ base : Heap, LamX.TabB base mg c P → FnOk l.prog w K mg base CX k fa (PySem.W.fnOf x x (defArgs st) (defBody st) (defScope st) .none kV doc pm an (.ref c) ct) [ps] (sp P)) :
    LamX.LawAtS l w K CX k 63 ps mg fa h := by
  obtain ⟨f, c, P, oc, od, osl, kV, doc, pm, an, ct, h1, h2, h3, h4, h5⟩ := D.ex
  have e := PySem.W.mg_of X G h1
  rw [hfa] at e
  cases e
  obtain ⟨e, dd, vs, sl, k1, k2⟩ := hd_tab h4
  refine ⟨_, [(c, P)], sp P, fun p hp => ?_, fun p hp => ?_, fun p hp => ?_, hb kV doc pm an (.ref c) ct, fun H a ns hl _ hT hS => hsp P H a ns hl (hT (c, P) (by simp)) hS, fun base _ _ hTB => F c P oc od osl kV doc pm an ct h2 h3 base (hTB (c, P) (by simp))⟩
  · simp at hp
    subst hp
    exact own c P _ _ _ _ _ _ h2 rfl rfl k1 k2
  · simp at hp
    subst hp
    exact h5
  · simp at hp
    subst hp
    exact PySem.W.codeHd_of_K X h4
/-- a block, where as many slots stand as there are names -/
theorem pss_len (n : Nat) {X : Cx} {b : List Stmt} {t : TS} (h : PSs X b t) (hn : X.N.length = n := by rfl) : PSs X b (fun D σ H => σ.length = n → t D σ H) := ⟨fun pins s σ H D I w => h.run pins s σ H D I (w (I.len.trans hn))⟩
/-- two classes of which the one is not under the other -/
structure DNe (K : PySem.W.Frag) (x y : Str) : Prop where
  ex : ∃ C D : Addr, PySem.W.nsIn K mainGlobals x = some (some (.ref C)) ∧ PySem.W.nsIn K mainGlobals y = some (some (.ref D)) ∧ PySem.W.exmOne K (.ref C) (.ref D) = some false
theorem DNe.ne {K : PySem.W.Frag} {h : Heap} {mg : Str → Option Value} {x y : Str} {C D : Addr} (d : DNe K x y) (X : K.In h) (G : h.Ns mainGlobals mg) (hC : mg x = some (.ref C)) (hD : mg y = some (.ref D)) : PySem.W.exmOne K (.ref C) (.ref D) = some false := by
  obtain ⟨C', D', h1, h2, h3⟩ := d.ex
  have e1 := PySem.W.mg_of X G h1
  have e2 := PySem.W.mg_of X G h2
  rw [hC] at e1
  rw [hD] at e2
  cases e1
  cases e2
  exact h3
theorem DNe.of {K : PySem.W.Frag} {x y : Str} {C D : Addr} (h1 : PySem.W.nsIn K mainGlobals x = some (some (.ref C))) (h2 : PySem.W.nsIn K mainGlobals y = some (some (.ref D))) (h3 : PySem.W.exmOne K (.ref C) (.ref D) = some false) : DNe K x y := ⟨⟨C, D, h1, h2, h3⟩⟩
theorem exm_no {K : PySem.W.Frag} {C D : Addr} (h1 : PySem.W.subIn K (.ref D) (.type "BaseException") = some true) (h2 : PySem.W.isClsIn K D = true) (h3 : PySem.W.typeIn K (.ref D) = some (.type "type")) (h4 : PySem.W.subIn K (.ref C) (.ref D) = some false) :
    PySem.W.exmOne K (.ref C) (.ref D) = some false := by
  have e1 : (PySem.W.subIn K (.ref D) (.type "BaseException") == some true) = true := by rw [h1] <;> rfl
  have e2 : ((PySem.W.clsIn K D).isSome && PySem.W.typeIn K (.ref D) == some (.type "type")) = true := by
    have h2' : (PySem.W.clsIn K D).isSome = true := h2
    rw [h2', h3] <;> rfl
  show (if (PySem.W.subIn K (.ref D) (.type "BaseException") == some true) = true then (if ((PySem.W.clsIn K D).isSome && PySem.W.typeIn K (.ref D) == some (.type "type")) = true then PySem.W.subIn K (.ref C) (.ref D) else none) else none) = some false
  rw [if_pos e1, if_pos e2]
  exact h4
theorem DNe.of2 {K : PySem.W.Frag} {x y : Str} {C D : Addr} (h1 : PySem.W.nsIn K mainGlobals x = some (some (.ref C))) (h2 : PySem.W.nsIn K mainGlobals y = some (some (.ref D))) (h3 : PySem.W.subIn K (.ref D) (.type "BaseException") = some true) (h4 : PySem.W.isClsIn K D = true) (h5 : PySem.W.typeIn K (.ref D) = some (.type "type")) (h6 : PySem.W.subIn K (.ref C) (.ref D) = some false) : DNe K x y := .of h1 h2 (exm_no h3 h4 h5 h6)
/-- the table that an object's twelfth field tells -/
def tabOf (o : Obj) : Option Addr := match o.data with
  | .fields vs => match (vs[11]? : Option Value) with
    | some (.ref P) => some P
    | _ => none
  | _ => none
theorem hd_one {K : PySem.W.Frag} {c P : Addr} {o : Obj} (h : K.lookup c = some o) (e : PySem.W.codeHdIn [(c, o)] c P = true) : PySem.W.codeHdIn K c P = true := by
  have : List.lookup c [(c, o)] = some o := by simp [List.lookup]
  unfold PySem.W.codeHdIn at e ⊢
  rw [this] at e
  rw [h]
  exact e
theorem DfT.of2 {K : PySem.W.Frag} {x : Str} {st : Stmt} {f c P : Addr} {oc : Value} {od : Option Addr} {osl : Array (Option Value)} {kV doc pm : Value} {an : Option Addr} {ct : Value} {o : Obj} (h1 : PySem.W.nsIn K mainGlobals x = some (some (.ref f))) (h2 : K.lookup f = some ⟨oc, od, .func (PySem.W.fnOf x x (defArgs st) (defBody st) (defScope st) .none kV doc pm an (.ref c) ct), osl⟩) (h3 : PySem.W.codeIn K (.ref c) x = true) (h4 : K.lookup c = some o) (h5 : tabOf o = some P) (h6 : PySem.W.codeHdIn [(c, o)] c P = true) (h7 : K.lookup P = none) : DfT K x st :=
  .of h1 h2 h3 (hd_one h4 h6) h7
end DL
set_option Elab.async false
set_option linter.all false
set_option maxRecDepth 100000
set_option maxHeartbeats 2000000
/-! shares: pairs that tell a Rat -/
namespace DL
open PySem PySem.Spec PyProof.Rows L2 RZ
def gcdI (n d : Int) : Int := ((Nat.gcd n.natAbs d.natAbs : Nat) : Int)
theorem gcdI_pos {n d : Int} (hd : d ≠ 0) : 0 < gcdI n d := by
  unfold gcdI
  have : 0 < Nat.gcd n.natAbs d.natAbs := Nat.gcd_pos_of_pos_right _ (by omega)
  omega
theorem gcdI_dvdL (n d : Int) : gcdI n d ∣ n := by
  unfold gcdI
  exact Int.ofNat_dvd_left.mpr (Nat.gcd_dvd_left _ _)
theorem gcdI_dvdR (n d : Int) : gcdI n d ∣ d := by
  unfold gcdI
  exact Int.ofNat_dvd_left.mpr (Nat.gcd_dvd_right _ _)
theorem gcdI_swap (n d : Int) : ((d.gcd n : Nat) : Int) = gcdI n d := by
  unfold gcdI Int.gcd
  rw [Nat.gcd_comm]
theorem share_num {n d : Int} (hd : d ≠ 0) : n.fdiv (if d < 0 then -gcdI n d else gcdI n d) = (Rat.divInt n d).num := by
  rw [Rat.num_divInt, gcdI_swap]
  by_cases h : d < 0
  · rw [if_pos h, Int.fdiv_eq_ediv_of_dvd (Int.neg_dvd.mpr (gcdI_dvdL n d)), Int.sign_eq_neg_one_of_neg h, Int.ediv_neg, Int.neg_one_mul, Int.neg_ediv_of_dvd (gcdI_dvdL n d)]
  · rw [if_neg h, Int.fdiv_eq_ediv_of_dvd (gcdI_dvdL n d), Int.sign_eq_one_of_pos (by omega), Int.one_mul]
theorem share_den {n d : Int} (hd : d ≠ 0) : d.fdiv (if d < 0 then -gcdI n d else gcdI n d) = (((Rat.divInt n d).den : Nat) : Int) := by
  rw [Rat.den_divInt, if_neg hd, Int.natCast_ediv, gcdI_swap]
  by_cases h : d < 0
  · rw [if_pos h, Int.fdiv_eq_ediv_of_dvd (Int.neg_dvd.mpr (gcdI_dvdR n d)), Int.ediv_neg, ← Int.neg_ediv_of_dvd (gcdI_dvdR n d), show ((d.natAbs : Nat) : Int) = -d by omega]
  · rw [if_neg h, Int.fdiv_eq_ediv_of_dvd (gcdI_dvdR n d), show ((d.natAbs : Nat) : Int) = d by omega]
/-- a share that stands at p -/
def ShD (H : Hp) (p : Addr) (r : Rat) : Prop := TupD H p [.int r.num, .int (r.den : Nat)]
theorem ShD.same {H H' : Hp} {p : Addr} {r : Rat} (h : ShD H p r) (s : Same H H') : ShD H' p r := TupD.same h s
/-- numbers of fewer than k bits -/
def Bit (k : Nat) (n : Int) : Prop := n.natAbs < 2 ^ k
def BitR (k : Nat) (r : Rat) : Prop := Bit k r.num ∧ Bit k (r.den : Nat)
theorem Bit.log {k : Nat} {n : Int} (h : Bit k n) : n.natAbs.log2 ≤ k := by
  by_cases h0 : n.natAbs = 0
  · rw [h0]
    simp
  · exact Nat.le_of_lt ((Nat.log2_lt h0).mpr h)
theorem Bit.mul {j k : Nat} {m n : Int} (a : Bit j m) (b : Bit k n) : Bit (j + k) (m * n) := by
  unfold Bit at *
  rw [Int.natAbs_mul, Nat.pow_add]
  exact Nat.mul_lt_mul_of_lt_of_lt a b
theorem Bit.up {j k : Nat} {n : Int} (a : Bit j n) (h : j ≤ k) : Bit k n := Nat.lt_of_lt_of_le a (Nat.pow_le_pow_right (by decide) h)
theorem Bit.add {k : Nat} {m n : Int} (a : Bit k m) (b : Bit k n) : Bit (k + 1) (m + n) := by
  unfold Bit at *
  have := Int.natAbs_add_le m n
  rw [Nat.pow_succ]
  omega
theorem Bit.sub {k : Nat} {m n : Int} (a : Bit k m) (b : Bit k n) : Bit (k + 1) (m - n) := by
  unfold Bit at *
  have := Int.natAbs_sub_le m n
  rw [Nat.pow_succ]
  omega
/-- what a share of two numbers takes of bits -/
theorem BitR.of {k : Nat} {n d : Int} (a : Bit k n) (b : Bit k d) (hd : d ≠ 0) : BitR k (Rat.divInt n d) := by
  have hg := gcdI_pos (n := n) hd
  constructor
  · show Bit k _
    rw [Rat.num_divInt, gcdI_swap]
    unfold Bit at *
    have e : (d.sign * n).natAbs ≤ n.natAbs := by
      rw [Int.natAbs_mul]
      have : d.sign.natAbs ≤ 1 := by
        rcases Int.lt_trichotomy d 0 with h | h | h
        · rw [Int.sign_eq_neg_one_of_neg h]
          decide
        · exact absurd h hd
        · rw [Int.sign_eq_one_of_pos h]
          decide
      calc d.sign.natAbs * n.natAbs ≤ 1 * n.natAbs := Nat.mul_le_mul_right _ this
        _ = n.natAbs := Nat.one_mul _
    have dv : gcdI n d ∣ d.sign * n := Int.dvd_mul_of_dvd_right (gcdI_dvdL n d)
    have e2 : (d.sign * n / gcdI n d).natAbs ≤ (d.sign * n).natAbs := by
      rw [Int.natAbs_ediv_of_dvd dv]
      exact Nat.div_le_self _ _
    omega
  · show Bit k _
    rw [Rat.den_divInt, if_neg hd]
    unfold Bit at *
    have := Nat.div_le_self d.natAbs (d.gcd n)
    simp only [Int.natAbs_natCast]
    omega
/-- // by any divisor but 0 of fewer than 9000 bits -/
def CDivS (_ j : Int) : Prop := j ≠ 0 ∧ j.natAbs.log2 < 9000
section
variable {X : Cx}
theorem op_fdivS : OpR X (binaryOp .FloorDiv) (rI CDivS fun i j => .int (i.fdiv j)) := opI fun _ _ _ _ _ _ _ hc q => floordiv_int hc.1 q (.inl (PyProof.noPylong_of_log2 hc.2))
end
theorem pe_fldK {X : Cx} {e : Expr} {ta : TE} {f : Str} {pos : Pos} (K : PySem.W.Frag) (h : X.K = K) (he : PE X e ta) (hb : attributeBase e f X.env (eval e X.env) = eval e X.env) : PE X (.Attribute e f pos) (tFld K ta f) := by
  subst h
  exact pe_fld he hb
theorem rat_div (r : Rat) : r = Rat.divInt r.num (r.den : Nat) := (Rat.num_divInt_den r).symm
theorem den_ne (r : Rat) : ((r.den : Nat) : Int) ≠ 0 := by
  have := r.den_nz
  omega
theorem rat_add (a b : Rat) : a + b = Rat.divInt (a.num * (b.den : Nat) + b.num * (a.den : Nat)) ((a.den : Nat) * (b.den : Nat)) := by
  conv => lhs; rw [rat_div a, rat_div b]
  exact Rat.divInt_add_divInt _ _ (den_ne a) (den_ne b)
theorem rat_sub (a b : Rat) : a - b = Rat.divInt (a.num * (b.den : Nat) - b.num * (a.den : Nat)) ((a.den : Nat) * (b.den : Nat)) := by
  conv => lhs; rw [rat_div a, rat_div b]
  exact Rat.divInt_sub_divInt _ _ (den_ne a) (den_ne b)
theorem rat_mul (a b : Rat) : a * b = Rat.divInt (a.num * b.num) ((a.den : Nat) * (b.den : Nat)) := by
  conv => lhs; rw [rat_div a, rat_div b]
  exact Rat.divInt_mul_divInt _ _
theorem dens_ne (a b : Rat) : ((a.den : Nat) : Int) * (b.den : Nat) ≠ 0 := Int.mul_ne_zero (den_ne a) (den_ne b)
theorem BitR.add {j k : Nat} {a b : Rat} (x : BitR j a) (y : BitR k b) : BitR (j + k + 1) (a + b) := by
  rw [rat_add]
  exact .of ((x.1.mul y.2).add ((y.1.mul x.2).up (by omega))) ((x.2.mul y.2).up (by omega)) (dens_ne a b)
theorem BitR.sub {j k : Nat} {a b : Rat} (x : BitR j a) (y : BitR k b) : BitR (j + k + 1) (a - b) := by
  rw [rat_sub]
  exact .of ((x.1.mul y.2).sub ((y.1.mul x.2).up (by omega))) ((x.2.mul y.2).up (by omega)) (dens_ne a b)
theorem BitR.mul {j k : Nat} {a b : Rat} (x : BitR j a) (y : BitR k b) : BitR (j + k) (a * b) := by
  rw [rat_mul]
  exact .of (x.1.mul y.1) (x.2.mul y.2) (dens_ne a b)
theorem BitR.up {j k : Nat} {a : Rat} (x : BitR j a) (h : j ≤ k) : BitR k a := ⟨x.1.up h, x.2.up h⟩
theorem Bit.mulW {j k : Nat} {m n : Int} (a : Bit j m) (b : Bit k n) (h : j + k < 9000) : CMulW m n := by
  have h1 := a.log
  have h2 := b.log
  unfold CMulW
  omega
end DL
set_option Elab.async false
set_option linter.all false
set_option maxRecDepth 100000
set_option maxHeartbeats 2000000
/-! sorted(xs) said as a function of what stands in xs: whole numbers, tuples of whole numbers of any lengths -/
namespace DL
open PySem PySem.Spec PyProof.Rows L2 RZ PySem.W
theorem dataLe_tups {β : Type} (x : β → List Int) : dataLe false (fun b => P1 (x b)) = fun p q => decide (x p ≤ x q) := by
  funext p q
  show (!dataLt (.tuple ((x q).map .int)) (.tuple ((x p).map .int))) = _
  rw [dataLt_tuple]
  have e := dataLt_ints (x q) (x p)
  unfold rowLt at e
  rw [e]
  by_cases h : x q < x p
  · rw [decide_eq_true h, decide_eq_false fun r => List.not_lt.mpr r h]
    rfl
  · rw [decide_eq_false h, decide_eq_true (List.not_lt.mp h)]
    rfl
theorem each_vals {xs : List V} {us : List Value} (r : Vals xs us) : EachIs (fun u x => RelV x u) us xs := by
  induction r with
  | nil => exact .nil
  | cons a _ ih => exact .cons a ih
theorem each_to {β : Type} {f : β → V} : ∀ {L : List β} {us : List Value}, Vals (L.map f) us → EachIs (fun u b => RelV (f b) u) us L
  | [], _, h => by
    cases h
    exact .nil
  | b :: L, _, h => by
    cases h with
    | cons a t => exact .cons a (each_to t)
theorem each_back {β : Type} {f : β → V} : ∀ {L : List β} {us : List Value}, EachIs (fun u b => RelV (f b) u) us L → Vals (L.map f) us
  | _, _, .nil => .nil
  | _, _, .cons a t => .cons a (each_back t)
theorem each_with {β : Type} {R S : Value → β → Prop} : ∀ {L : List β} {us : List Value}, EachIs R us L → (∀ u b, b ∈ L → R u b → S u b) → EachIs S us L
  | _, _, .nil, _ => .nil
  | _, _, .cons a t, h => .cons (h _ _ List.mem_cons_self a) (each_with t fun u b hb => h u b (List.mem_cons_of_mem _ hb))
def lstLe (ns ms : List Int) : Bool := decide (ns ≤ ms)
def rowLe (p q : Addr × List Int) : Bool := lstLe p.2 q.2
section
variable {X : Cx}
/-- sorted(xs) of tuples of whole numbers, none of them empty -/
def rSortR (K : PySem.W.Frag) : List V → Hp → VK → Prop := fun vs H Q => ∃ (a : Addr) (L : List (Addr × List Int)), vs = [V.ref a] ∧ SqL K H a (L.map fun p => V.ref p.1) ∧ (∀ p ∈ L, SqT K H p.1 (p.2.map V.int) ∧ p.2 ≠ []) ∧
  ∀ p : Addr, H p = none → Q (.ref p) (upd H p (.lst ((L.mergeSort rowLe).map fun p => V.ref p.1)))
theorem cr_sortR (hu : X.A.units + 64 < cLine) : CallR X (.builtin "sorted") (rSortR X.K) := by
  intro pins s σ H vs us Q I r h
  obtain ⟨a, L, rfl, hs, hL, q⟩ := h
  obtain ⟨its, rv, hl, hz⟩ := I.list hs
  rw [Vals.ref1 r]
  have e0 := each_to rv
  have hz' : L.length ≤ sizeLine := by simpa using hz
  refine PySem.W.sorted_data (bs := L) (enc := fun p => P1 p.2) (R := fun u (p : Addr × List Int) => RelV (V.ref p.1) u) hl.isList e0 (each_with e0 fun u p hp hr => Dp.reads I _ _ _ (dp_tup (hL p hp).1) hr) ?_ ?_ hz' (fun p _ => ?_) fun out ho eo => ?_
  · exact AllAlike.of fun b b' => by
      unfold P1
      simp only [alike]
      exact alike_ints _ _
  · refine .inl fun d hd => ?_
    obtain ⟨p, hp, rfl⟩ := List.mem_map.mp hd
    have hne := (hL p hp).2
    cases e : p.2 with
    | nil => exact absurd e hne
    | cons x t => exact ⟨.int x, t.map .int, by simp [P1, e]⟩
  · have := depth1 p.2
    omega
  · obtain ⟨ep, he'⟩ := sortedAll_at s.heap its (List.toArray out)
    have ed : dataLe false (fun p : Addr × List Int => P1 p.2) = rowLe := by
      rw [dataLe_tups]
      rfl
    rw [ed] at eo
    have eb := each_back eo
    have hlen : ((L.mergeSort rowLe).map fun p => V.ref p.1).length ≤ sizeLine := by
      rw [List.length_map, List.length_mergeSort]
      exact hz'
    exact ⟨.ref _, upd H (s.heap.objs.size + 1) (.lst ((L.mergeSort rowLe).map fun p => V.ref p.1)), I.laid (t' := s.toks) (fun _ _ => sortedAll_old) (Nat.le_succ _) ⟨hlen, out, ep, eb, by simpa using he'⟩, rfl, q _ (I.hok.fresh (Nat.le_succ _))⟩
/-- sorted(xs) of whole numbers -/
def upI (ns : List Int) : List Int := ns.mergeSort fun a b => decide (a ≤ b)
def rSortZ (K : PySem.W.Frag) : List V → Hp → VK → Prop := fun vs H Q => ∃ (a : Addr) (ns : List Int), vs = [V.ref a] ∧ SqL K H a (ns.map V.int) ∧ ∀ p : Addr, H p = none → Q (.ref p) (upd H p (.lst ((upI ns).map V.int)))
theorem cr_sortZ (hu : X.A.units + 64 < cLine) : CallR X (.builtin "sorted") (rSortZ X.K) := by
  intro pins s σ H vs us Q I r h
  obtain ⟨a, L, rfl, hs, q⟩ := h
  obtain ⟨its, rv, hl, hz⟩ := I.list hs
  rw [Vals.ref1 r]
  have e0 := each_to rv
  have hz' : L.length ≤ sizeLine := by simpa using hz
  refine PySem.W.sorted_data (bs := L) (enc := PyData.int) (R := fun u (n : Int) => RelV (V.int n) u) hl.isList e0 (each_with e0 fun u n hp hr => Dp.reads I _ _ _ (.int n) hr) ?_ ?_ hz' (fun p _ => ?_) fun out ho eo => ?_
  · exact AllAlike.of fun b b' => by simp [alike]
  · exact Sortable.others fun b => ⟨by simp, fun xs => by simp⟩
  · simp [PyData.depth]
    omega
  · obtain ⟨ep, he'⟩ := sortedAll_at s.heap its (List.toArray out)
    have ed : dataLe false (fun n : Int => PyData.int n) = fun a b => decide (a ≤ b) := dataLe_int fun n => n
    rw [ed] at eo
    have eb := each_back eo
    have hlen : ((upI L).map V.int).length ≤ sizeLine := by
      unfold upI
      rw [List.length_map, List.length_mergeSort]
      exact hz'
    exact ⟨.ref _, upd H (s.heap.objs.size + 1) (.lst ((upI L).map V.int)), I.laid (t' := s.toks) (fun _ _ => sortedAll_old) (Nat.le_succ _) ⟨hlen, out, ep, eb, by simpa using he'⟩, rfl, q _ (I.hok.fresh (Nat.le_succ _))⟩
end
end DL
set_option Elab.async false
set_option linter.all false
set_option maxRecDepth 100000
set_option maxHeartbeats 2000000
/-! trees: what stands in them, rows of names, who is alive -/
namespace DL
open PySem PySem.Spec PyProof.Rows L2 RZ
section
variable {X : Cx}
/-- one < two of numbers or of tuples of numbers -/
def rLtX (K : PySem.W.Frag) : R2 := fun x y H Q => (∃ i j, x = .int i ∧ y = .int j ∧ Q (.bl (decide (i < j))) H) ∨ ∃ a b ns ms, x = .ref a ∧ y = .ref b ∧ SqT K H a (ns.map V.int) ∧ SqT K H b (ms.map V.int) ∧ Q (.bl (HT.lexLt ns ms)) H
theorem op_ltX (K : PySem.W.Frag) (h : X.K = K) (hu : X.A.units + 64 < cLine) : OpR X (compareOp .Lt) (rLtX K) := by
  subst h
  intro pins s σ H x y v u Q I rx ry h
  rcases h with h | h
  · exact op_lt pins s σ H x y v u Q I rx ry h
  · exact op_ltT (by omega) pins s σ H x y v u Q I rx ry h
theorem cr_sortRK (K : PySem.W.Frag) (h : X.K = K) (hu : X.A.units + 64 < cLine) : CallR X (.builtin "sorted") (rSortR K) := by
  subst h
  exact cr_sortR hu
theorem cr_sortZK (K : PySem.W.Frag) (h : X.K = K) (hu : X.A.units + 64 < cLine) : CallR X (.builtin "sorted") (rSortZ K) := by
  subst h
  exact cr_sortZ hu
theorem cr_sortedRevK (K : PySem.W.Frag) (h : X.K = K) : CallRK X (.builtin "sorted") ["reverse"] (rSortedKw K true [.bl true]) := by
  subst h
  exact cr_sortedRev
end
/-- the order of tuples as Lean has it for lists -/
theorem lexLt_lt : ∀ ns ms : List Int, HT.lexLt ns ms = decide (ns < ms)
  | [], [] => by simp [HT.lexLt]
  | [], y :: q => by simp [HT.lexLt]
  | x :: r, [] => by simp [HT.lexLt]
  | x :: r, y :: q => by
    rw [HT.lexLt_cons]
    by_cases e : x = y
    · rw [if_pos e, lexLt_lt r q]
      simp [e, List.cons_lt_cons_iff]
    · rw [if_neg e]
      simp [e, List.cons_lt_cons_iff]
/-! numbers and rows that rise -/
def risB (ns : List Int) : Bool := ((ns.zip (ns.drop 1)).map fun p => decide (p.1 < p.2)).all id
def risR (rs : List (List Int)) : Bool := ((rs.zip (rs.drop 1)).map fun p => HT.lexLt p.1 p.2).all id
/-- the leaves that are born d -/
def newbornL (bs : List Int) (d : Int) : List Int := ((List.range bs.length).filter fun i => decide (bs.getD i 0 = d)).map fun (i : Nat) => (i : Int)
/-- who is gone when the groups of a row have met -/
def goneL (row : List (List Int)) : List Int := row.flatMap List.tail
def nextNames (bs : List Int) (d : Nat) (names : List Int) (row : List (List Int)) : List Int := upI ((names.filter fun x => !(goneL row).contains x) ++ newbornL bs ((d : Int) + 1))
def namesAt (bs : List Int) (T : List (List (List Int))) : Nat → List Int
  | 0 => newbornL bs 0
  | d + 1 => nextNames bs d (namesAt bs T d) (T.getD d [])
structure RowOk (names pat : List Int) (row : List (List Int)) : Prop where
  grp : ∀ g ∈ row, (∀ x ∈ g, x ∈ names) ∧ risB g = true
  siz : (row.map fun g => (g.length : Int)).Perm pat
  ris : risR row = true
  nod : row.flatten.Nodup
structure TreeOk (bs : List Int) (ds : List (List Int)) (T : List (List (List Int))) : Prop where
  len : T.length = ds.length
  row : ∀ (d : Nat) (p : List Int) (r : List (List Int)), ds[d]? = some p → T[d]? = some r → RowOk (namesAt bs T d) p r
/-- a tuple of tuples of tuples of numbers -/
def TupTTI (K : PySem.W.Frag) (H : Hp) (a : Addr) (T : List (List (List Int))) : Prop := ∃ qs : List Addr, SqT K H a (qs.map V.ref) ∧ qs.length = T.length ∧ ∀ (i : Nat) (q : Addr) (r : List (List Int)), qs[i]? = some q → T[i]? = some r → TupTI K H q r
theorem TupTTI.same {K : PySem.W.Frag} {H H' : Hp} {a : Addr} {T : List (List (List Int))} (h : TupTTI K H a T) (e : Same H H') : TupTTI K H' a T := by
  obtain ⟨qs, h1, h2, h3⟩ := h
  exact ⟨qs, Same.seqT e h1, h2, fun i q r a b => (h3 i q r a b).same e⟩
theorem givn_range {n : Nat} (k : Nat → Bool) : givn n k (fun i => V.int (i : Nat)) = (((List.range n).filter k).map fun (i : Nat) => (i : Int)).map V.int := by
  unfold givn
  rw [List.map_map]
  rfl
/-- two rows of sizes, none of them rising, that are one another's arrangement -/
theorem desc_perm : ∀ {a b : List Int}, a.Perm b → a.Pairwise (· ≥ ·) → b.Pairwise (· ≥ ·) → a = b
  | [], b, h, _, _ => (List.nil_perm.mp h).symm ▸ rfl
  | x :: r, [], h, _, _ => by
    have := h.length_eq
    simp at this
  | x :: r, y :: q, h, h1, h2 => by
    rw [List.pairwise_cons] at h1 h2
    have e : x = y := by
      have m1 : x ∈ y :: q := h.mem_iff.mp List.mem_cons_self
      have m2 : y ∈ x :: r := h.mem_iff.mpr List.mem_cons_self
      rcases List.mem_cons.mp m1 with e | m1
      · exact e
      · rcases List.mem_cons.mp m2 with e | m2
        · exact e.symm
        · have a1 := h2.1 x m1
          have a2 := h1.1 y m2
          omega
    subst e
    rw [desc_perm ((List.perm_cons x).mp h) h1.2 h2.2]
end DL
namespace DL
open PySem PySem.Spec PyProof.Rows L2 RZ
section
variable {X : Cx}
theorem op_inK (K : PySem.W.Frag) (h : X.K = K) : OpR X (compareOp .In) (rIn K false) := by
  subst h
  exact op_in_seq
theorem op_notInK (K : PySem.W.Frag) (h : X.K = K) : OpR X (compareOp .NotIn) (rIn K true) := by
  subst h
  exact op_notIn_seq
end
theorem all_flat (ns : List Int) : (ns.map V.int).all flatV = true := by
  rw [List.all_eq_true]
  intro x hx
  obtain ⟨z, _, rfl⟩ := List.mem_map.mp hx
  rfl
end DL
namespace DL
open PySem PySem.Spec PyProof.Rows L2 RZ
theorem in_ints (x : Int) : ∀ ns : List Int, inV (.int x) (ns.map V.int) = ns.contains x
  | [] => rfl
  | y :: r => by
    have ih := in_ints x r
    unfold inV at ih ⊢
    rw [List.map_cons, List.any_cons, ih, List.contains_cons]
    congr 1
    show (y == x) = (x == y)
    rw [Bool.eq_iff_iff]
    simp
    omega
end DL
set_option Elab.async false
set_option linter.all false
set_option maxRecDepth 100000
set_option maxHeartbeats 2000000
/-! comprehensions of two for: an invariant for the outer turns, one for the inner -/
namespace DL
open PySem PySem.Spec PyProof.Rows L2 RZ
/-- what an inner walk asks -/
def InStep (J1 : It) (g1 : TG) (tt1 : TT) (te : TE) (vs1 : List Nat) (D : Addr) (σ2 : L2.St) (H4 : Hp) (Nx : Hp → Prop) : Prop := ∃ W1 : Nat → Nat → Hp → Prop, (∃ m, W1 0 m H4) ∧ ∀ j k H, W1 j k H →
  (J1.stop j H ∧ Nx H) ∨ (J1.go j H ∧ ∃ Nx1 : Hp → Prop, (∀ H', Nx1 H' → ∃ k', k' < k ∧ W1 (j + 1) k' H') ∧ ∀ x H', J1.yld j H x H' → g1 x (wipe σ2 vs1) H' fun σ3 H5 => wipe σ3 vs1 = wipe σ2 vs1 ∧ tt1 σ3 H5 fun b H6 =>
    if b = true then te σ3 H6 fun y H7 => ∃ acc, H7 D = some (.lst acc) ∧ acc.length < sizeLine ∧ Nx1 (upd H7 D (.lst (acc ++ [y]))) else Nx1 H6)
section
variable {J J1 : It} {n n1 : Nat} {G G1 : Hp → Prop} {Y Y1 : Nat → Hp → V → Hp → Prop}
theorem in_it (w : Walk J1 n1 G1 Y1) {g1 : TG} {tt1 : TT} {te : TE} {vs1 : List Nat} {D : Addr} {σ2 : L2.St} {H4 : Hp} {Nx : Hp → Prop} (Pv : Nat → Hp → Prop) (h0 : Pv 0 H4) (hG : ∀ i H, i ≤ n1 → Pv i H → G1 H)
    (hs : ∀ i x H H', i < n1 → Pv i H → Y1 i H x H' → g1 x (wipe σ2 vs1) H' fun σ3 H5 => wipe σ3 vs1 = wipe σ2 vs1 ∧ tt1 σ3 H5 fun b H6 =>
      if b = true then te σ3 H6 fun y H7 => ∃ acc, H7 D = some (.lst acc) ∧ acc.length < sizeLine ∧ Pv (i + 1) (upd H7 D (.lst (acc ++ [y]))) else Pv (i + 1) H6) (hd : ∀ H, Pv n1 H → Nx H) : InStep J1 g1 tt1 te vs1 D σ2 H4 Nx := by
  refine ⟨fun i m H => m = n1 - i ∧ i ≤ n1 ∧ Pv i H, ⟨n1, by omega, by omega, h0⟩, ?_⟩
  rintro i m H ⟨rfl, hi, p⟩
  rcases Nat.lt_or_ge i n1 with hlt | hge
  · exact .inr ⟨w.goes i H hlt (hG i H hi p), Pv (i + 1), fun H' p' => ⟨n1 - (i + 1), by omega, rfl, hlt, p'⟩, fun x H' y => hs i x H H' hlt p (w.yields i H x H' hlt (hG i H hi p) y)⟩
  · obtain rfl : i = n1 := by omega
    exact .inl ⟨w.stops H (hG i H hi p), hd H p⟩
theorem lc2_it (w : Walk J n G Y) {g g1 : TG} {tt tt1 : TT} {wi1 : TI} {te : TE} {vs vs1 : List Nat} {σ : L2.St} {H1 : Hp} {D : Addr} {Qd : Hp → Prop} (Pv : Nat → Hp → Prop) (h0 : Pv 0 (upd H1 D (.lst []))) (hG : ∀ i H, i ≤ n → Pv i H → G H)
    (hs : ∀ i x H H', i < n → Pv i H → Y i H x H' → g x (wipe σ vs) H' fun σ2 H2 => wipe σ2 vs = wipe σ vs ∧ tt σ2 H2 fun b H3 =>
      if b = true then wi1 σ2 H3 fun J1 H4 => InStep J1 g1 tt1 te vs1 D σ2 H4 (Pv (i + 1)) else Pv (i + 1) H3) (hd : ∀ H, Pv n H → Qd H) :
    ∃ W : Nat → Nat → Hp → Prop, (∃ m, W 0 m (upd H1 D (.lst []))) ∧ ∀ i m H, W i m H →
      (J.stop i H ∧ Qd H) ∨ (J.go i H ∧ ∃ Nx : Hp → Prop, (∀ H', Nx H' → ∃ m', m' < m ∧ W (i + 1) m' H') ∧ ∀ x H', J.yld i H x H' → g x (wipe σ vs) H' fun σ2 H2 => wipe σ2 vs = wipe σ vs ∧ tt σ2 H2 fun b H3 =>
        if b = true then wi1 σ2 H3 fun J1 H4 => InStep J1 g1 tt1 te vs1 D σ2 H4 Nx else Nx H3) := by
  refine ⟨fun i m H => m = n - i ∧ i ≤ n ∧ Pv i H, ⟨n, by omega, by omega, h0⟩, ?_⟩
  rintro i m H ⟨rfl, hi, p⟩
  rcases Nat.lt_or_ge i n with hlt | hge
  · exact .inr ⟨w.goes i H hlt (hG i H hi p), Pv (i + 1), fun H' p' => ⟨n - (i + 1), by omega, rfl, hlt, p'⟩, fun x H' y => hs i x H H' hlt p (w.yields i H x H' hlt (hG i H hi p) y)⟩
  · obtain rfl : i = n := by omega
    exact .inl ⟨w.stops H (hG i H hi p), hd H p⟩
end
/-- the list at D so far -/
def Acc (H0 : Hp) (D : Addr) (L : List V) (H : Hp) : Prop := H0 D = none ∧ Same H0 H ∧ H D = some (.lst L)
theorem Acc.start {H0 : Hp} {D : Addr} (h : H0 D = none) : Acc H0 D [] (upd H0 D (.lst [])) := ⟨h, Same.new h, upd_same⟩
theorem Acc.put {H0 H H4 : Hp} {D : Addr} {L L' : List V} {y : V} (p : Acc H0 D L H) (e : Same H H4) (hz : L.length < 100000) (hL : L' = L ++ [y]) : ∃ acc, H4 D = some (.lst acc) ∧ acc.length < sizeLine ∧ Acc H0 D L' (upd H4 D (.lst (acc ++ [y]))) := by
  obtain ⟨p1, p2, p3⟩ := p
  refine ⟨L, e _ _ p3, Nat.lt_of_lt_of_le hz (by decide), p1, Same.mut (p2.trans e) p1, ?_⟩
  rw [hL]
  exact upd_same
theorem take_flat {α : Type} {rs : List (List α)} {i : Nat} {r : List α} (h : rs[i]? = some r) : (rs.take (i + 1)).flatten = (rs.take i).flatten ++ r := by
  rw [List.take_add_one, h]
  simp
theorem take_flatMap {α β : Type} {f : α → List β} {rs : List α} {i : Nat} {r : α} (h : rs[i]? = some r) : (rs.take (i + 1)).flatMap f = (rs.take i).flatMap f ++ f r := by
  rw [List.take_add_one, h]
  simp
end DL
namespace DL
open PySem PySem.Spec PyProof.Rows L2 RZ
section
variable {X : Cx} {e tg : Expr} {t : TE}
theorem pi_tupK (K : PySem.W.Frag) (h : X.K = K) (he : PE X e t) : PI X tg e (iTup K t) := by
  subst h
  exact pi_tup he
end
end DL
namespace DL
theorem flat_take_le {α : Type} (rs : List (List α)) (k : Nat) : ((rs.take k).flatten).length ≤ rs.flatten.length := by
  have h := congrArg List.length (congrArg List.flatten (List.take_append_drop k rs))
  rw [List.flatten_append, List.length_append] at h
  omega
end DL
namespace DL
open PySem PySem.Spec PyProof.Rows L2 RZ
section
variable {X : Cx}
theorem sl_tupSK (K : PySem.W.Frag) (h : X.K = K) : SlR X (DL.rSlS K) := by
  subst h
  exact DL.sl_tupS
end
end DL
set_option Elab.async false
set_option linter.all false
set_option maxRecDepth 100000
set_option maxHeartbeats 2000000
/-! right trees: how much stands in a row -/
namespace DL
open PySem PySem.Spec PyProof.Rows L2 RZ
theorem desc_of : ∀ {ns : List Int}, (∀ p ∈ ns.zip (ns.drop 1), p.2 ≤ p.1) → ns.Pairwise (· ≥ ·)
  | [], _ => .nil
  | [x], _ => by simp
  | x :: y :: r, h => by
    have ih := desc_of (ns := y :: r) fun p hp => h p (by
      simp only [List.drop_succ_cons, List.drop_zero, List.zip_cons_cons] at hp ⊢
      exact List.mem_cons_of_mem _ hp)
    have h1 : y ≤ x := h (x, y) (by simp)
    rw [List.pairwise_cons] at ih ⊢
    refine ⟨fun z hz => ?_, List.pairwise_cons.mpr ih⟩
    rcases List.mem_cons.mp hz with rfl | hz
    · exact h1
    · have := ih.1 z hz
      omega
theorem patB_desc {ns : List Int} (h : patB ns = true) : ns.Pairwise (· ≥ ·) := desc_of ((patB_iff ns).mp h).2
theorem flat_sum : ∀ row : List (List Int), (row.flatten.length : Int) = (row.map fun g => (g.length : Int)).sum
  | [] => rfl
  | g :: r => by
    have ih := flat_sum r
    simp only [List.flatten_cons, List.length_append, List.map_cons, List.sum_cons] at ih ⊢
    omega
theorem sum_perm {a b : List Int} (h : a.Perm b) : a.sum = b.sum := by
  induction h with
  | nil => rfl
  | cons x _ ih => simp [ih]
  | swap x y l =>
    simp
    omega
  | trans _ _ i1 i2 => exact i1.trans i2
theorem new_le (bs : List Int) (d : Int) : (newbornL bs d).length ≤ bs.length := by
  unfold newbornL
  rw [List.length_map]
  have h := List.length_filter_le (fun i => decide (bs.getD i 0 = d)) (List.range bs.length)
  rw [List.length_range] at h
  exact h
theorem names_le (bs : List Int) (T : List (List (List Int))) : ∀ d : Nat, (namesAt bs T d).length ≤ bs.length * (d + 1)
  | 0 => by
    have := new_le bs 0
    simp only [namesAt]
    omega
  | d + 1 => by
    have ih := names_le bs T d
    have h1 := new_le bs ((d : Int) + 1)
    have h2 := List.length_filter_le (fun x => !(goneL (T.getD d [])).contains x) (namesAt bs T d)
    simp only [namesAt, nextNames, upI, List.length_mergeSort, List.length_append]
    have h3 : bs.length * (d + 1 + 1) = bs.length * (d + 1) + bs.length := Nat.mul_succ _ _
    omega
theorem CalOk.pre {bs : List Int} {ds : List (List Int)} (h : CalOk bs ds) : Pre bs ds := ⟨h.pat, h.fit⟩
theorem row_bd {bs : List Int} {ds : List (List Int)} (ok : CalOk bs ds) {d : Nat} {p names : List Int} {r : List (List Int)} (hp : ds[d]? = some p) (h : RowOk names p r) : r.flatten.length ≤ 12 ∧ r.length ≤ 6 := by
  have h1 := flat_sum r
  rw [sum_perm h.siz] at h1
  have h2 := ok.fit d p hp
  have h3 := alive_le ok.pre d
  have h4 := ok.n12
  have h5 := len_le_sum (patB_ge (ok.pat p (List.mem_of_getElem? hp)).1)
  have h6 := h.siz.length_eq
  rw [List.length_map] at h6
  constructor <;> omega
end DL
namespace DL
open PySem PySem.Spec PyProof.Rows L2 RZ
/-- lines, ascending -/
def upR (L : List (List Int)) : List (List Int) := L.mergeSort lstLe
def withNew (bs : List Int) (d : Int) (L : List (List Int)) : List (List Int) := upR (L ++ (newbornL bs d).map fun x => [x])
theorem upR_rows (L : List (Addr × List Int)) : (L.mergeSort rowLe).map Prod.snd = upR (L.map Prod.snd) := by
  unfold upR
  exact List.map_mergeSort fun a _ b _ => rfl
end DL
namespace DL
open PySem PySem.Spec PyProof.Rows L2 RZ
theorem zip_rows {H : Hp} {qs : List Addr} {L : List (List Int)} (hl : qs.length = L.length) (h : ∀ (i : Nat) (q : Addr) (ns : List Int), qs[i]? = some q → L[i]? = some ns → TupD H q (ns.map V.int)) : ∀ p ∈ qs.zip L, TupD H p.1 (p.2.map V.int) := by
  intro p hp
  obtain ⟨j, hj1, hj2⟩ := List.getElem_of_mem hp
  have hj3 : (qs.zip L)[j]? = some p := by rw [← hj2]; exact List.getElem?_eq_getElem hj1
  rw [List.getElem?_zip_eq_some] at hj3
  exact h j p.1 p.2 hj3.1 hj3.2
theorem zip_fst {qs : List Addr} {L : List (List Int)} (hl : qs.length = L.length) : (qs.zip L).map (fun p => V.ref p.1) = qs.map V.ref := by
  have e : (qs.zip L).map Prod.fst = qs := List.map_fst_zip (by omega)
  conv => rhs; rw [← e]
  rw [List.map_map]
  rfl
/-- pairs, back as a tuple of rows -/
theorem rows_ti {H : Hp} {p : Addr} {M : List (Addr × List Int)} (ht : TupD H p (M.map fun z => V.ref z.1)) (h : ∀ z ∈ M, TupD H z.1 (z.2.map V.int)) : TupTD H p (M.map Prod.snd) := by
  refine ⟨M.map Prod.fst, ?_, by simp, fun i q ns h1 h2 => ?_⟩
  · rw [List.map_map]
    exact ht
  · rw [List.getElem?_map] at h1 h2
    cases e : M[i]? with
    | none =>
      rw [e] at h1
      cases h1
    | some z =>
      rw [e] at h1 h2
      cases h1
      cases h2
      exact h z (List.mem_of_getElem? e)
end DL
set_option Elab.async false
set_option linter.all false
set_option maxRecDepth 100000
set_option maxHeartbeats 2000000
/-! dicts from whole numbers to rows; what a row of groups makes of lines -/
namespace DL
open PySem PySem.Spec PyProof.Rows L2 RZ
abbrev AL := List (Int × List Int)
abbrev DM := List (Int × Addr × List Int)
def alOf (M : DM) : AL := M.map fun e => (e.1, e.2.2)
def kvsOf (M : DM) : List (L2.Key × V) := M.map fun e => (Sum.inl e.1, V.ref e.2.1)
def keysL (m : AL) : List Int := m.map Prod.fst
def look (m : AL) (k : Int) : List Int := ((m.find? fun e => decide (e.1 = k)).map Prod.snd).getD []
/-- lines fall together under the first name of the group -/
def stepG (m : AL) (g : List Int) : AL := (m.filter fun e => !g.contains e.1) ++ [(g.headD 0, upI (g.flatMap (look m)))]
def runRow (m : AL) (row : List (List Int)) : AL := row.foldl stepG m
def outL (m : AL) : List (List Int) := (upI (keysL m)).map (look m)
def startL (L : List (List Int)) : AL := L.map fun l => (l.headD 0, l)
def joinL (L row : List (List Int)) : List (List Int) := outL (runRow (startL L) row)
def DictL (H : Hp) (D : Addr) (M : DM) : Prop := H D = some (.dK (kvsOf M)) ∧ ∀ e ∈ M, TupD H e.2.1 (e.2.2.map V.int)
theorem keys_al (M : DM) : keysL (alOf M) = M.map Prod.fst := by
  unfold keysL alOf
  rw [List.map_map]
  rfl
theorem val_of : ∀ {M : DM} {e : Int × Addr × List Int}, (M.map Prod.fst).Nodup → e ∈ M → valV (kvsOf M) (Sum.inl e.1) = some (.ref e.2.1) ∧ look (alOf M) e.1 = e.2.2
  | [], _, _, h => nomatch h
  | x :: r, e, hn, h => by
    rw [List.map_cons, List.nodup_cons] at hn
    rcases List.mem_cons.mp h with rfl | h
    · constructor
      · exact valV_pos rfl
      · simp [look, alOf]
    · have hne : ¬ x.1 = e.1 := fun z => hn.1 (by rw [z]; exact List.mem_map_of_mem h)
      obtain ⟨i1, i2⟩ := val_of hn.2 h
      constructor
      · show valV ((Sum.inl x.1, V.ref x.2.1) :: kvsOf r) (Sum.inl e.1) = _
        rw [valV_neg (fun z => hne (Sum.inl.inj z))]
        exact i1
      · rw [← i2]
        simp [look, alOf, hne]
theorem drop_of (M : DM) (k : Int) : dropK (kvsOf M) (Sum.inl k) = kvsOf (M.filter fun e => decide (e.1 ≠ k)) := by
  unfold dropK kvsOf
  rw [List.filter_map]
  congr 1
  apply List.filter_congr
  intro x _
  simp
theorem put_of {M : DM} {k : Int} (a : Addr) (ns : List Int) (h : k ∉ M.map Prod.fst) : putK (kvsOf M) (Sum.inl k) (.ref a) = kvsOf (M ++ [(k, a, ns)]) := by
  unfold putK
  rw [if_neg]
  · simp [kvsOf]
  · intro z
    rw [List.any_eq_true] at z
    obtain ⟨x, hx, hk⟩ := z
    unfold kvsOf at hx
    obtain ⟨e, he, rfl⟩ := List.mem_map.mp hx
    have hk' : e.1 = k := by simpa using hk
    exact h (by rw [← hk']; exact List.mem_map_of_mem he)
theorem TK.dk {H : Hp} {l : Addr} {kvs : List (L2.Key × V)} {o : HO} (h : H l = some (.dK kvs)) : TK H (upd H l o) := fun b ys => ⟨fun e => by rw [upd_ne (ne_of e h (fun z => by cases z))]; exact e, fun u e => by rw [upd_ne (ne_of e h (fun z => by cases z))]; exact e⟩
theorem DictL.tk {H H' : Hp} {D : Addr} {M : DM} (h : DictL H D M) (t : TK H H') (e : H' D = H D) : DictL H' D M := ⟨e.trans h.1, fun x hx => (h.2 x hx).tk t⟩
theorem DictL.same {H H' : Hp} {D : Addr} {M : DM} (h : DictL H D M) (s : Same H H') : DictL H' D M := ⟨s _ _ h.1, fun x hx => (h.2 x hx).same s⟩
theorem DictL.drop {H : Hp} {D : Addr} {M : DM} (h : DictL H D M) (k : Int) : DictL (upd H D (.dK (dropK (kvsOf M) (Sum.inl k)))) D (M.filter fun e => decide (e.1 ≠ k)) :=
  ⟨by rw [upd_same, drop_of], fun x hx => (h.2 x (List.mem_filter.mp hx).1).tk (TK.dk h.1)⟩
theorem DictL.put {H : Hp} {D a : Addr} {M : DM} {k : Int} {ns : List Int} (h : DictL H D M) (hk : k ∉ M.map Prod.fst) (ha : TupD H a (ns.map V.int)) : DictL (upd H D (.dK (putK (kvsOf M) (Sum.inl k) (.ref a)))) D (M ++ [(k, a, ns)]) := by
  refine ⟨by rw [upd_same, put_of a ns hk], fun x hx => TupD.tk ?_ (TK.dk h.1)⟩
  rcases List.mem_append.mp hx with z | z
  · exact h.2 x z
  · rw [List.mem_singleton.mp z]
    exact ha
/-- numbers, ascending, that are one another's arrangement -/
theorem asc_perm : ∀ {a b : List Int}, a.Perm b → a.Pairwise (· ≤ ·) → b.Pairwise (· ≤ ·) → a = b
  | [], b, h, _, _ => (List.nil_perm.mp h).symm ▸ rfl
  | x :: r, [], h, _, _ => by
    have := h.length_eq
    simp at this
  | x :: r, y :: q, h, h1, h2 => by
    rw [List.pairwise_cons] at h1 h2
    have e : x = y := by
      have m1 : x ∈ y :: q := h.mem_iff.mp List.mem_cons_self
      have m2 : y ∈ x :: r := h.mem_iff.mpr List.mem_cons_self
      rcases List.mem_cons.mp m1 with e | m1
      · exact e
      · rcases List.mem_cons.mp m2 with e | m2
        · exact e.symm
        · have a1 := h2.1 x m1
          have a2 := h1.1 y m2
          omega
    subst e
    rw [asc_perm ((List.perm_cons x).mp h) h1.2 h2.2]
theorem upI_perm (ns : List Int) : (upI ns).Perm ns := List.mergeSort_perm _ _
theorem upI_asc (ns : List Int) : (upI ns).Pairwise (· ≤ ·) := by
  have h := List.pairwise_mergeSort (le := fun a b : Int => decide (a ≤ b)) (fun a b c h1 h2 => by simp at h1 h2 ⊢; omega) (fun a b => by simp; omega) ns
  unfold upI
  exact h.imp fun h => by simpa using h
theorem upI_of {a b : List Int} (h : a.Perm b) (hs : a.Pairwise (· ≤ ·)) : a = upI b := asc_perm (h.trans (upI_perm b).symm) hs (upI_asc b)
/-! what is left of the names -/
theorem step_keys (m : AL) (g : List Int) : keysL (stepG m g) = ((keysL m).filter fun k => !g.contains k) ++ [g.headD 0] := by
  unfold keysL stepG
  rw [List.map_append, List.filter_map]
  rfl
structure RowFit (keys : List Int) (row : List (List Int)) : Prop where
  grp : ∀ g ∈ row, g ≠ [] ∧ ∀ x ∈ g, x ∈ keys
  nod : row.flatten.Nodup
theorem run_take {m : AL} {row : List (List Int)} {i : Nat} {g : List Int} (h : row[i]? = some g) : runRow m (row.take (i + 1)) = stepG (runRow m (row.take i)) g := by
  unfold runRow
  rw [List.take_add_one, h, List.foldl_append]
  rfl
theorem head_mem {g : List Int} (h : g ≠ []) : g.headD 0 ∈ g := by
  cases g with
  | nil => exact absurd rfl h
  | cons x r => simp
theorem step_nodup {m : AL} {g : List Int} (hn : (keysL m).Nodup) (hg : g ≠ []) : (keysL (stepG m g)).Nodup := by
  rw [step_keys, List.nodup_append]
  refine ⟨hn.filter _, by simp, fun x hx y hy => ?_⟩
  rw [List.mem_singleton.mp hy]
  have hx2 := (List.mem_filter.mp hx).2
  intro e
  rw [e] at hx2
  have hc : g.contains (g.headD 0) = true := List.elem_eq_true_of_mem (head_mem hg)
  rw [hc] at hx2
  cases hx2
/-- ahead of group i all its names are there -/
theorem run_keys {m : AL} {row : List (List Int)} (hn : (keysL m).Nodup) (f : RowFit (keysL m) row) : ∀ i : Nat, i ≤ row.length → (keysL (runRow m (row.take i))).Nodup ∧ ∀ x ∈ keysL m, x ∉ (row.take i).flatten → x ∈ keysL (runRow m (row.take i))
  | 0, _ => ⟨hn, fun x hx _ => hx⟩
  | i + 1, hi => by
    obtain ⟨i1, i2⟩ := run_keys hn f i (by omega)
    have hr : row[i]? = some row[i] := by simp
    obtain ⟨g1, g2⟩ := f.grp row[i] (List.getElem_mem _)
    rw [run_take hr]
    refine ⟨step_nodup i1 g1, fun x hx hnx => ?_⟩
    rw [take_flat hr, List.mem_append, not_or] at hnx
    rw [step_keys]
    exact List.mem_append_left _ (List.mem_filter.mpr ⟨i2 x hx hnx.1, by simpa using hnx.2⟩)
theorem fit_at {m : AL} {row : List (List Int)} (hn : (keysL m).Nodup) (f : RowFit (keysL m) row) {i : Nat} {g : List Int} (h : row[i]? = some g) : g.Nodup ∧ ∀ x ∈ g, x ∈ keysL (runRow m (row.take i)) := by
  have hi : i < row.length := (List.getElem?_eq_some_iff.mp h).1
  have hnod := f.nod
  have e : row.flatten = (row.take (i + 1)).flatten ++ (row.drop (i + 1)).flatten := by rw [← List.flatten_append, List.take_append_drop]
  rw [e, take_flat h] at hnod
  have h1 := (List.nodup_append.mp hnod).1
  obtain ⟨_, h2, h3⟩ := List.nodup_append.mp h1
  refine ⟨h2, fun x hx => (run_keys hn f i (by omega)).2 x ((f.grp g (List.mem_of_getElem? h)).2 x hx) fun z => h3 x z x hx rfl⟩
theorem run_len (m : AL) : ∀ row : List (List Int), (runRow m row).length ≤ m.length + row.length := by
  intro row
  induction row generalizing m with
  | nil => simp [runRow]
  | cons g r ih =>
    have h1 := ih (stepG m g)
    have h2 := List.length_filter_le (fun e : Int × List Int => !g.contains e.1) m
    have h3 : runRow m (g :: r) = runRow (stepG m g) r := rfl
    rw [h3]
    simp only [stepG, List.length_append, List.length_cons, List.length_nil] at h1 ⊢
    omega
end DL
set_option Elab.async false
set_option linter.all false
set_option maxRecDepth 100000
set_option maxHeartbeats 2000000
/-! the lines of a tree at its moments, as the program makes them -/
namespace DL
open PySem PySem.Spec PyProof.Rows L2 RZ
def linesM (bs : List Int) (T : List (List (List Int))) : Nat → List (List Int)
  | 0 => withNew bs 0 []
  | d + 1 => withNew bs ((d : Int) + 1) (joinL (linesM bs T d) (T.getD d []))
/-- a row that can be laid upon these lines -/
structure JoinOk (L row : List (List Int)) : Prop where
  n : L.length ≤ 30
  m : row.length ≤ 20
  ne : ∀ l ∈ L, l ≠ [] ∧ l.length ≤ 100
  nod : (L.map fun l => l.headD 0).Nodup
  fit : RowFit (L.map fun l => l.headD 0) row
  fl : row.flatten.length ≤ 100
  bd : ∀ (i : Nat) (g : List Int), row[i]? = some g → (g.flatMap (look (runRow (startL L) (row.take i)))).length ≤ 1000
  out : ∀ l ∈ joinL L row, l ≠ []
  oz : (joinL L row).length ≤ 1000
theorem RaisesW.same {C : Addr} {v : V} {H H1 : Hp} {E : XK} (h : RaisesW C v H E) (s : Same H H1) : RaisesW C v H1 E := fun d H' s' hn hd => h d H' (s.trans s') (same_back s hn) hd
end DL
set_option Elab.async false
set_option linter.all false
set_option maxRecDepth 100000
set_option maxHeartbeats 2000000
/-! lines: what stays true row by row -/
namespace DL
open PySem PySem.Spec PyProof.Rows L2 RZ
def valsL (m : AL) : List Int := m.flatMap Prod.snd
structure AInv (m : AL) : Prop where
  nod : (keysL m).Nodup
  line : ∀ e ∈ m, e.2 ≠ [] ∧ e.2.Pairwise (· < ·) ∧ e.2.headD 0 = e.1
  vals : (valsL m).Nodup
theorem look_of : ∀ {m : AL} {e : Int × List Int}, (keysL m).Nodup → e ∈ m → look m e.1 = e.2
  | [], _, _, h => nomatch h
  | x :: r, e, hn, h => by
    unfold keysL at hn
    rw [List.map_cons, List.nodup_cons] at hn
    rcases List.mem_cons.mp h with rfl | h
    · simp [look]
    · have hne : ¬ x.1 = e.1 := fun z => hn.1 (by rw [z]; exact List.mem_map_of_mem h)
      have ih := look_of (m := r) hn.2 h
      rw [← ih]
      simp [look, hne]
theorem keys_perm {m m' : AL} (h : m.Perm m') : (keysL m).Perm (keysL m') := h.map _
theorem look_perm {m m' : AL} (h : m.Perm m') (hn : (keysL m).Nodup) (k : Int) : look m k = look m' k := by
  have hn' : (keysL m').Nodup := (keys_perm h).nodup_iff.mp hn
  by_cases hk : k ∈ keysL m
  · obtain ⟨e, he, rfl⟩ := List.mem_map.mp hk
    rw [look_of hn he, look_of hn' (h.mem_iff.mp he)]
  · have hk' : k ∉ keysL m' := fun z => hk ((keys_perm h).mem_iff.mpr z)
    have none_of : ∀ {m : AL}, k ∉ keysL m → look m k = [] := by
      intro m hm
      unfold look
      rw [List.find?_eq_none.mpr]
      · rfl
      · intro e he
        have : e.1 ≠ k := fun z => hm (by rw [← z]; exact List.mem_map_of_mem he)
        simpa using this
    rw [none_of hk, none_of hk']
theorem upI_congr {a b : List Int} (h : a.Perm b) : upI a = upI b := upI_of ((upI_perm a).trans h) (upI_asc a)
theorem outL_perm {m m' : AL} (h : m.Perm m') (hn : (keysL m).Nodup) : outL m = outL m' := by
  unfold outL
  rw [upI_congr (keys_perm h)]
  apply List.map_congr_left
  intro k _
  exact look_perm h hn k
theorem stepG_perm {m m' : AL} (h : m.Perm m') (hn : (keysL m).Nodup) (g : List Int) : (stepG m g).Perm (stepG m' g) := by
  unfold stepG
  have e : g.flatMap (look m) = g.flatMap (look m') := by
    congr 1
    funext k
    exact look_perm h hn k
  rw [e]
  exact (h.filter _).append (List.Perm.refl _)
/-- the entries of the group, as the group tells them -/
theorem grp_perm {m : AL} {g : List Int} (hn : (keysL m).Nodup) (gn : g.Nodup) (gk : ∀ x ∈ g, x ∈ keysL m) : (m.filter fun e => g.contains e.1).Perm (g.map fun k => (k, look m k)) := by
  have n1 : (m.filter fun e => g.contains e.1).Nodup := by
    have h0 : m.Nodup := List.Pairwise.of_map Prod.fst (fun a b h e => h (congrArg Prod.fst e)) hn
    exact List.Pairwise.filter _ h0
  have n2 : (g.map fun k => (k, look m k)).Nodup := by
    refine List.Pairwise.of_map (S := (· ≠ ·)) Prod.fst (fun a b h e => h (congrArg Prod.fst e)) ?_
    rw [List.map_map]
    have : (Prod.fst ∘ fun k => (k, look m k)) = (id : Int → Int) := rfl
    rw [this, List.map_id]
    exact gn
  rw [List.perm_ext_iff_of_nodup n1 n2]
  intro e
  rw [List.mem_filter, List.mem_map]
  constructor
  · rintro ⟨h1, h2⟩
    refine ⟨e.1, by simpa using h2, ?_⟩
    rw [look_of hn h1]
  · rintro ⟨k, hk, rfl⟩
    obtain ⟨e, he, rfl⟩ := List.mem_map.mp (gk k hk)
    refine ⟨?_, List.elem_eq_true_of_mem hk⟩
    rw [look_of hn he]
    exact he
theorem split_perm (m : AL) (g : List Int) : m.Perm ((m.filter fun e => !g.contains e.1) ++ (m.filter fun e => g.contains e.1)) := by
  have h := (List.filter_append_perm (fun e : Int × List Int => !g.contains e.1) m).symm
  simpa using h
/-- all leaves stand as before -/
theorem step_vals {m : AL} {g : List Int} (hn : (keysL m).Nodup) (gn : g.Nodup) (gk : ∀ x ∈ g, x ∈ keysL m) : (valsL (stepG m g)).Perm (valsL m) := by
  have h1 := (split_perm m g).flatMap_right Prod.snd
  have h2 := (grp_perm hn gn gk).flatMap_right Prod.snd
  have e : (g.map fun k => (k, look m k)).flatMap Prod.snd = g.flatMap (look m) := by
    rw [List.flatMap_map]
  rw [e] at h2
  unfold valsL stepG
  rw [List.flatMap_append]
  refine List.Perm.trans ?_ h1.symm
  rw [List.flatMap_append]
  refine List.Perm.append_left _ ?_
  rw [List.flatMap_cons, List.flatMap_nil, List.append_nil]
  exact (upI_perm _).trans h2.symm
end DL
namespace DL
open PySem PySem.Spec PyProof.Rows L2 RZ
theorem asc_of : ∀ {ns : List Int}, (∀ p ∈ ns.zip (ns.drop 1), p.1 < p.2) → ns.Pairwise (· < ·)
  | [], _ => .nil
  | [x], _ => by simp
  | x :: y :: r, h => by
    have ih := asc_of (ns := y :: r) fun p hp => h p (by
      simp only [List.drop_succ_cons, List.drop_zero, List.zip_cons_cons] at hp ⊢
      exact List.mem_cons_of_mem _ hp)
    have h1 : x < y := h (x, y) (by simp)
    rw [List.pairwise_cons] at ih ⊢
    refine ⟨fun z hz => ?_, List.pairwise_cons.mpr ih⟩
    rcases List.mem_cons.mp hz with rfl | hz
    · exact h1
    · have := ih.1 z hz
      omega
theorem risB_asc {ns : List Int} (h : risB ns = true) : ns.Pairwise (· < ·) := by
  unfold risB at h
  rw [List.all_eq_true] at h
  exact asc_of fun p hp => by simpa using h _ (List.mem_map_of_mem hp)
theorem head_le {ns : List Int} (h : ns.Pairwise (· < ·)) : ∀ y ∈ ns, ns.headD 0 ≤ y := by
  cases ns with
  | nil => exact fun y hy => nomatch hy
  | cons x r =>
    intro y hy
    rw [List.pairwise_cons] at h
    rcases List.mem_cons.mp hy with rfl | hy
    · simp
    · have := h.1 y hy
      simp
      omega
theorem asc_lt : ∀ {ns : List Int}, ns.Pairwise (· ≤ ·) → ns.Nodup → ns.Pairwise (· < ·)
  | [], _, _ => .nil
  | x :: r, h, n => by
    rw [List.pairwise_cons] at h ⊢
    rw [List.nodup_cons] at n
    refine ⟨fun y hy => ?_, asc_lt h.2 n.2⟩
    have h1 := h.1 y hy
    have h2 : x ≠ y := fun e => n.1 (by rw [e]; exact hy)
    omega
theorem look_mem {m : AL} (h : AInv m) {k : Int} (hk : k ∈ keysL m) : (k, look m k) ∈ m := by
  obtain ⟨e, he, rfl⟩ := List.mem_map.mp hk
  rw [look_of h.nod he]
  exact he
theorem grp_vals {m : AL} (h : AInv m) {g : List Int} (gn : g.Nodup) (gk : ∀ x ∈ g, x ∈ keysL m) : (g.flatMap (look m)).Nodup := by
  have h1 := step_vals h.nod gn gk
  have h2 := h1.nodup_iff.mpr h.vals
  unfold valsL stepG at h2
  rw [List.flatMap_append, List.flatMap_cons, List.flatMap_nil, List.append_nil] at h2
  exact (upI_perm _).nodup_iff.mp (List.nodup_append.mp h2).2.1
theorem AInv.step {m : AL} (h : AInv m) {g : List Int} (g0 : g ≠ []) (gr : g.Pairwise (· < ·)) (gk : ∀ x ∈ g, x ∈ keysL m) : AInv (stepG m g) := by
  have gn : g.Nodup := gr.imp fun h => by omega
  refine ⟨step_nodup h.nod g0, fun e he => ?_, (step_vals h.nod gn gk).nodup_iff.mpr h.vals⟩
  unfold stepG at he
  rcases List.mem_append.mp he with he | he
  · exact h.line e (List.mem_filter.mp he).1
  · rw [List.mem_singleton.mp he]
    have hd := head_mem g0
    have hx := look_mem h (gk _ hd)
    obtain ⟨x1, x2, x3⟩ := h.line _ hx
    have hxF : g.headD 0 ∈ g.flatMap (look m) := by
      rw [List.mem_flatMap]
      refine ⟨_, hd, ?_⟩
      have := head_mem x1
      rw [x3] at this
      exact this
    have hge : ∀ y ∈ g.flatMap (look m), g.headD 0 ≤ y := by
      intro y hy
      obtain ⟨k, hk, hy⟩ := List.mem_flatMap.mp hy
      obtain ⟨_, y2, y3⟩ := h.line _ (look_mem h (gk k hk))
      have h1 := head_le y2 y hy
      have h2 := head_le gr k hk
      have y3' : (look m k).headD 0 = k := y3
      omega
    have hasc : (upI (g.flatMap (look m))).Pairwise (· < ·) := asc_lt (upI_asc _) ((upI_perm _).nodup_iff.mpr (grp_vals h gn gk))
    have hne : upI (g.flatMap (look m)) ≠ [] := by
      intro e
      have := (upI_perm (g.flatMap (look m))).mem_iff.mpr hxF
      rw [e] at this
      cases this
    refine ⟨hne, hasc, ?_⟩
    have a1 := head_le hasc _ ((upI_perm (g.flatMap (look m))).mem_iff.mpr hxF)
    have a2 := hge _ ((upI_perm (g.flatMap (look m))).mem_iff.mp (head_mem hne))
    show (upI (g.flatMap (look m))).headD 0 = g.headD 0
    omega
theorem self_map {m : AL} (h : AInv m) : (keysL m).map (fun k => (k, look m k)) = m := by
  unfold keysL
  rw [List.map_map]
  conv => rhs; rw [← List.map_id m]
  apply List.map_congr_left
  intro e he
  show (e.1, look m e.1) = e
  rw [look_of h.nod he]
/-- the lines told and taken up again -/
theorem start_out {m : AL} (h : AInv m) : (startL (outL m)).Perm m := by
  have e : startL (outL m) = (upI (keysL m)).map fun k => (k, look m k) := by
    unfold startL outL
    rw [List.map_map]
    apply List.map_congr_left
    intro k hk
    have h3 := (h.line _ (look_mem h ((upI_perm _).mem_iff.mp hk))).2.2
    show ((look m k).headD 0, look m k) = (k, look m k)
    rw [show (look m k).headD 0 = k from h3]
  rw [e]
  have := (upI_perm (keysL m)).map fun k => (k, look m k)
  rw [self_map h] at this
  exact this
end DL
set_option Elab.async false
set_option linter.all false
set_option maxRecDepth 100000
set_option maxHeartbeats 2000000
/-! the lines of a right tree -/
namespace DL
open PySem PySem.Spec PyProof.Rows L2 RZ
theorem AInv.perm {m m' : AL} (h : AInv m) (p : m.Perm m') : AInv m' :=
  ⟨(keys_perm p).nodup_iff.mp h.nod, fun e he => h.line e (p.mem_iff.mpr he), (p.flatMap_right Prod.snd).nodup_iff.mp h.vals⟩
theorem keys_vals {m : AL} (h : AInv m) {k : Int} (hk : k ∈ keysL m) : k ∈ valsL m := by
  obtain ⟨e, he, rfl⟩ := List.mem_map.mp hk
  obtain ⟨h1, _, h3⟩ := h.line e he
  unfold valsL
  rw [List.mem_flatMap]
  refine ⟨e, he, ?_⟩
  have := head_mem h1
  rw [h3] at this
  exact this
def singles (nb : List Int) : AL := nb.map fun x => (x, [x])
theorem keys_singles (nb : List Int) : keysL (singles nb) = nb := by
  unfold keysL singles
  rw [List.map_map]
  exact List.map_id nb
theorem vals_singles (nb : List Int) : valsL (singles nb) = nb := by
  unfold valsL singles
  rw [List.flatMap_map]
  induction nb with
  | nil => rfl
  | cons x r ih => rw [List.flatMap_cons, ih]; rfl
theorem keys_app (m m' : AL) : keysL (m ++ m') = keysL m ++ keysL m' := List.map_append
theorem vals_app (m m' : AL) : valsL (m ++ m') = valsL m ++ valsL m' := List.flatMap_append
theorem AInv.add {m : AL} (h : AInv m) {nb : List Int} (hn : nb.Nodup) (hd : ∀ x ∈ nb, x ∉ valsL m) : AInv (m ++ singles nb) := by
  refine ⟨?_, fun e he => ?_, ?_⟩
  · rw [keys_app, keys_singles, List.nodup_append]
    exact ⟨h.nod, hn, fun x hx y hy e => hd y hy (by rw [← e]; exact keys_vals h hx)⟩
  · rcases List.mem_append.mp he with he | he
    · exact h.line e he
    · obtain ⟨x, hx, rfl⟩ := List.mem_map.mp he
      exact ⟨by simp, by simp, rfl⟩
  · rw [vals_app, vals_singles, List.nodup_append]
    exact ⟨h.vals, hn, fun x hx y hy e => hd y hy (by rw [← e]; exact hx)⟩
theorem AInv.nil : AInv [] := ⟨.nil, fun e h => (nomatch h), .nil⟩
section
variable {m : AL} {row : List (List Int)}
/-- row by row it stays so -/
theorem run_inv (h : AInv m) (f : RowFit (keysL m) row) (ha : ∀ g ∈ row, g.Pairwise (· < ·)) : ∀ i : Nat, i ≤ row.length → AInv (runRow m (row.take i)) ∧ (valsL (runRow m (row.take i))).Perm (valsL m)
  | 0, _ => ⟨h, List.Perm.refl _⟩
  | i + 1, hi => by
    obtain ⟨i1, i2⟩ := run_inv h f ha i (by omega)
    have hr : row[i]? = some row[i] := by simp
    obtain ⟨gn, gk⟩ := fit_at h.nod f hr
    rw [run_take hr]
    exact ⟨i1.step (f.grp _ (List.getElem_mem _)).1 (ha _ (List.getElem_mem _)) gk, (step_vals i1.nod gn gk).trans i2⟩
theorem gone_take {i : Nat} {g : List Int} (h : row[i]? = some g) : goneL (row.take (i + 1)) = goneL (row.take i) ++ g.tail := take_flatMap h
theorem gone_sub {x : Int} {rs : List (List Int)} (h : x ∈ goneL rs) : x ∈ rs.flatten := by
  obtain ⟨g, hg, hx⟩ := List.mem_flatMap.mp h
  exact List.mem_flatten.mpr ⟨g, hg, List.mem_of_mem_tail hx⟩
/-- who is left of the names -/
theorem run_names (hn : (keysL m).Nodup) (f : RowFit (keysL m) row) : ∀ i : Nat, i ≤ row.length → ∀ x, x ∈ keysL (runRow m (row.take i)) ↔ x ∈ keysL m ∧ x ∉ goneL (row.take i)
  | 0, _, x => by
    show x ∈ keysL m ↔ x ∈ keysL m ∧ x ∉ []
    simp
  | i + 1, hi, x => by
    have ih := run_names hn f i (by omega) x
    have hr : row[i]? = some row[i] := by simp
    obtain ⟨g0, g1⟩ := f.grp row[i] (List.getElem_mem _)
    have hnod := f.nod
    have e : row.flatten = (row.take (i + 1)).flatten ++ (row.drop (i + 1)).flatten := by rw [← List.flatten_append, List.take_append_drop]
    rw [e, take_flat hr] at hnod
    obtain ⟨_, h2, h3⟩ := List.nodup_append.mp (List.nodup_append.mp hnod).1
    rw [run_take hr, step_keys, gone_take hr]
    cases eg : row[i] with
    | nil => exact absurd eg g0
    | cons y t =>
      rw [eg] at h2 h3 g1
      rw [List.nodup_cons] at h2
      have hy : y ∉ goneL (row.take i) := fun z => h3 y (gone_sub z) y List.mem_cons_self rfl
      rw [List.mem_append, List.mem_filter, List.mem_append, ih]
      simp only [List.headD_cons, List.mem_singleton, List.tail_cons]
      constructor
      · rintro (⟨⟨a1, a2⟩, a3⟩ | rfl)
        · have a4 : x ∉ y :: t := by simpa using a3
          rw [List.mem_cons, not_or] at a4
          exact ⟨a1, fun z => z.elim a2 a4.2⟩
        · exact ⟨g1 _ List.mem_cons_self, fun z => z.elim hy h2.1⟩
      · rintro ⟨a1, a2⟩
        rw [not_or] at a2
        by_cases hxy : x = y
        · exact .inr hxy
        · refine .inl ⟨⟨a1, a2.1⟩, ?_⟩
          have : x ∉ y :: t := by
            rw [List.mem_cons, not_or]
            exact ⟨hxy, a2.2⟩
          simpa using this
end
theorem startL_perm {L L' : List (List Int)} (h : L.Perm L') : (startL L).Perm (startL L') := h.map _
theorem withNew_perm (bs : List Int) (d : Int) (L : List (List Int)) : (startL (withNew bs d L)).Perm (startL L ++ singles (newbornL bs d)) := by
  have h1 : (withNew bs d L).Perm (L ++ (newbornL bs d).map fun x => [x]) := List.mergeSort_perm _ _
  have h2 := startL_perm h1
  have e : startL (L ++ (newbornL bs d).map fun x => [x]) = startL L ++ singles (newbornL bs d) := by
    unfold startL singles
    rw [List.map_append, List.map_map]
    rfl
  rw [e] at h2
  exact h2
theorem newborn_mem {bs : List Int} {d x : Int} : x ∈ newbornL bs d ↔ 0 ≤ x ∧ x.toNat < bs.length ∧ bs.getD x.toNat 0 = d := by
  unfold newbornL
  rw [List.mem_map]
  constructor
  · rintro ⟨i, hi, rfl⟩
    rw [List.mem_filter, List.mem_range] at hi
    refine ⟨by omega, by simpa using hi.1, by simpa using hi.2⟩
  · rintro ⟨h0, h1, h2⟩
    refine ⟨x.toNat, List.mem_filter.mpr ⟨List.mem_range.mpr h1, by simpa using h2⟩, by omega⟩
theorem newborn_nodup (bs : List Int) (d : Int) : (newbornL bs d).Nodup := by
  unfold newbornL
  have h0 : ((List.range bs.length).filter fun i => decide (bs.getD i 0 = d)).Pairwise (· ≠ ·) := List.Pairwise.filter _ List.nodup_range
  refine List.Pairwise.map (R := fun a b : Nat => a ≠ b) _ (fun a b h e => ?_) h0
  have e' : (a : Int) = (b : Int) := e
  omega
end DL
namespace DL
open PySem PySem.Spec PyProof.Rows L2 RZ
/-- the lines at moment d: their names are the tree's names, their leaves are born by then -/
structure LInv (bs : List Int) (T : List (List (List Int))) (d : Nat) : Prop where
  inv : AInv (startL (linesM bs T d))
  nam : ∀ x, x ∈ keysL (startL (linesM bs T d)) ↔ x ∈ namesAt bs T d
  lea : ∀ x ∈ valsL (startL (linesM bs T d)), 0 ≤ x ∧ x.toNat < bs.length ∧ bs.getD x.toNat 0 ≤ (d : Int)
theorem next_mem (bs : List Int) (d : Nat) (names : List Int) (row : List (List Int)) (x : Int) : x ∈ nextNames bs d names row ↔ (x ∈ names ∧ x ∉ goneL row) ∨ x ∈ newbornL bs ((d : Int) + 1) := by
  unfold nextNames
  rw [(upI_perm _).mem_iff, List.mem_append, List.mem_filter]
  simp
theorem linv0 {bs : List Int} {T : List (List (List Int))} : LInv bs T 0 := by
  have p := withNew_perm bs 0 []
  have e0 : startL ([] : List (List Int)) = [] := rfl
  rw [e0, List.nil_append] at p
  have a : AInv (singles (newbornL bs 0)) := by
    have := AInv.nil.add (newborn_nodup bs 0) (fun x _ h => nomatch h)
    rw [List.nil_append] at this
    exact this
  refine ⟨a.perm p.symm, fun x => ?_, fun x hx => ?_⟩
  · show x ∈ keysL (startL (withNew bs 0 [])) ↔ x ∈ newbornL bs 0
    rw [(keys_perm p).mem_iff, keys_singles]
  · have hx2 := ((p.flatMap_right Prod.snd).mem_iff).mp hx
    have hx3 : x ∈ valsL (singles (newbornL bs 0)) := hx2
    rw [vals_singles, newborn_mem] at hx3
    exact ⟨hx3.1, hx3.2.1, by omega⟩
theorem row_fit {bs p : List Int} {T : List (List (List Int))} {d : Nat} {r : List (List Int)} (l : LInv bs T d) (h : RowOk (namesAt bs T d) p r) (hp : ∀ s ∈ p, 2 ≤ s) : RowFit (keysL (startL (linesM bs T d))) r := by
  refine ⟨fun g hg => ⟨?_, fun x hx => (l.nam x).mpr ((h.grp g hg).1 x hx)⟩, h.nod⟩
  intro e
  have h1 : ((g.length : Nat) : Int) ∈ r.map fun g => (g.length : Int) := List.mem_map_of_mem hg
  have h2 := hp _ (h.siz.mem_iff.mp h1)
  rw [e] at h2
  simp at h2
theorem linv_next {bs p : List Int} {T : List (List (List Int))} {d : Nat} {r : List (List Int)} (l : LInv bs T d) (hT : T[d]? = some r) (h : RowOk (namesAt bs T d) p r) (hp : ∀ s ∈ p, 2 ≤ s) : LInv bs T (d + 1) := by
  have fit := row_fit l h hp
  have asc : ∀ g ∈ r, g.Pairwise (· < ·) := fun g hg => risB_asc (h.grp g hg).2
  obtain ⟨ri, rv⟩ := run_inv l.inv fit asc r.length (Nat.le_refl _)
  have rn := run_names l.inv.nod fit r.length (Nat.le_refl _)
  rw [List.take_length] at ri rv rn
  have so := start_out ri
  have e1 : linesM bs T (d + 1) = withNew bs ((d : Int) + 1) (joinL (linesM bs T d) r) := by
    simp only [linesM]
    rw [getD_of hT]
  have e2 : namesAt bs T (d + 1) = nextNames bs d (namesAt bs T d) r := by
    simp only [namesAt]
    rw [getD_of hT]
  have p := withNew_perm bs ((d : Int) + 1) (joinL (linesM bs T d) r)
  have p2 : (startL (linesM bs T (d + 1))).Perm (runRow (startL (linesM bs T d)) r ++ singles (newbornL bs ((d : Int) + 1))) := by
    rw [e1]
    exact p.trans (so.append_right _)
  have lv : ∀ x ∈ valsL (runRow (startL (linesM bs T d)) r), 0 ≤ x ∧ x.toNat < bs.length ∧ bs.getD x.toNat 0 ≤ (d : Int) := fun x hx => l.lea x (rv.mem_iff.mp hx)
  have dis : ∀ x ∈ newbornL bs ((d : Int) + 1), x ∉ valsL (runRow (startL (linesM bs T d)) r) := by
    intro x hx hv
    have h1 := (newborn_mem.mp hx).2.2
    have h2 := (lv x hv).2.2
    omega
  refine ⟨(ri.add (newborn_nodup _ _) dis).perm p2.symm, fun x => ?_, fun x hx => ?_⟩
  · rw [(keys_perm p2).mem_iff, keys_app, keys_singles, List.mem_append, rn, e2, next_mem, l.nam]
  · have hx2 : x ∈ valsL (runRow (startL (linesM bs T d)) r ++ singles (newbornL bs ((d : Int) + 1))) := ((p2.flatMap_right Prod.snd).mem_iff).mp hx
    rw [vals_app, vals_singles, List.mem_append] at hx2
    rcases hx2 with h1 | h1
    · have := lv x h1
      exact ⟨this.1, this.2.1, by omega⟩
    · have := newborn_mem.mp h1
      exact ⟨this.1, this.2.1, by omega⟩
theorem linv {bs : List Int} {ds : List (List Int)} {T : List (List (List Int))} (ok : CalOk bs ds) (tr : TreeOk bs ds T) : ∀ d : Nat, d ≤ ds.length → LInv bs T d
  | 0, _ => linv0
  | d + 1, hd => by
    have hi : d < T.length := by have := tr.len; omega
    have hT : T[d]? = some T[d] := by simp
    have hds : ds[d]? = some ds[d] := by simp
    exact linv_next (linv ok tr d (by omega)) hT (tr.row d _ _ hds hT) (patB_ge (ok.pat _ (List.getElem_mem _)).1)
end DL
set_option Elab.async false
set_option linter.all false
set_option maxRecDepth 100000
set_option maxHeartbeats 2000000
/-! right trees: a row can be laid upon the lines ahead of it -/
namespace DL
open PySem PySem.Spec PyProof.Rows L2 RZ
theorem ints_len {n : Nat} {l : List Int} (h : l.Nodup) (hb : ∀ x ∈ l, 0 ≤ x ∧ x.toNat < n) : l.length ≤ n := by
  have h1 : (l.map Int.toNat).Nodup := by
    induction l with
    | nil => exact .nil
    | cons x r ih =>
      rw [List.nodup_cons] at h
      rw [List.map_cons, List.nodup_cons]
      refine ⟨fun z => ?_, ih h.2 fun y hy => hb y (List.mem_cons_of_mem _ hy)⟩
      obtain ⟨y, hy, e⟩ := List.mem_map.mp z
      have b1 := hb x List.mem_cons_self
      have b2 := hb y (List.mem_cons_of_mem _ hy)
      have : y = x := by omega
      exact h.1 (by rw [← this]; exact hy)
  have h2 := L2.nat_nodup_len (l.map Int.toNat) (List.range n) h1 fun x hx => by
    obtain ⟨y, hy, rfl⟩ := List.mem_map.mp hx
    exact List.mem_range.mpr (hb y hy).2
  simpa using h2
theorem len_vals : ∀ {m : AL}, (∀ e ∈ m, e.2 ≠ []) → m.length ≤ (valsL m).length
  | [], _ => Nat.le_refl _
  | e :: r, h => by
    have ih := len_vals (m := r) fun x hx => h x (List.mem_cons_of_mem _ hx)
    have h1 := List.length_pos_iff.mpr (h e List.mem_cons_self)
    unfold valsL at ih ⊢
    rw [List.flatMap_cons, List.length_append, List.length_cons]
    omega
theorem mem_vals_len {m : AL} {e : Int × List Int} (h : e ∈ m) : e.2.length ≤ (valsL m).length := by
  induction m with
  | nil => cases h
  | cons x r ih =>
    unfold valsL at ih ⊢
    rw [List.flatMap_cons, List.length_append]
    rcases List.mem_cons.mp h with rfl | h
    · omega
    · have := ih h
      omega
theorem startL_keys (L : List (List Int)) : keysL (startL L) = L.map fun l => l.headD 0 := by
  unfold keysL startL
  rw [List.map_map]
  rfl
theorem join_ok {bs : List Int} {ds : List (List Int)} {T : List (List (List Int))} (ok : CalOk bs ds) (tr : TreeOk bs ds T) (d : Nat) (hd : d < ds.length) : JoinOk (linesM bs T d) (T.getD d []) := by
  have hi : d < T.length := by have := tr.len; omega
  have hT : T[d]? = some T[d] := by simp
  have hds : ds[d]? = some ds[d] := by simp
  rw [getD_of hT]
  have l := linv ok tr d (by omega)
  have hok := tr.row d _ _ hds hT
  have hp := patB_ge (ok.pat _ (List.getElem_mem hd)).1
  have fit := row_fit l hok hp
  have asc : ∀ g ∈ T[d], g.Pairwise (· < ·) := fun g hg => risB_asc (hok.grp g hg).2
  obtain ⟨b1, b2⟩ := row_bd ok hds hok
  have n12 := ok.n12
  have hv : (valsL (startL (linesM bs T d))).length ≤ 12 := by
    have := ints_len l.inv.vals fun x hx => ⟨(l.lea x hx).1, (l.lea x hx).2.1⟩
    omega
  have hlen : (linesM bs T d).length ≤ 12 := by
    have h1 := len_vals (m := startL (linesM bs T d)) fun e he => (l.inv.line e he).1
    have h2 : (startL (linesM bs T d)).length = (linesM bs T d).length := List.length_map _
    omega
  have hne : ∀ x ∈ linesM bs T d, x ≠ [] ∧ x.length ≤ 100 := by
    intro x hx
    have he : (x.headD 0, x) ∈ startL (linesM bs T d) := List.mem_map_of_mem hx
    have h1 := (l.inv.line _ he).1
    have h2 := mem_vals_len he
    exact ⟨h1, by
      have h3 : x.length ≤ (valsL (startL (linesM bs T d))).length := h2
      omega⟩
  have hr := run_inv l.inv fit asc T[d].length (Nat.le_refl _)
  rw [List.take_length] at hr
  have hjl : (joinL (linesM bs T d) T[d]).length ≤ 100 := by
    have h1 := run_len (startL (linesM bs T d)) T[d]
    have h2 : (startL (linesM bs T d)).length = (linesM bs T d).length := List.length_map _
    have h3 : (joinL (linesM bs T d) T[d]).length = (runRow (startL (linesM bs T d)) T[d]).length := by
      unfold joinL outL upI keysL
      rw [List.length_map, List.length_mergeSort, List.length_map]
    omega
  refine ⟨by omega, by omega, hne, by rw [← startL_keys]; exact l.inv.nod, by rw [← startL_keys]; exact fit, by omega, fun i g hg => ?_, fun x hx => ?_, by omega⟩
  · have hi2 : i < T[d].length := (List.getElem?_eq_some_iff.mp hg).1
    obtain ⟨i1, i2⟩ := run_inv l.inv fit asc i (by omega)
    obtain ⟨gn, gk⟩ := fit_at l.inv.nod fit hg
    have h1 := ((step_vals i1.nod gn gk).trans i2).length_eq
    unfold valsL at h1 hv
    unfold stepG at h1
    rw [List.flatMap_append, List.flatMap_cons, List.flatMap_nil, List.append_nil, List.length_append, (upI_perm _).length_eq] at h1
    omega
  · unfold joinL outL at hx
    obtain ⟨k, hk, rfl⟩ := List.mem_map.mp hx
    exact (hr.1.line _ (look_mem hr.1 ((upI_perm _).mem_iff.mp hk))).1
end DL
set_option Elab.async false
set_option linter.all false
set_option maxRecDepth 100000
set_option maxHeartbeats 2000000
/-! all leaves first, then row by row: the same lines -/
namespace DL
open PySem PySem.Spec PyProof.Rows L2 RZ
def runRows (m : AL) (rows : List (List (List Int))) : AL := rows.foldl runRow m
/-- leaves born by d -/
def bornL (bs : List Int) (d : Int) : List Int := ((List.range bs.length).filter fun i => decide (bs.getD i 0 ≤ d)).map fun (i : Nat) => (i : Int)
def lateL (bs : List Int) (e d : Int) : List Int := ((List.range bs.length).filter fun i => decide (e < bs.getD i 0 ∧ bs.getD i 0 ≤ d)).map fun (i : Nat) => (i : Int)
def lawM (bs : List Int) (T : List (List (List Int))) (d : Nat) : List (List Int) := outL (runRows (singles (bornL bs d)) (T.take d))
theorem filt_perm {α : Type} (p q r : α → Bool) : ∀ l : List α, (∀ x ∈ l, p x = (q x || r x) ∧ (q x && r x) = false) → (l.filter p).Perm (l.filter q ++ l.filter r)
  | [], _ => List.Perm.refl _
  | x :: l, h => by
    have ih := filt_perm p q r l fun y hy => h y (List.mem_cons_of_mem _ hy)
    obtain ⟨h1, h2⟩ := h x List.mem_cons_self
    cases hq : q x with
    | true =>
      rw [hq] at h1 h2
      have hr : r x = false := by simpa using h2
      have hp : p x = true := by simpa using h1
      simp only [List.filter_cons, hp, hq, hr, if_true, List.cons_append]
      simpa using ih.cons x
    | false =>
      rw [hq] at h1
      cases hr : r x with
      | true =>
        have hp : p x = true := by rw [h1, hr]; rfl
        simp only [List.filter_cons, hp, hq, hr, if_true]
        have := (ih.cons x).trans List.perm_middle.symm
        simpa using this
      | false =>
        have hp : p x = false := by rw [h1, hr]; rfl
        simpa [List.filter_cons, hp, hq, hr] using ih
theorem born_split {bs : List Int} (hb : ∀ b ∈ bs, 0 ≤ b) (d : Int) (hd : 0 ≤ d) : (bornL bs d).Perm (newbornL bs 0 ++ lateL bs 0 d) := by
  unfold bornL newbornL lateL
  rw [← List.map_append]
  refine List.Perm.map _ (filt_perm _ _ _ _ fun i hi => ?_)
  have hi' := List.mem_range.mp hi
  have hmem : bs.getD i 0 ∈ bs := by
    rw [List.getD_eq_getElem?_getD, List.getElem?_eq_getElem hi']
    exact List.getElem_mem _
  have h0 := hb _ hmem
  generalize bs.getD i 0 = x at h0
  constructor
  · rw [Bool.eq_iff_iff]
    simp
    omega
  · rw [Bool.eq_false_iff]
    simp
    omega
theorem late_split (bs : List Int) (e d : Int) (h : e + 1 ≤ d) : (lateL bs e d).Perm (newbornL bs (e + 1) ++ lateL bs (e + 1) d) := by
  unfold newbornL lateL
  rw [← List.map_append]
  refine List.Perm.map _ (filt_perm _ _ _ _ fun i hi => ?_)
  generalize bs.getD i 0 = x
  constructor
  · rw [Bool.eq_iff_iff]
    simp
    omega
  · rw [Bool.eq_false_iff]
    simp
    omega
theorem late_nil (bs : List Int) (d : Int) : lateL bs d d = [] := by
  unfold lateL
  rw [List.map_eq_nil_iff, List.filter_eq_nil_iff]
  intro i _
  simp
theorem late_mem {bs : List Int} {e d x : Int} (h : x ∈ lateL bs e d) : e < bs.getD x.toNat 0 := by
  unfold lateL at h
  obtain ⟨i, hi, rfl⟩ := List.mem_map.mp h
  have := (List.mem_filter.mp hi).2
  simp at this
  simpa using this.1
theorem singles_perm {a b : List Int} (h : a.Perm b) : (singles a).Perm (singles b) := h.map _
theorem singles_app (a b : List Int) : singles (a ++ b) = singles a ++ singles b := List.map_append
theorem look_app {m m' : AL} {k : Int} (hn : (keysL (m ++ m')).Nodup) (hk : k ∈ keysL m) (hm : (keysL m).Nodup) : look (m ++ m') k = look m k := by
  obtain ⟨e, he, rfl⟩ := List.mem_map.mp hk
  rw [look_of hn (List.mem_append_left _ he), look_of hm he]
theorem step_late {m t : AL} {g : List Int} (hn : (keysL (m ++ t)).Nodup) (gk : ∀ x ∈ g, x ∈ keysL m) (gt : ∀ x ∈ g, x ∉ keysL t) : (stepG (m ++ t) g).Perm (stepG m g ++ t) := by
  have hm : (keysL m).Nodup := by
    rw [keys_app] at hn
    exact (List.nodup_append.mp hn).1
  unfold stepG
  have e1 : t.filter (fun e => !g.contains e.1) = t := by
    rw [List.filter_eq_self]
    intro e he
    have : e.1 ∉ g := fun z => gt _ z (List.mem_map_of_mem he)
    simpa using this
  have e2 : g.flatMap (look (m ++ t)) = g.flatMap (look m) := by
    have : ∀ l : List Int, (∀ x ∈ l, x ∈ g) → l.flatMap (look (m ++ t)) = l.flatMap (look m) := by
      intro l
      induction l with
      | nil => intro _; rfl
      | cons x r ih =>
        intro h
        rw [List.flatMap_cons, List.flatMap_cons, ih fun y hy => h y (List.mem_cons_of_mem _ hy), look_app hn (gk x (h x List.mem_cons_self)) hm]
    exact this g fun x hx => hx
  rw [List.filter_append, e1, e2, List.append_assoc, List.append_assoc]
  exact List.Perm.append_left _ List.perm_append_comm
section
variable {m t : AL} {row : List (List Int)}
theorem run_late (hn : (keysL (m ++ t)).Nodup) (f : RowFit (keysL m) row) (ft : ∀ x ∈ row.flatten, x ∉ keysL t) : ∀ i : Nat, i ≤ row.length → (runRow (m ++ t) (row.take i)).Perm (runRow m (row.take i) ++ t) ∧ (keysL (runRow m (row.take i) ++ t)).Nodup
  | 0, _ => ⟨List.Perm.refl _, hn⟩
  | i + 1, hi => by
    obtain ⟨i1, i2⟩ := run_late hn f ft i (by omega)
    have hm : (keysL m).Nodup := by
      rw [keys_app] at hn
      exact (List.nodup_append.mp hn).1
    have hr : row[i]? = some row[i] := by simp
    obtain ⟨gn, gk⟩ := fit_at hm f hr
    have g0 := (f.grp _ (List.getElem_mem (show i < row.length by omega))).1
    have gt : ∀ x ∈ row[i], x ∉ keysL t := fun x hx => ft x (List.mem_flatten.mpr ⟨_, List.getElem_mem _, hx⟩)
    have n0 : (keysL (runRow (m ++ t) (row.take i))).Nodup := (keys_perm i1).nodup_iff.mpr i2
    have p1 := (stepG_perm i1 n0 row[i]).trans (step_late i2 gk gt)
    rw [run_take hr, run_take hr]
    exact ⟨p1, (keys_perm p1).nodup_iff.mp (step_nodup n0 g0)⟩
theorem run_perm {m' : AL} (p : m.Perm m') (hn : (keysL m).Nodup) (h0 : ∀ g ∈ row, g ≠ []) : (runRow m row).Perm (runRow m' row) := by
  induction row generalizing m m' with
  | nil => exact p
  | cons g r ih => exact ih (stepG_perm p hn g) (step_nodup hn (h0 g List.mem_cons_self)) fun x hx => h0 x (List.mem_cons_of_mem _ hx)
end
theorem outL_start {bs : List Int} {T : List (List (List Int))} {d : Nat} (l : LInv bs T d) (hs : (linesM bs T d).Pairwise fun a b => lstLe a b = true) : outL (startL (linesM bs T d)) = linesM bs T d := by
  have hk := startL_keys (linesM bs T d)
  have hne : ∀ x ∈ linesM bs T d, x ≠ [] := fun x hx => (l.inv.line (x.headD 0, x) (List.mem_map_of_mem hx)).1
  have hasc : ((linesM bs T d).map fun l => l.headD 0).Pairwise (· ≤ ·) := by
    rw [List.pairwise_map]
    refine hs.imp_of_mem fun {a b} ha hb hab => ?_
    have n1 := hne a ha
    have n2 := hne b hb
    cases a with
    | nil => exact absurd rfl n1
    | cons x r =>
      cases b with
      | nil => exact absurd rfl n2
      | cons y q =>
        have h1 : ¬ (y :: q) < (x :: r) := List.not_lt.mpr (by simpa [lstLe] using hab)
        rw [List.cons_lt_cons_iff, not_or] at h1
        simp
        omega
  have e : upI (keysL (startL (linesM bs T d))) = (linesM bs T d).map fun l => l.headD 0 := by
    rw [hk]
    exact (upI_of (List.Perm.refl _) hasc).symm
  unfold outL
  rw [e, List.map_map]
  conv => rhs; rw [← List.map_id (linesM bs T d)]
  apply List.map_congr_left
  intro x hx
  exact look_of l.inv.nod (e := (x.headD 0, x)) (List.mem_map_of_mem hx)
theorem linesM_sorted (bs : List Int) (T : List (List (List Int))) (d : Nat) : (linesM bs T d).Pairwise fun a b => lstLe a b = true := by
  have h : ∀ L : List (List Int), (upR L).Pairwise fun a b => lstLe a b = true := by
    intro L
    unfold upR
    refine List.pairwise_mergeSort (fun a b c h1 h2 => ?_) (fun a b => ?_) L
    · simp only [lstLe, decide_eq_true_eq] at h1 h2 ⊢
      exact List.le_trans h1 h2
    · simp only [lstLe, Bool.or_eq_true, decide_eq_true_eq]
      exact List.le_total a b
  cases d with
  | zero => exact h _
  | succ d => exact h _
theorem rows_eq {bs : List Int} {ds : List (List Int)} {T : List (List (List Int))} (ok : CalOk bs ds) (tr : TreeOk bs ds T) (d : Nat) (hd : d ≤ ds.length) : ∀ e : Nat, e ≤ d → (runRows (singles (bornL bs d)) (T.take e)).Perm (startL (linesM bs T e) ++ singles (lateL bs e d))
  | 0, _ => by
    show (singles (bornL bs d)).Perm (startL (withNew bs 0 []) ++ singles (lateL bs 0 d))
    have p := withNew_perm bs 0 []
    have p1 := singles_perm (born_split (fun b hb => (ok.born b hb).1) d (by omega))
    rw [singles_app] at p1
    exact p1.trans (p.symm.append_right _)
  | e + 1, he => by
    have ih := rows_eq ok tr d hd e (by omega)
    have hi : e < T.length := by have := tr.len; omega
    have hT : T[e]? = some T[e] := by simp
    have hds : ds[e]? = some ds[e] := by simp
    have l := linv ok tr e (by omega)
    have hok := tr.row e _ _ hds hT
    have hp := patB_ge (ok.pat _ (List.getElem_mem (show e < ds.length by omega))).1
    have fit := row_fit l hok hp
    have asc : ∀ g ∈ T[e], g.Pairwise (· < ·) := fun g hg => risB_asc (hok.grp g hg).2
    obtain ⟨ri, rv⟩ := run_inv l.inv fit asc T[e].length (Nat.le_refl _)
    rw [List.take_length] at ri rv
    have late_key : ∀ x ∈ lateL bs e d, x ∉ valsL (startL (linesM bs T e)) := fun x hx hv => by
      have h1 := late_mem hx
      have h2 := (l.lea x hv).2.2
      omega
    have late_nd : (lateL bs (e : Int) d).Nodup := by
      unfold lateL
      have h0 : ((List.range bs.length).filter fun i => decide ((e : Int) < bs.getD i 0 ∧ bs.getD i 0 ≤ (d : Int))).Pairwise (· ≠ ·) := List.Pairwise.filter _ List.nodup_range
      refine List.Pairwise.map (R := fun a b : Nat => a ≠ b) _ (fun a b h e => ?_) h0
      have e' : (a : Int) = (b : Int) := e
      omega
    have hn := (l.inv.add late_nd late_key).nod
    have ft : ∀ x ∈ T[e].flatten, x ∉ keysL (singles (lateL bs e d)) := by
      intro x hx
      rw [keys_singles]
      intro hl
      obtain ⟨g, hg, hxg⟩ := List.mem_flatten.mp hx
      exact late_key x hl (keys_vals l.inv ((fit.grp g hg).2 x hxg))
    have p1 := (run_late hn fit ft T[e].length (Nat.le_refl _)).1
    rw [List.take_length] at p1
    have e0 : runRows (singles (bornL bs d)) (T.take (e + 1)) = runRow (runRows (singles (bornL bs d)) (T.take e)) T[e] := by
      unfold runRows
      rw [List.take_add_one, hT, List.foldl_append]
      rfl
    have n1 : (keysL (runRows (singles (bornL bs d)) (T.take e))).Nodup := (keys_perm ih).nodup_iff.mpr hn
    have p2 := (run_perm ih n1 fun g hg => (fit.grp g hg).1).trans p1
    rw [e0]
    refine p2.trans ?_
    have p3 := singles_perm (late_split bs e d (by omega))
    rw [singles_app] at p3
    have p4 := withNew_perm bs ((e : Int) + 1) (joinL (linesM bs T e) T[e])
    have e1 : linesM bs T (e + 1) = withNew bs ((e : Int) + 1) (joinL (linesM bs T e) T[e]) := by
      simp only [linesM]
      rw [getD_of hT]
    rw [e1]
    refine ((start_out ri).symm.append p3).trans ?_
    rw [← List.append_assoc]
    exact p4.symm.append_right _
theorem law_lines {bs : List Int} {ds : List (List Int)} {T : List (List (List Int))} (ok : CalOk bs ds) (tr : TreeOk bs ds T) (d : Nat) (hd : d ≤ ds.length) : lawM bs T d = linesM bs T d := by
  have p := rows_eq ok tr d hd d (Nat.le_refl _)
  have l := linv ok tr d hd
  have e : singles (lateL bs (d : Int) d) = [] := by rw [late_nil]; rfl
  rw [e, List.append_nil] at p
  unfold lawM
  rw [outL_perm p ((keys_perm p).nodup_iff.mpr l.inv.nod)]
  exact outL_start l (linesM_sorted bs T d)
end DL
set_option Elab.async false
set_option linter.all false
set_option maxRecDepth 100000
set_option maxHeartbeats 2000000
/-! sorted(t) of a tuple of whole numbers -/
namespace DL
open PySem PySem.Spec PyProof.Rows L2 RZ PySem.W
theorem ints_each {vs : List Value} {ns : List Int} (h : IntsAre vs ns) : EachIs (fun v (n : Int) => ∃ t, v = Value.int n t) vs ns := by
  induction h with
  | nil => exact .nil
  | cons p t _ ih => exact .cons ⟨t, rfl⟩ ih
theorem each_ints : ∀ {vs : List Value} {ns : List Int}, EachIs (fun v (n : Int) => ∃ t, v = Value.int n t) vs ns → IntsAre vs ns
  | _, _, .nil => .nil
  | _, _, .cons ⟨t, e⟩ r => by
    subst e
    exact .cons _ t (each_ints r)
section
variable {prog : Program} {w : World} {A : Around} {E : Value → Shared → Prop} {s : Shared}
theorem sorted_tupI {t : Addr} {vs : List Value} {ns : List Int} {Q : Value → Shared → Prop} {o : Obj} {n : Nat} (ho : s.heap.get? t = some o) (hc : o.cls = .type "tuple") (hd : o.data = .seq vs.toArray n) (hz : vs.length ≤ sizeLine) (hi : IntsAre vs ns) (hu : A.units + 8 < cLine)
    (h : ∀ (h1 h' : Heap) (p : Addr) (out : List Value) (e : Nat), (∀ b x, s.heap.get? b = some x → h1.get? b = some x) → (∀ b x, h1.get? b = some x → h'.get? b = some x) → h1.objs.size ≤ p → h'.get? p = some (seqObj "list" out.toArray e) → IntsAre out (upI ns) → Q (.ref p) { s with heap := h' }) : wpAny (model prog w) A (call (.builtin "sorted") [.ref t]) Q E s := by
  refine Calls.call_function_entry kind_sorted plain_sorted entry_sorted (args_sorted1 _) ?_; unfold Builtin.«sorted»
  refine wpAny_bind (m := checkCount "sorted" 1 1 _) (wpAny_pure ?_); refine wpAny_bind (wpAny_collect_seq t (.inr rfl) ho hc hd (fun h1 k1 => ?_) (by simpa using hz))
  have ev : vs.toArray.toList = vs := by simp
  rw [ev]
  refine wpAny_bind (wpAny_newList ?_ (by simpa using hz))
  have e0 := ints_each hi
  have hlen := hi.length
  refine wpAny_bind (wpAny_holding (PySem.W.list_sort_data (n := 0) (bs := ns) (enc := PyData.int) (R := fun v (k : Int) => ∃ t, v = Value.int k t) (vs := vs) (Heap.get?_push_size _ rfl) e0 ?_ ?_ ?_ (by omega) (fun k _ => ?_) fun out ho eo => ?_))
  · exact each_with e0 fun u k _ hk => by
      obtain ⟨t, rfl⟩ := hk
      exact ⟨[], .int _ _, fun h => nomatch h⟩
  · exact AllAlike.of fun b b' => by simp [alike]
  · exact Sortable.others fun b => ⟨by simp, fun xs => by simp⟩
  · have e : A.in1.units = A.units + 1 := rfl
    have e1 : A.in1.in1.units = A.units + 2 := rfl
    simp only [PyData.depth]
    omega
  · obtain ⟨e, he⟩ := sortedHeap_at (out := List.toArray out) (show (h1.push { cls := .type "list", data := .seq vs.toArray }).get? h1.objs.size = some (seqObj "list" vs.toArray 0) from Heap.get?_push_size _ rfl)
    have ed : dataLe false (fun n : Int => PyData.int n) = fun a b => decide (a ≤ b) := dataLe_int fun n => n
    rw [ed] at eo
    refine wpAny_pure ⟨_, rfl, h h1 _ _ out e k1 (fun b x hb => ?_) (Nat.le_refl _) he (each_ints eo)⟩
    have hlt := Heap.lt_size hb
    rw [sortedHeap_old (Nat.ne_of_lt hlt) (by rw [size_push']; exact Nat.lt_succ_of_lt hlt)]
    exact Heap.get?_push_of_some _ hb
end
section
variable {X : Cx}
def rSortTI (K : PySem.W.Frag) : List V → Hp → VK → Prop := fun vs H Q => ∃ (a : Addr) (ns : List Int), vs = [V.ref a] ∧ SqT K H a (ns.map V.int) ∧ ∀ (p : Addr), H p = none → Q (.ref p) (upd H p (.lst ((upI ns).map V.int)))
theorem cr_sortTI (K : PySem.W.Frag) (h : X.K = K) (hu : X.A.units + 64 < cLine) : CallR X (.builtin "sorted") (rSortTI K) := by
  subst h
  intro pins s σ H vs us Q I r h
  obtain ⟨a, ns, rfl, hs, q⟩ := h
  obtain ⟨its, rv, ⟨o, ho, hc, n, hd⟩, hz⟩ := I.tuple hs
  rw [Vals.ref1 r]
  refine sorted_tupI ho hc hd (by rw [← rv.length]; exact hz) (rv.ints) (by omega) fun h1 h' p out e k1 k2 hp he hi => ?_
  have I1 := I.kept (t' := s.toks) k1
  have hlen : ((upI ns).map V.int).length ≤ sizeLine := by
    rw [List.length_map, (upI_perm ns).length_eq]
    simpa using hz
  have hv : Vals ((upI ns).map V.int) out := by
    have e1 := ints_each hi
    refine each_back (f := V.int) (each_with e1 fun u b _ hk => ?_)
    exact hk
  exact ⟨.ref p, upd H p (.lst ((upI ns).map V.int)), I1.laid (t' := s.toks) k2 hp ⟨hlen, out, e, hv, he⟩, rfl, q p (I1.hok.fresh hp)⟩
end
end DL
set_option Elab.async false
set_option linter.all false
set_option maxRecDepth 100000
set_option maxHeartbeats 2000000
/-! all leaves first: what each row finds -/
namespace DL
open PySem PySem.Spec PyProof.Rows L2 RZ
theorem run_vals {m : AL} {row : List (List Int)} (hn : (keysL m).Nodup) (f : RowFit (keysL m) row) : ∀ i : Nat, i ≤ row.length → (valsL (runRow m (row.take i))).Perm (valsL m)
  | 0, _ => List.Perm.refl _
  | i + 1, hi => by
    have ih := run_vals hn f i (by omega)
    have hr : row[i]? = some row[i] := by simp
    obtain ⟨gn, gk⟩ := fit_at hn f hr
    rw [run_take hr]
    exact (step_vals (run_keys hn f i (by omega)).1 gn gk).trans ih
structure RowsFit (m : AL) (row : List (List Int)) : Prop where
  nod : (keysL m).Nodup
  fit : RowFit (keysL m) row
  vals : (valsL m).length ≤ 24
  len : m.length ≤ 24
  n : row.length ≤ 6
theorem range_filt_le (n : Nat) (p : Nat → Bool) : (((List.range n).filter p).map fun (i : Nat) => (i : Int)).length ≤ n := by
  rw [List.length_map]
  have h := List.length_filter_le p (List.range n)
  rw [List.length_range] at h
  exact h
theorem rows_fit {bs : List Int} {ds : List (List Int)} {T : List (List (List Int))} (ok : CalOk bs ds) (tr : TreeOk bs ds T) (d : Nat) (hd : d ≤ ds.length) (e : Nat) (he : e < d) : RowsFit (runRows (singles (bornL bs d)) (T.take e)) (T.getD e []) := by
  have p := rows_eq ok tr d hd e (by omega)
  have hi : e < T.length := by have := tr.len; omega
  have hT : T[e]? = some T[e] := by simp
  have hds : ds[e]? = some ds[e] := by simp
  have l := linv ok tr e (by omega)
  have hok := tr.row e _ _ hds hT
  have hp := patB_ge (ok.pat _ (List.getElem_mem (show e < ds.length by omega))).1
  have fit := row_fit l hok hp
  have n12 := ok.n12
  obtain ⟨b1, b2⟩ := row_bd ok hds hok
  have late_key : ∀ x ∈ lateL bs e d, x ∉ valsL (startL (linesM bs T e)) := fun x hx hv => by
    have h1 := late_mem hx
    have h2 := (l.lea x hv).2.2
    omega
  have late_nd : (lateL bs (e : Int) d).Nodup := by
    unfold lateL
    have h0 : ((List.range bs.length).filter fun i => decide ((e : Int) < bs.getD i 0 ∧ bs.getD i 0 ≤ (d : Int))).Pairwise (· ≠ ·) := List.Pairwise.filter _ List.nodup_range
    refine List.Pairwise.map (R := fun a b : Nat => a ≠ b) _ (fun a b h e => ?_) h0
    have e' : (a : Int) = (b : Int) := e
    omega
  have a := l.inv.add late_nd late_key
  have hlate : (lateL bs (e : Int) d).length ≤ bs.length := range_filt_le _ _
  have hv : (valsL (startL (linesM bs T e))).length ≤ bs.length := ints_len l.inv.vals fun x hx => ⟨(l.lea x hx).1, (l.lea x hx).2.1⟩
  have hvl : (valsL (startL (linesM bs T e) ++ singles (lateL bs e d))).length ≤ 24 := by
    rw [vals_app, vals_singles, List.length_append]
    omega
  have hl := len_vals (m := startL (linesM bs T e) ++ singles (lateL bs e d)) fun x hx => (a.line x hx).1
  rw [getD_of hT]
  refine ⟨(keys_perm p).nodup_iff.mpr a.nod, ⟨fun g hg => ⟨(fit.grp g hg).1, fun x hx => (keys_perm p).mem_iff.mpr ?_⟩, fit.nod⟩, ?_, ?_, b2⟩
  · rw [keys_app]
    exact List.mem_append_left _ ((fit.grp g hg).2 x hx)
  · have e9 : (valsL (runRows (singles (bornL bs d)) (T.take e))).length = (valsL (startL (linesM bs T e) ++ singles (lateL bs e d))).length := (p.flatMap_right Prod.snd).length_eq
    omega
  · rw [p.length_eq]
    omega
theorem grp_short {m : AL} {row : List (List Int)} (f : RowsFit m row) {i : Nat} {g : List Int} (h : row[i]? = some g) : (g.flatMap (look (runRow m (row.take i)))).length ≤ 24 := by
  have hi : i < row.length := (List.getElem?_eq_some_iff.mp h).1
  obtain ⟨gn, gk⟩ := fit_at f.nod f.fit h
  have h1 := ((step_vals (run_keys f.nod f.fit i (by omega)).1 gn gk).trans (run_vals f.nod f.fit i (by omega))).length_eq
  have h2 := f.vals
  unfold valsL at h1 h2
  unfold stepG at h1
  rw [List.flatMap_append, List.flatMap_cons, List.flatMap_nil, List.append_nil, List.length_append, (upI_perm _).length_eq] at h1
  omega
end DL
set_option Elab.async false
set_option linter.all false
set_option maxRecDepth 100000
set_option maxHeartbeats 2000000
/-! trees that are drawn: who is alive, as the law reckons it -/
namespace DL
open PySem PySem.Spec PyProof.Rows L2 RZ
/-- all who are gone by moment d -/
def goneT (T : List (List (List Int))) (d : Nat) : List Int := (T.take d).flatMap goneL
def namesM (bs : List Int) (T : List (List (List Int))) (d : Nat) : List Int := ((List.range bs.length).filter fun i => decide (bs.getD i 0 ≤ (d : Int)) && !(goneT T d).contains (i : Int)).map fun (i : Nat) => (i : Int)
/-- rows that are right so far -/
def RowsOk (bs : List Int) (ds : List (List Int)) (T : List (List (List Int))) : Prop := ∀ (d : Nat) (p : List Int) (r : List (List Int)), ds[d]? = some p → T[d]? = some r → RowOk (namesAt bs T d) p r
theorem names_app (bs : List Int) (T : List (List (List Int))) (r : List (List Int)) : ∀ d : Nat, d ≤ T.length → namesAt bs (T ++ [r]) d = namesAt bs T d
  | 0, _ => rfl
  | d + 1, hd => by
    have ih := names_app bs T r d (by omega)
    simp only [namesAt]
    rw [ih, List.getD_eq_getElem?_getD, List.getD_eq_getElem?_getD, List.getElem?_append_left (by omega)]
theorem RowsOk.app {bs : List Int} {ds : List (List Int)} {T : List (List (List Int))} {p : List Int} {r : List (List Int)} (h : RowsOk bs ds T) (hp : ds[T.length]? = some p) (hr : RowOk (namesAt bs T T.length) p r) : RowsOk bs ds (T ++ [r]) := by
  intro d q s h1 h2
  by_cases hd : d < T.length
  · rw [List.getElem?_append_left hd] at h2
    rw [names_app bs T r d (by omega)]
    exact h d q s h1 h2
  · have e : d = T.length := by
      have := (List.getElem?_eq_some_iff.mp h2).1
      simp at this
      omega
    subst e
    rw [hp] at h1
    cases h1
    simp at h2
    subst h2
    rw [names_app bs T r _ (Nat.le_refl _)]
    exact hr
theorem gone_next {T : List (List (List Int))} {d : Nat} {r : List (List Int)} (h : T[d]? = some r) : goneT T (d + 1) = goneT T d ++ goneL r := take_flatMap h
theorem namesM_mem {bs : List Int} {T : List (List (List Int))} {d : Nat} {x : Int} : x ∈ namesM bs T d ↔ 0 ≤ x ∧ x.toNat < bs.length ∧ bs.getD x.toNat 0 ≤ (d : Int) ∧ x ∉ goneT T d := by
  unfold namesM
  rw [List.mem_map]
  constructor
  · rintro ⟨i, hi, rfl⟩
    rw [List.mem_filter, List.mem_range] at hi
    obtain ⟨h1, h2⟩ := hi
    rw [Bool.and_eq_true] at h2
    refine ⟨by omega, by simpa using h1, by simpa using h2.1, ?_⟩
    have := h2.2
    simpa using this
  · rintro ⟨h0, h1, h2, h3⟩
    refine ⟨x.toNat, List.mem_filter.mpr ⟨List.mem_range.mpr h1, ?_⟩, by omega⟩
    rw [Bool.and_eq_true]
    have e : ((x.toNat : Nat) : Int) = x := by omega
    rw [e]
    exact ⟨by simpa using h2, by simpa using h3⟩
section
variable {bs : List Int} {ds : List (List Int)} {T : List (List (List Int))}
/-- who has gone was a name, born by then -/
theorem names_mem (hb : ∀ b ∈ bs, 0 ≤ b) (h : RowsOk bs ds T) (hl : T.length ≤ ds.length) : ∀ d : Nat, d ≤ T.length → (∀ x, x ∈ namesAt bs T d ↔ x ∈ namesM bs T d) ∧ ∀ x ∈ goneT T d, bs.getD x.toNat 0 < (d : Int)
  | 0, _ => by
    refine ⟨fun x => ?_, fun x hx => by cases hx⟩
    show x ∈ newbornL bs 0 ↔ _
    rw [newborn_mem, namesM_mem]
    constructor
    · rintro ⟨h0, h1, h2⟩
      exact ⟨h0, h1, by omega, fun z => by cases z⟩
    · rintro ⟨h0, h1, h2, _⟩
      have hm : bs.getD x.toNat 0 ∈ bs := by
        rw [List.getD_eq_getElem?_getD, List.getElem?_eq_getElem h1]
        exact List.getElem_mem _
      have := hb _ hm
      exact ⟨h0, h1, by omega⟩
  | d + 1, hd => by
    obtain ⟨i1, i2⟩ := names_mem hb h hl d (by omega)
    have hT : T[d]? = some T[d] := by simp
    have hds : ds[d]? = some (ds[d]'(by omega)) := by simp
    have hok := h d _ _ hds hT
    have hg : ∀ x ∈ goneL T[d], x ∈ namesAt bs T d := by
      intro x hx
      obtain ⟨g, hg, hxg⟩ := List.mem_flatMap.mp hx
      exact (hok.grp g hg).1 x (List.mem_of_mem_tail hxg)
    have hgb : ∀ x ∈ goneT T (d + 1), bs.getD x.toNat 0 < ((d + 1 : Nat) : Int) := by
      intro x hx
      rw [gone_next hT, List.mem_append] at hx
      rcases hx with hx | hx
      · have := i2 x hx
        omega
      · have := (namesM_mem.mp ((i1 x).mp (hg x hx))).2.2.1
        omega
    refine ⟨fun x => ?_, hgb⟩
    have e2 : namesAt bs T (d + 1) = nextNames bs d (namesAt bs T d) T[d] := by
      simp only [namesAt]
      rw [getD_of hT]
    rw [e2, next_mem, i1, namesM_mem, namesM_mem, newborn_mem, gone_next hT, List.mem_append, not_or]
    constructor
    · rintro (⟨⟨a1, a2, a3, a4⟩, a5⟩ | ⟨a1, a2, a3⟩)
      · exact ⟨a1, a2, by omega, a4, a5⟩
      · refine ⟨a1, a2, by omega, fun z => ?_, fun z => ?_⟩
        · have := i2 x z
          omega
        · have := (namesM_mem.mp ((i1 x).mp (hg x z))).2.2.1
          omega
    · rintro ⟨a1, a2, a3, a4, a5⟩
      by_cases hx : bs.getD x.toNat 0 ≤ (d : Int)
      · exact .inl ⟨⟨a1, a2, hx, a4⟩, a5⟩
      · exact .inr ⟨a1, a2, by omega⟩
end
end DL
set_option Elab.async false
set_option linter.all false
set_option maxRecDepth 100000
set_option maxHeartbeats 2000000
/-! as many names as lines are alive -/
namespace DL
open PySem PySem.Spec PyProof.Rows L2 RZ
theorem new_count (bs : List Int) (d : Int) : (newbornL bs d).length = bs.count d := by
  unfold newbornL
  rw [List.length_map, List.count_eq_length_filter]
  have h := range_getD bs 0
  conv => rhs; rw [← h, List.filter_map, List.length_map]
  rfl
theorem filt_out {names g : List Int} (hn : names.Nodup) (gn : g.Nodup) (hs : ∀ x ∈ g, x ∈ names) : (names.filter fun x => !g.contains x).length + g.length = names.length := by
  have h1 := (List.filter_append_perm (fun x : Int => !g.contains x) names).length_eq
  rw [List.length_append] at h1
  have n1 : (names.filter fun x => !(!g.contains x)).Nodup := List.Pairwise.filter _ hn
  have h2 : (names.filter fun x => !(!g.contains x)).Perm g := by
    rw [List.perm_ext_iff_of_nodup n1 gn]
    intro x
    rw [List.mem_filter]
    constructor
    · rintro ⟨_, h⟩
      simpa using h
    · intro h
      exact ⟨hs x h, by simpa using h⟩
  rw [h2.length_eq] at h1
  exact h1
theorem gone_len : ∀ {r : List (List Int)}, (∀ g ∈ r, g ≠ []) → (goneL r).length + r.length = r.flatten.length
  | [], _ => rfl
  | g :: r, h => by
    have ih := gone_len (r := r) fun x hx => h x (List.mem_cons_of_mem _ hx)
    have h1 := List.length_pos_iff.mpr (h g List.mem_cons_self)
    unfold goneL at ih ⊢
    rw [List.flatMap_cons, List.length_append, List.flatten_cons, List.length_append, List.length_tail, List.length_cons]
    omega
theorem gone_nodup {r : List (List Int)} (h : r.flatten.Nodup) : (goneL r).Nodup := by
  induction r with
  | nil => exact .nil
  | cons g t ih =>
    rw [List.flatten_cons, List.nodup_append] at h
    unfold goneL at ih ⊢
    rw [List.flatMap_cons, List.nodup_append]
    refine ⟨h.1.sublist (List.tail_sublist g), ih h.2.1, fun x hx y hy => h.2.2 x (List.mem_of_mem_tail hx) y ?_⟩
    exact gone_sub (rs := t) hy
section
variable {bs : List Int} {ds : List (List Int)} {T : List (List (List Int))}
theorem names_count (ok : CalOk bs ds) (h : RowsOk bs ds T) (hl : T.length ≤ ds.length) : ∀ d : Nat, d ≤ T.length → (namesAt bs T d).Nodup ∧ ((namesAt bs T d).length : Int) = aliveAt bs ds d
  | 0, _ => by
    refine ⟨newborn_nodup bs 0, ?_⟩
    show ((newbornL bs 0).length : Int) = _
    rw [new_count, ← kAt_count]
    have h0 : bs.filter (fun b => decide (b < ((0 : Nat) : Int))) = [] := by
      rw [List.filter_eq_nil_iff]
      intro x hx
      have := (ok.born x hx).1
      simp
      omega
    unfold kAt bornB
    rw [h0]
    simp
  | d + 1, hd => by
    obtain ⟨i1, i2⟩ := names_count ok h hl d (by omega)
    obtain ⟨m1, _⟩ := names_mem (fun b hb => (ok.born b hb).1) h hl d (by omega)
    have hT : T[d]? = some T[d] := by simp
    have hds : ds[d]? = some (ds[d]'(by omega)) := by simp
    have hok := h d _ _ hds hT
    have hp := patB_ge (ok.pat _ (List.getElem_mem (show d < ds.length by omega))).1
    have hg : ∀ x ∈ goneL T[d], x ∈ namesAt bs T d := by
      intro x hx
      obtain ⟨g, hg, hxg⟩ := List.mem_flatMap.mp hx
      exact (hok.grp g hg).1 x (List.mem_of_mem_tail hxg)
    have hne : ∀ g ∈ T[d], g ≠ [] := by
      intro g hg e
      have h1 : ((g.length : Nat) : Int) ∈ T[d].map fun g => (g.length : Int) := List.mem_map_of_mem hg
      have h2 := hp _ (hok.siz.mem_iff.mp h1)
      rw [e] at h2
      simp at h2
    have e2 : namesAt bs T (d + 1) = nextNames bs d (namesAt bs T d) T[d] := by
      simp only [namesAt]
      rw [getD_of hT]
    have c1 := filt_out i1 (gone_nodup hok.nod) hg
    have c2 := gone_len hne
    have c3 := flat_sum T[d]
    rw [sum_perm hok.siz] at c3
    have c4 := hok.siz.length_eq
    rw [List.length_map] at c4
    have c5 := kAt_less (bs := bs) hds
    have c6 := kAt_count bs ds (d + 1)
    have c7 := new_count bs (((d + 1 : Nat)) : Int)
    rw [e2]
    unfold nextNames
    have e3 : ((d : Int) + 1) = ((d + 1 : Nat) : Int) := by omega
    rw [e3]
    constructor
    · rw [(upI_perm _).nodup_iff, List.nodup_append]
      refine ⟨List.Pairwise.filter _ i1, newborn_nodup _ _, fun x hx y hy e => ?_⟩
      have h1 := (namesM_mem.mp ((m1 x).mp (List.mem_filter.mp hx).1)).2.2.1
      have h2 := (newborn_mem.mp hy).2.2
      rw [← e] at h2
      omega
    · rw [(upI_perm _).length_eq, List.length_append, c7]
      unfold lessI at c5
      omega
end
end DL
set_option Elab.async false
set_option linter.all false
set_option maxRecDepth 100000
set_option maxHeartbeats 2000000
/-! list.pop(i) within a comprehension: K told -/
namespace DL
open PySem PySem.Spec PyProof.Rows L2 RZ
theorem seqIx {k n : Nat} (h : k < n) : seqIndex? ((k : Nat) : Int) n = some k := by
  unfold seqIndex?
  have e : (if ((k : Nat) : Int) < 0 then ((k : Nat) : Int) + (n : Nat) else ((k : Nat) : Int)) = ((k : Nat) : Int) := if_neg (by omega)
  simp only [e]
  simp
  omega
section
variable {X : Cx} {o e : Expr} {es : List Expr} {to : TE} {t : TA} {name : Str} {apos cpos : Pos} {T id : String} {r : V → List V → Hp → VK → Prop}
theorem pe_bmK (K : PySem.W.Frag) (hK : X.K = K) (pa : PlainAttrs T) (slot : Slot T name id) (hty : typeOf (.builtin id) = pure (.type "method_descriptor")) (hm : MtR X id r) (ho : PE X o to) (ha : PA X (e :: es) t) (hbase : attributeBase o name X.env (eval o X.env) = eval o X.env := by rfl)
    (hfew : ((backTo cpos (starEach (e :: es) X.env)).all (fun x => !x.1) && (backToKw cpos (keywordEach [] X.env)).all (fun x => x.1.isSome) && decide ((e :: es).length + ([] : List Keyword).length + (if ([] : List Keyword).isEmpty then 0 else 1) < 30)) = true := by rfl)
    (hline : (apos.endLine == cpos.line) = true := by rfl) (hs : starEach (e :: es) X.env = (false, eval e X.env) :: starEach es X.env := by rfl)
    (hplain : (backTo cpos (starEach es X.env)).any (·.1) = false := by rfl) : PE X (.Call (.Attribute o name apos) (e :: es) [] cpos) (tBM K T r to t) := by
  subst hK
  exact pe_bm pa slot hty hm ho ha hbase hfew hline hs hplain
end
end DL
set_option Elab.async false
set_option linter.all false
set_option maxRecDepth 100000
set_option maxHeartbeats 2000000
/-! a drawn row is a right one -/
namespace DL
open PySem PySem.Spec PyProof.Rows L2 RZ
theorem zip_adj {α : Type} {R : α → α → Prop} : ∀ {l : List α}, l.Pairwise R → ∀ p ∈ l.zip (l.drop 1), R p.1 p.2
  | [], _, p, h => by simp at h
  | [x], _, p, h => by simp at h
  | x :: y :: r, hl, p, h => by
    rw [List.pairwise_cons] at hl
    simp only [List.drop_succ_cons, List.drop_zero, List.zip_cons_cons, List.mem_cons] at h
    rcases h with rfl | h
    · exact hl.1 y List.mem_cons_self
    · refine zip_adj (l := y :: r) hl.2 p ?_
      simpa using h
theorem asc_risB {ns : List Int} (h : ns.Pairwise (· < ·)) : risB ns = true := by
  unfold risB
  rw [List.all_eq_true]
  intro x hx
  obtain ⟨p, hp, rfl⟩ := List.mem_map.mp hx
  exact decide_eq_true (zip_adj h p hp)
theorem rows_ris {rs : List (List Int)} (hn : rs.Nodup) : risR (upR rs) = true := by
  have hs : (upR rs).Pairwise fun a b => lstLe a b = true := by
    unfold upR
    refine List.pairwise_mergeSort (fun a b c h1 h2 => ?_) (fun a b => ?_) rs
    · simp only [lstLe, decide_eq_true_eq] at h1 h2 ⊢
      exact List.le_trans h1 h2
    · simp only [lstLe, Bool.or_eq_true, decide_eq_true_eq]
      exact List.le_total a b
  have hn2 : (upR rs).Pairwise (· ≠ ·) := (List.mergeSort_perm rs lstLe).nodup_iff.mpr hn
  have h3 : (upR rs).Pairwise fun a b => HT.lexLt a b = true := by
    refine (hs.and hn2).imp fun {a b} h => ?_
    obtain ⟨h1, h2⟩ := h
    rw [lexLt_lt]
    simp only [lstLe, decide_eq_true_eq] at h1 ⊢
    rcases List.le_iff_lt_or_eq.mp h1 with h | h
    · exact h
    · exact absurd h h2
  unfold risR
  rw [List.all_eq_true]
  intro x hx
  obtain ⟨p, hp, rfl⟩ := List.mem_map.mp hx
  exact zip_adj h3 p hp
theorem drawn_row {names p : List Int} {gs : List (List Int)} {left : List Int} (hn : names.Nodup) (hp : ((gs.flatten) ++ left).Perm names) (ha : ∀ g ∈ gs, g.Pairwise (· < ·)) (hs : gs.map (fun g => (g.length : Int)) = p) (h2 : ∀ s ∈ p, 2 ≤ s) : RowOk names p (upR gs) := by
  have pu : (upR gs).Perm gs := List.mergeSort_perm _ _
  have hfl : gs.flatten.Nodup := (List.nodup_append.mp (hp.nodup_iff.mpr hn)).1
  have hgn : gs.Nodup := by
    have hne : ∀ g ∈ gs, g ≠ [] := by
      intro g hg e
      have h1 : ((g.length : Nat) : Int) ∈ gs.map fun g => (g.length : Int) := List.mem_map_of_mem hg
      rw [hs] at h1
      have := h2 _ h1
      rw [e] at this
      simp at this
    clear hs hp ha pu
    induction gs with
    | nil => exact .nil
    | cons g r ih =>
      rw [List.flatten_cons, List.nodup_append] at hfl
      rw [List.nodup_cons]
      refine ⟨fun hm => ?_, ih hfl.2.1 fun x hx => hne x (List.mem_cons_of_mem _ hx)⟩
      cases e : g with
      | nil => exact hne g List.mem_cons_self e
      | cons x t =>
        have h1 : x ∈ g := by rw [e]; exact List.mem_cons_self
        exact hfl.2.2 x h1 x (List.mem_flatten.mpr ⟨g, hm, h1⟩) rfl
  refine ⟨fun g hg => ⟨fun x hx => ?_, asc_risB (ha g (pu.mem_iff.mp hg))⟩, ?_, rows_ris hgn, (pu.flatten).nodup_iff.mpr hfl⟩
  · exact hp.mem_iff.mp (List.mem_append_left _ (List.mem_flatten.mpr ⟨g, pu.mem_iff.mp hg, hx⟩))
  · rw [← hs]
    exact pu.map _
end DL
set_option Elab.async false
set_option linter.all false
set_option maxRecDepth 100000
set_option maxHeartbeats 2000000
/-! the law's drawing of a tree: names that are popped off -/
namespace DL
open PySem PySem.Spec PyProof.Rows L2 RZ
theorem namesM_nodup (bs : List Int) (T : List (List (List Int))) (d : Nat) : (namesM bs T d).Nodup := by
  unfold namesM
  have h0 : ((List.range bs.length).filter fun i => decide (bs.getD i 0 ≤ (d : Int)) && !(goneT T d).contains (i : Int)).Pairwise (· ≠ ·) := List.Pairwise.filter _ List.nodup_range
  refine List.Pairwise.map (R := fun a b : Nat => a ≠ b) _ (fun a b h e => ?_) h0
  have e' : (a : Int) = (b : Int) := e
  omega
section
variable {bs : List Int} {ds : List (List Int)} {T : List (List (List Int))}
theorem namesM_perm (ok : CalOk bs ds) (h : RowsOk bs ds T) (hl : T.length ≤ ds.length) (d : Nat) (hd : d ≤ T.length) : (namesM bs T d).Perm (namesAt bs T d) :=
  (List.perm_ext_iff_of_nodup (namesM_nodup bs T d) (names_count ok h hl d hd).1).mpr fun x => ((names_mem (fun b hb => (ok.born b hb).1) h hl d hd).1 x).symm
theorem gone_bd (ok : CalOk bs ds) (h : RowsOk bs ds T) (hl : T.length ≤ ds.length) : ∀ d : Nat, d ≤ T.length → (goneT T d).length ≤ 12 * d
  | 0, _ => Nat.zero_le _
  | d + 1, hd => by
    have ih := gone_bd ok h hl d (by omega)
    have hT : T[d]? = some T[d] := by simp
    have hds : ds[d]? = some (ds[d]'(by omega)) := by simp
    obtain ⟨b1, b2⟩ := row_bd ok hds (h d _ _ hds hT)
    have h1 : (goneL T[d]).length ≤ T[d].flatten.length := by
      generalize T[d] = r
      induction r with
      | nil => exact Nat.le_refl _
      | cons g t ih =>
        unfold goneL at ih ⊢
        rw [List.flatMap_cons, List.length_append, List.flatten_cons, List.length_append, List.length_tail]
        omega
    rw [gone_next hT, List.length_append]
    omega
end
/-- groups that were drawn off the names, and what is left -/
structure Drw (names p : List Int) (k : Nat) (gs : List (List Int)) (left : List Int) : Prop where
  per : (gs.flatten ++ left).Perm names
  asc : ∀ g ∈ gs, g.Pairwise (· < ·)
  siz : gs.map (fun g => (g.length : Int)) = p.take k
theorem Drw.room {names p : List Int} {k : Nat} {gs : List (List Int)} {left : List Int} (h : Drw names p k gs left) (hf : p.sum ≤ (names.length : Int)) (h2 : ∀ s ∈ p, 2 ≤ s) {s : Int} (hs : p[k]? = some s) : s ≤ (left.length : Int) := by
  have h1 := h.per.length_eq
  rw [List.length_append] at h1
  have h3 := flat_sum gs
  rw [h.siz] at h3
  have e : p = p.take k ++ s :: p.drop (k + 1) := by
    have hk := (List.getElem?_eq_some_iff.mp hs).1
    have e1 := List.drop_eq_getElem_cons hk
    have e2 : p[k] = s := (List.getElem?_eq_some_iff.mp hs).2
    rw [e2] at e1
    rw [← e1, List.take_append_drop]
  have h4 : p.sum = (p.take k).sum + (s + (p.drop (k + 1)).sum) := by
    conv => lhs; rw [e]
    rw [List.sum_append, List.sum_cons]
  have h5 : 0 ≤ (p.drop (k + 1)).sum := by
    have hz : ∀ l : List Int, (∀ x ∈ l, 2 ≤ x) → 0 ≤ l.sum := by
      intro l
      induction l with
      | nil => intro _; exact Int.le_refl _
      | cons y t ih =>
        intro hy
        rw [List.sum_cons]
        have := hy y List.mem_cons_self
        have := ih fun x hx => hy x (List.mem_cons_of_mem _ hx)
        omega
    exact hz _ fun x hx => h2 x (List.mem_of_mem_drop hx)
  omega
theorem pop_perm {G cur left names : List Int} {i : Nat} {v : Int} (h : (G ++ (cur ++ left)).Perm names) (hv : left[i]? = some v) : (G ++ ((cur ++ [v]) ++ left.eraseIdx i)).Perm names := by
  have hi := (List.getElem?_eq_some_iff.mp hv).1
  have e2 : left[i] = v := (List.getElem?_eq_some_iff.mp hv).2
  have p : (v :: left.eraseIdx i).Perm left := by
    rw [List.eraseIdx_eq_take_drop_succ]
    have e3 : left = left.take i ++ v :: left.drop (i + 1) := by
      have e4 := List.drop_eq_getElem_cons hi
      rw [e2] at e4
      rw [← e4, List.take_append_drop]
    conv => rhs; rw [e3]
    exact List.perm_middle.symm
  refine List.Perm.trans (List.Perm.append_left G ?_) h
  rw [List.append_assoc]
  exact List.Perm.append_left cur p
theorem Drw.close {names p : List Int} {k : Nat} {gs : List (List Int)} {cur left : List Int} {s : Int} (hn : names.Nodup) (h : gs.map (fun g => (g.length : Int)) = p.take k) (ha : ∀ g ∈ gs, g.Pairwise (· < ·)) (hs : p[k]? = some s) (hc : (cur.length : Int) = s) (hp : (gs.flatten ++ (cur ++ left)).Perm names) : Drw names p (k + 1) (gs ++ [upI cur]) left := by
  have hcn : cur.Nodup := by
    have h1 := hp.nodup_iff.mpr hn
    exact (List.nodup_append.mp (List.nodup_append.mp h1).2.1).1
  refine ⟨?_, fun g hg => ?_, ?_⟩
  · rw [List.flatten_append, List.append_assoc]
    refine List.Perm.trans (List.Perm.append_left _ ?_) hp
    simp only [List.flatten_cons, List.flatten_nil, List.append_nil]
    exact (upI_perm cur).append_right left
  · rcases List.mem_append.mp hg with h1 | h1
    · exact ha g h1
    · simp at h1
      subst h1
      exact asc_lt (upI_asc cur) ((upI_perm cur).nodup_iff.mpr hcn)
  · rw [List.map_append, h, List.take_add_one, hs]
    simp [(upI_perm cur).length_eq, hc]
theorem Drw.done {names p : List Int} {gs : List (List Int)} {left : List Int} (hn : names.Nodup) (h : Drw names p p.length gs left) (h2 : ∀ s ∈ p, 2 ≤ s) : RowOk names p (upR gs) :=
  drawn_row hn h.per h.asc (by rw [h.siz, List.take_length]) h2
end DL
set_option Elab.async false
set_option linter.all false
set_option maxRecDepth 100000
set_option maxHeartbeats 2000000
/-! a calendar that is drawn birth by birth -/
namespace DL
open PySem PySem.Spec PyProof.Rows L2 RZ
structure DrawnB (B : List Int) (ds : List (List Int)) : Prop where
  bd : ∀ b ∈ B, 0 ≤ b ∧ b ≤ (ds.length : Int)
  pat : ∀ p ∈ ds, patB p = true ∧ p ≠ [] ∧ p.length ≤ 1000
  fit : ∀ (i : Nat) (p : List Int), ds[i]? = some p → p.sum ≤ aliveAt B ds i
def aliveB (B : List Int) (ds : List (List Int)) : Int := (B.length : Int) - (ds.map lessI).sum
theorem DrawnB.nil : DrawnB [] [] := ⟨(fun b h => nomatch h), (fun p h => nomatch h), (fun i p h => nomatch h)⟩
theorem DrawnB.add {B : List Int} {ds : List (List Int)} (h : DrawnB B ds) (k : Nat) : DrawnB (B ++ List.replicate k (ds.length : Int)) ds := by
  refine ⟨fun b hb => ?_, h.pat, fun i p hp => ?_⟩
  · rcases List.mem_append.mp hb with h1 | h1
    · exact h.bd b h1
    · have := List.eq_of_mem_replicate h1
      omega
  · have h1 := h.fit i p hp
    unfold aliveAt at h1 ⊢
    rw [List.filter_append, List.length_append]
    omega
theorem DrawnB.push {B : List Int} {ds : List (List Int)} {p : List Int} (h : DrawnB B ds) (hp : patB p = true) (hn : p ≠ []) (hl : p.length ≤ 1000) (hs : p.sum ≤ aliveB B ds) : DrawnB B (ds ++ [p]) := by
  refine ⟨fun b hb => ?_, fun q hq => ?_, fun i q hq => ?_⟩
  · have := h.bd b hb
    rw [List.length_append]
    simp
    omega
  · rcases List.mem_append.mp hq with h1 | h1
    · exact h.pat q h1
    · simp at h1
      subst h1
      exact ⟨hp, hn, hl⟩
  · by_cases hi : i < ds.length
    · rw [List.getElem?_append_left hi] at hq
      have h1 := h.fit i q hq
      unfold aliveAt at h1 ⊢
      rw [List.take_append_of_le_length (by omega)]
      exact h1
    · have e : i = ds.length := by
        have := (List.getElem?_eq_some_iff.mp hq).1
        simp at this
        omega
      subst e
      simp at hq
      subst hq
      unfold aliveB at hs
      unfold aliveAt
      have e2 : B.filter (fun b => decide (b ≤ (ds.length : Int))) = B := List.filter_eq_self.mpr fun b hb => decide_eq_true (h.bd b hb).2
      rw [e2, List.take_append_of_le_length (Nat.le_refl _), List.take_length]
      exact hs
theorem aliveB_push (B : List Int) (ds : List (List Int)) (p : List Int) : aliveB B (ds ++ [p]) = aliveB B ds - p.sum + (p.length : Int) := by
  unfold aliveB lessI
  rw [List.map_append, List.sum_append]
  simp
  omega
theorem aliveB_add (B : List Int) (ds : List (List Int)) (k : Nat) (x : Int) : aliveB (B ++ List.replicate k x) ds = aliveB B ds + (k : Int) := by
  unfold aliveB
  rw [List.length_append, List.length_replicate]
  omega
theorem less_nn : ∀ {ds : List (List Int)}, (∀ p ∈ ds, patB p = true) → 0 ≤ (ds.map lessI).sum
  | [], _ => Int.le_refl _
  | p :: r, h => by
    have ih := less_nn (ds := r) fun q hq => h q (List.mem_cons_of_mem _ hq)
    have h1 := len_le_sum (patB_ge (h p List.mem_cons_self))
    rw [List.map_cons, List.sum_cons]
    unfold lessI at ih ⊢
    have h2 : 0 ≤ (p.length : Int) := by omega
    omega
theorem DrawnB.cal {B bs : List Int} {ds : List (List Int)} (h : DrawnB B ds) (hp : bs.Perm B) (h1 : 1 ≤ bs.length) (h12 : bs.length ≤ 12) (h11 : ds.length ≤ 11) : CalOk bs ds := by
  refine ⟨h1, h12, h11, h.pat, fun b hb => h.bd b (hp.mem_iff.mp hb), fun i p hi => ?_⟩
  have h2 := h.fit i p hi
  unfold aliveAt at h2 ⊢
  rw [(hp.filter _).length_eq]
  exact h2
end DL
set_option Elab.async false
set_option linter.all false
set_option maxRecDepth 100000
set_option maxHeartbeats 2000000
/-! max and min of a tuple; data made of tuples, kept through changes of lists; equality of data with itself -/
namespace DL
open PySem PySem.Spec PyProof.Rows L2 RZ
section
variable {X : Cx}
theorem alike_ints (ns : List Int) : PySem.W.AlikeAll (ns.map PyData.int) := by
  refine ⟨fun x hx y hy => ?_, fun x hx => ?_⟩
  · obtain ⟨a, _, rfl⟩ := List.mem_map.mp hx
    obtain ⟨b, _, rfl⟩ := List.mem_map.mp hy
    rfl
  · obtain ⟨a, _, rfl⟩ := List.mem_map.mp hx
    exact fun z => nomatch z
/-- the greatest of some numbers, 0 of none -/
def maxL : List Int → Int
  | [] => 0
  | n :: r => r.foldl max n
def minL : List Int → Int
  | [] => 0
  | n :: r => r.foldl min n
theorem foldmax_ge : ∀ (r : List Int) (n : Int), n ≤ r.foldl max n ∧ (∀ x ∈ r, x ≤ r.foldl max n) ∧ (r.foldl max n = n ∨ r.foldl max n ∈ r)
  | [], n => ⟨Int.le_refl _, (fun x h => nomatch h), .inl rfl⟩
  | k :: r, n => by
    obtain ⟨h1, h2, h3⟩ := foldmax_ge r (max n k)
    rw [List.foldl_cons]
    refine ⟨by omega, fun x hx => ?_, ?_⟩
    · rcases List.mem_cons.mp hx with rfl | hx
      · omega
      · exact h2 x hx
    · rcases h3 with h3 | h3
      · rw [h3]
        by_cases hk : n ≤ k
        · exact .inr (by rw [Int.max_eq_right hk]; exact List.mem_cons_self)
        · exact .inl (Int.max_eq_left (by omega))
      · exact .inr (List.mem_cons_of_mem _ h3)
theorem maxL_ge {ns : List Int} {x : Int} (h : x ∈ ns) : x ≤ maxL ns := by
  cases ns with
  | nil => exact nomatch h
  | cons n r =>
    obtain ⟨h1, h2, _⟩ := foldmax_ge r n
    rcases List.mem_cons.mp h with rfl | h
    · exact h1
    · exact h2 x h
theorem maxL_mem {ns : List Int} (h : ns ≠ []) : maxL ns ∈ ns := by
  cases ns with
  | nil => exact absurd rfl h
  | cons n r =>
    obtain ⟨_, _, h3⟩ := foldmax_ge r n
    rcases h3 with h3 | h3
    · show r.foldl max n ∈ _
      rw [h3]
      exact List.mem_cons_self
    · exact List.mem_cons_of_mem _ h3
/-- max(t) of a tuple of ints -/
def rMaxT (K : PySem.W.Frag) : List V → Hp → VK → Prop := fun vs H Q => ∃ (a : Addr) (ns : List Int), vs = [V.ref a] ∧ SqT K H a (ns.map V.int) ∧ ns ≠ [] ∧ Q (.int (maxL ns)) H
theorem cr_maxT (K : PySem.W.Frag) (hK : X.K = K) (hc : X.calm = true) (hu : X.A.units + 64 < cLine) : CallR X (.builtin "max") (rMaxT K) := by
  intro pins s σ H vs us Q I r h
  subst hK
  obtain ⟨a, ns, rfl, hs, hne, q⟩ := h
  obtain ⟨its, rv, hl, _⟩ := I.tuple hs
  rw [Vals.ref1 r]
  obtain ⟨as, hr⟩ := Dp.readsAll I (ns.map PyData.int) (ns.map V.int) its (dp_all ns) rv
  cases ns with
  | nil => exact absurd rfl hne
  | cons n rs =>
    refine PySem.W.max_tuple_data (x := .int n) (xs := rs.map PyData.int) (I.ok.hd hc) hl (by simpa using hr) (alike_ints (n :: rs)) ?_ fun i v h' tk bs hv hrd hk => ?_
    · have := depth_ints (n :: rs)
      rw [show PyData.int n :: rs.map PyData.int = (n :: rs).map PyData.int from rfl, this]
      omega
    · rw [PySem.W.maxD_ints] at hrd
      cases hrd
      exact ⟨.int _, H, I.kept hk, ⟨_, rfl⟩, q⟩
end
/-! data of tuples -/
mutual
inductive TD (H : Hp) : V → PyData → Prop
  | non : TD H .non .none
  | bl (b : Bool) : TD H (.bl b) (.bool b)
  | int (i : Int) : TD H (.int i) (.int i)
  | str (x : Str) : TD H (.str x) (.str x)
  | tup {a : Addr} {xs : List V} {ds : List PyData} : TupD H a xs → TDs H xs ds → TD H (.ref a) (.tuple ds)
inductive TDs (H : Hp) : List V → List PyData → Prop
  | nil : TDs H [] []
  | cons {v : V} {vs : List V} {d : PyData} {ds : List PyData} : TD H v d → TDs H vs ds → TDs H (v :: vs) (d :: ds)
end
mutual
theorem TD.map {H H' : Hp} (f : ∀ a xs, TupD H a xs → TupD H' a xs) : ∀ (d : PyData) (v : V), TD H v d → TD H' v d
  | .none, _, h => by cases h; exact .non
  | .bool b, _, h => by cases h; exact .bl b
  | .int i, _, h => by cases h; exact .int i
  | .str x, _, h => by cases h; exact .str x
  | .list _, _, h => by cases h
  | .dict _, _, h => by cases h
  | .tuple ds, _, h => by
    cases h with
    | tup h1 h2 => exact .tup (f _ _ h1) (TDs.map f ds _ h2)
theorem TDs.map {H H' : Hp} (f : ∀ a xs, TupD H a xs → TupD H' a xs) : ∀ (ds : List PyData) (vs : List V), TDs H vs ds → TDs H' vs ds
  | [], _, h => by cases h; exact .nil
  | d :: ds, _, h => by
    cases h with
    | cons h1 h2 => exact .cons (TD.map f d _ h1) (TDs.map f ds _ h2)
end
theorem TD.same {H H' : Hp} {v : V} {d : PyData} (h : TD H v d) (s : Same H H') : TD H' v d := TD.map (fun _ _ e => e.same s) d v h
theorem TD.tk {H H' : Hp} {v : V} {d : PyData} (h : TD H v d) (s : TK H H') : TD H' v d := TD.map (fun _ _ e => e.tk s) d v h
theorem TDs.same {H H' : Hp} {v : List V} {d : List PyData} (h : TDs H v d) (s : Same H H') : TDs H' v d := TDs.map (fun _ _ e => e.same s) d v h
theorem TDs.tk {H H' : Hp} {v : List V} {d : List PyData} (h : TDs H v d) (s : TK H H') : TDs H' v d := TDs.map (fun _ _ e => e.tk s) d v h
mutual
theorem TD.dp {K : PySem.W.Frag} {H : Hp} : ∀ (d : PyData) (v : V), TD H v d → Dp K H v d
  | .none, _, h => by cases h; exact .non
  | .bool b, _, h => by cases h; exact .bl b
  | .int i, _, h => by cases h; exact .int i
  | .str x, _, h => by cases h; exact .str x
  | .list _, _, h => by cases h
  | .dict _, _, h => by cases h
  | .tuple ds, _, h => by
    cases h with
    | tup h1 h2 => exact .tup h1.sq (TDs.dp ds _ h2)
theorem TDs.dp {K : PySem.W.Frag} {H : Hp} : ∀ (ds : List PyData) (vs : List V), TDs H vs ds → DpAll K H vs ds
  | [], _, h => by cases h; exact .nil
  | d :: ds, _, h => by
    cases h with
    | cons h1 h2 => exact .cons (TD.dp d _ h1) (TDs.dp ds _ h2)
end
theorem td_ints {H : Hp} : ∀ ns : List Int, TDs H (ns.map V.int) (ns.map PyData.int)
  | [] => .nil
  | n :: r => .cons (.int n) (td_ints r)
theorem td_tup {H : Hp} {a : Addr} {ns : List Int} (h : TupD H a (ns.map V.int)) : TD H (.ref a) (P1 ns) := .tup h (td_ints ns)
theorem td_map {α : Type} {f : α → PyData} {H : Hp} : ∀ (qs : List Addr) (xs : List α), qs.length = xs.length → (∀ (i : Nat) (q : Addr) (x : α), qs[i]? = some q → xs[i]? = some x → TD H (.ref q) (f x)) → TDs H (qs.map V.ref) (xs.map f)
  | [], [], _, _ => .nil
  | [], _ :: _, e, _ => by cases e
  | _ :: _, [], e, _ => by cases e
  | q :: qs, x :: xs, e, h => .cons (h 0 q x rfl rfl) (td_map qs xs (by simpa using e) fun i r y h1 h2 => h (i + 1) r y h1 h2)
theorem td_tups {H : Hp} {a : Addr} {nss : List (List Int)} (h : TupTD H a nss) : TD H (.ref a) (P2 nss) := by
  obtain ⟨qs, h1, h2, h3⟩ := h
  exact .tup h1 (td_map qs nss h2 fun i q x e1 e2 => td_tup (h3 i q x e1 e2))
end DL
set_option Elab.async false
set_option linter.all false
set_option maxRecDepth 100000
set_option maxHeartbeats 1000000
/-! a law whose body tells reprs: a promise for calls beneath which no repr is under way (FnG), its end, repr of data -/
namespace DL
open PySem PySem.Spec PyProof.Rows L2 RZ
/-- room, and no repr under way -/
structure RoomG (k : Nat) (A : Around) : Prop where
  room : Room k A
  free : A.guards = some []
theorem RoomG.deeper {k : Nat} {A : Around} (r : RoomG (k + 1) A) (env : Env) : RoomG k (A.deeper env) := ⟨r.room.deeper env, r.free⟩
/-- the promise of a def, where no repr is under way -/
structure FnG (P : Program) (w : World) (K : PySem.W.Frag) (mg : Str → Option Value) (base : Heap) (k : Nat) (f : Addr) (fd : FuncData) (ps : List Str) (sp : Sp) : Prop where
  lens : ∀ vs H Q E, sp vs H Q E → vs.length = ps.length
  goes : ∀ (A : Around) (outer : List Env) (s : Shared) (H : Hp) (args : Args) (us : List Value) (vs : List V) (Q : VK) (E : XK), RoomG k A → Env0 P w K mg base A outer s H → BindsTo s fd args (ps.zip us) → Vals vs us → sp vs H Q E →
    codeAny (model P w) A (.call (.ref f) args) (CR CX0 outer P w H s Q E) s
section
variable {P : Program} {w : World} {K : PySem.W.Frag} {mg : Str → Option Value} {base : Heap}
/-- a def of the text, by its body; the body may tell reprs -/
theorem okG {x qual : Str} {st : Stmt} {f : Addr} {fd : FuncData} {N ps : List Str} {k : Nat} {sp : Sp} (F : Fun K x qual st f fd) (S : FnScope N ps (defScope st)) (len : ∀ vs H Q E, sp vs H Q E → vs.length = ps.length)
    (body : ∀ (cdv : Value) (A : Around) (outer : List Env) (s : Shared) (H : Hp) (vs : List V) (Q : VK) (E : XK), RoomG k (A.deeper (envOfC qual (defScope st) s.heap.objs.size f cdv)) → sp vs H Q E →
      ∃ t, PSs (cxOf CX0 P w K mg base N qual (defScope st) f cdv A outer s H E).nox (defBody st) t ∧ t { nx := fun _ H' => Q .non H', rt := Q } (start N vs) H) : FnG P w K mg base (k + 1) f fd ps sp := by
  obtain ⟨oc, od, kV, doc, pm, an, cdv, ct, osl, rfl, found, code⟩ := F.ex
  constructor
  · exact len
  intro A outer s H args us vs Q E room env binds rel want
  have zs := len vs H Q E want
  have kept : ∀ b o, base.get? b = some o → s.heap.get? b = some o := fun b o e => (env.bs b o e).1
  have frag := env.mod.kin.keeps kept
  have kinds : ∀ y ∈ ps.zip us, (defScope st).names.lookup y.1 = some .local ∨ ((defScope st).names.lookup y.1 = some .cell ∧ ((cellsFrom (s.heap.objs.size + 1) (defScope st).names []).lookup y.1).isSome = true) := by
    rintro ⟨n, v⟩ hy
    have hn : n ∈ ps := (List.of_mem_zip hy).1
    exact (S.par n hn).imp id fun h => ⟨h, PySem.W.cellsFrom_some _ _ _ (.inl h)⟩
  apply codeAny_call_function room.room.depth (frag _ _ found) rfl S.co S.gen rfl (PySem.W.codeRec_of frag code)
  apply binds
  apply wpAny_newFunctionEnv_cells S.kind kinds
  rintro env2 rfl s1 made
  constructor
  · exact (env.mod.nolimit.keeps kept).keeps made.toInCall.keep
  apply codeAny_func
  obtain ⟨t, rules, reading⟩ := body cdv A outer s H vs Q E (room.deeper _) want
  have start : Inv (cxOf CX0 P w K mg base N qual (defScope st) f cdv A outer s H E) [] (L2.start N vs) H s1 := inv_start S room.room.hd env zs rel made
  have runs := rules.nox.run [] s1 (L2.start N vs) H _ start reading
  have done : ∀ (σ : L2.St) (H' : Hp) (s' : Shared) (v : V) (u : Value), Inv (cxOf CX0 P w K mg base N qual (defScope st) f cdv A outer s H E) [] σ H' s' → RelV v u → Q v H' → CR CX0 outer P w H s Q E (.ok (.ret u)) s' := by
    intro σ H' s' v u J r q
    exact ⟨v, H', J.os, J.bare, J.base, J.hok, r, q⟩
  refine wpAny_mono runs ?_ fun _ _ z => z
  rintro (_ | _ | _ | u) s' out
  · obtain ⟨σ', H', J, q⟩ := out
    exact done σ' H' s' .non .none J rfl q
  · exact out.elim fun _ h => h.elim fun _ h => h.2.elim
  · exact out.elim fun _ h => h.elim fun _ h => h.2.elim
  · obtain ⟨v, σ', H', J, r, q⟩ := out
    exact done σ' H' s' v u J r q
end
end DL
set_option Elab.async false
set_option linter.all false
set_option maxRecDepth 100000
set_option maxHeartbeats 1000000
/-! the end of a law whose promise is an FnG; repr of data -/
namespace DL
open PySem PySem.Spec PyProof.Rows L2 RZ
/-- the list that the script is -/
abbrev scr (vs : List Value) : Obj := { cls := .type "list", data := .seq vs.toArray }
/-- what is known at first: the script, as something that stays, unless the module holds it -/
def seed (K : PySem.W.Frag) (a : Addr) (vs : List Value) (ns : List Int) : Hp := fun b => if b = a ∧ K.lookup a = none then some (.frz (scr vs) (.lst (ns.map V.int))) else none
section
variable {K : PySem.W.Frag} {a b : Addr} {vs : List Value} {ns : List Int}
theorem seed_some {u : HO} (h : seed K a vs ns b = some u) : b = a ∧ K.lookup a = none ∧ u = .frz (scr vs) (.lst (ns.map V.int)) := by
  unfold seed at h
  split at h
  · rename_i c
    exact ⟨c.1, c.2, (Option.some.inj h).symm⟩
  · cases h
theorem seed_none (h : ¬ (b = a ∧ K.lookup a = none)) : seed K a vs ns b = none := if_neg h
theorem seed_at (h : K.lookup a = none) : seed K a vs ns a = some (.frz (scr vs) (.lst (ns.map V.int))) := if_pos ⟨rfl, h⟩
theorem seed_only : Only (seed K a vs ns) := fun b => by
  cases e : seed K a vs ns b with
  | none => exact .inl rfl
  | some u =>
    obtain ⟨_, _, rfl⟩ := seed_some e
    exact .inr ⟨_, _, rfl⟩
variable {P : Program} {w : World} {s : Shared}
theorem seed_seq (frag : K.In s.heap) (at' : s.heap.get? a = some (scr vs)) (hi : IntsAre vs ns) (hl : ns.length ≤ sizeLine) : SqL K (seed K a vs ns) a (ns.map V.int) := by
  cases hk : K.lookup a with
  | none => exact .inl (.inr ⟨scr vs, seed_at hk⟩)
  | some o =>
    have e := frag a o hk
    rw [at'] at e
    obtain rfl := Option.some.inj e
    refine .inr ⟨scr vs, vs.toArray, _, hk, rfl, rfl, rfl, ?_, ?_⟩
    · rw [List.size_toArray, hi.length]
      exact hl
    · rw [List.toList_toArray]
      exact vals_ints hi
theorem seed_hok (at' : s.heap.get? a = some (scr vs)) (hi : IntsAre vs ns) (hl : ns.length ≤ sizeLine) : HOk P w (seed K a vs ns) s.heap := fun b u h => by
  obtain ⟨rfl, _, rfl⟩ := seed_some h
  refine ⟨at', ?_, vs, _, vals_ints hi, at'⟩
  rw [List.length_map]
  exact hl
/-- objects that are no list are not hidden -/
theorem seed_hid (at' : s.heap.get? a = some (scr vs)) {o : Obj} (e : s.heap.get? b = some o) (hd : ∀ (xs : Array Value) (n : Nat), o.data ≠ .seq xs n) : (hidT s.heap (seed K a vs ns)).get? b = some o := by
  refine hidT_get e (seed_none fun c => ?_)
  rw [c.1, at'] at e
  obtain rfl := Option.some.inj e
  exact hd _ _ rfl
theorem seed_ns (at' : s.heap.get? a = some (scr vs)) {m : Str → Option Value} (h : s.heap.Ns b m) : (hidT s.heap (seed K a vs ns)).Ns b m := by
  obtain ⟨o, es, ep, e, d, r⟩ := h
  refine ⟨o, es, ep, seed_hid at' e (fun xs n z => ?_), d, r⟩
  rw [d] at z
  cases z
theorem seed_in (frag : K.In s.heap) : K.In (hidT s.heap (seed K a vs ns)) := fun b o e => by
  refine hidT_get (frag b o e) (seed_none fun c => ?_)
  rw [← c.1, e] at c
  cases c.2
/-- the law is called: its promise gives True -/
theorem callG {mg mb : Str → Option Value} {k : Nat} {fa : Addr} {fd : FuncData} {x : Str} {sp : Sp}
    (frag : K.In s.heap) (glob : s.heap.Ns mainGlobals mg) (blt : s.heap.Ns builtinsNs mb) (boot : ∀ x : Str, x ≠ "__name__" → mb x = bootBuiltins x) (free : s.heap.NoLimit) (gens : s.gens = #[])
    (at' : s.heap.get? a = some (scr vs)) (hi : IntsAre vs ns) (hl : ns.length ≤ sizeLine) (room : Room k callerA)
    (F : ∀ base : Heap, K.In base → base.Ns mainGlobals mg → FnG P w K mg base k fa fd [x] sp) (binds : ∀ (s : Shared) (u : Value), BindsTo s fd ⟨[u], []⟩ [(x, u)])
    (want : ∀ H : Hp, SqL K H a (ns.map V.int) → sp [.ref a] H (fun v _ => v = .bl true) fun _ _ _ => False) :
    codeAny (model P w) callerA (.call (.ref fa) ⟨[.ref a], []⟩) (fun r s' => r = .ok (.ret (.bool true)) ∧ OldK s.heap s'.heap ∧ s'.os = s.os ∧ AllBare s'.gens) s := by
  have frag' : K.In (hidT s.heap (seed K a vs ns)) := seed_in frag
  have glob' : (hidT s.heap (seed K a vs ns)).Ns mainGlobals mg := seed_ns at' glob
  have mod : Mod K mg (hidT s.heap (seed K a vs ns)) := by
    refine ⟨frag', glob', ⟨mb, seed_ns at' blt, boot⟩, ?_⟩
    obtain ⟨mc, h1, h2⟩ := free
    exact ⟨mc, seed_ns at' h1, h2⟩
  have hok : HOk P w (seed K a vs ns) s.heap := seed_hok at' hi hl
  have env : Env0 P w K mg (hidT s.heap (seed K a vs ns)) callerA [] s (seed K a vs ns) := by
    refine ⟨rfl, mod, fun b o e => of_hidT e, ?_, trivial, ?_, hok, .of_eq gens⟩
    · exact Nat.le_of_eq (hidT_size s.heap (seed K a vs ns))
    · intro b hb
      exact nomatch (show b ∈ ([] : List Addr) from hb)
  have run := (F _ frag' glob').goes callerA [] s (seed K a vs ns) ⟨[.ref a], []⟩ [.ref a] [.ref a] (fun v _ => v = .bl true) (fun _ _ _ => False) ⟨room, rfl⟩ env (binds s (.ref a)) (.cons rfl .nil) (want _ (seed_seq frag at' hi hl))
  refine codeAny_mono run ?_
  rintro (e | _ | _ | _ | u) s' out
  · exact out.elim
  · exact out.elim
  · exact out.elim
  · exact out.elim
  obtain ⟨v, H', os, bare, un, hok', rel, rfl⟩ := out
  have eu : u = Value.bool true := rel
  refine ⟨by rw [eu], OldK.of_keep fun b o e => ?_, os, bare⟩
  cases q : seed K a vs ns b with
  | none => exact un.keep b o e q (fun z => nomatch (show b ∈ ([] : List Addr) from z)) (fun z => nomatch z)
  | some u =>
    obtain ⟨rfl, _, rfl⟩ := seed_some q
    have still := un.frzs b _ _ q
    have there := (hok' b _ still).1
    rw [at'] at e
    obtain rfl := Option.some.inj e
    exact there
end
/-- the law's row, from its promise -/
theorem walkG {l : PySem.W.OpenLaw} {q : Program} {loose : List Str} {XP : (Str → Option Value) → Heap → Prop} {YP : World → Heap → Prop} {d : DefRec} {K : Params → PySem.W.Frag} {k : Nat} {sp : PySem.W.Frag → Sp} (hn : l.most = some 63) (room : Room k callerA) (hdf : d.params.defaults = [])
    (hY : ∀ (w : World) (h : Heap), YP w h → (K w.params).In h)
    (F : ∀ (w : World) (mg : Str → Option Value) (fa : Addr) (h : Heap), (K w.params).In h → h.Ns mainGlobals mg → mg d.name = some (.ref fa) →
      ∃ fd : FuncData, (∀ (s : Shared) (u : Value), BindsTo s fd ⟨[u], []⟩ [("_law_script", u)]) ∧ ∀ base : Heap, (K w.params).In base → base.Ns mainGlobals mg → FnG l.prog w (K w.params) mg base k fa fd ["_law_script"] (sp (K w.params)))
    (want : ∀ (K : PySem.W.Frag) (H : Hp) (a : Addr) (ns : List Int), ns.length ≤ 63 → SqL K H a (ns.map V.int) → sp K [.ref a] H (fun v _ => v = .bl true) fun _ _ _ => False) :
    PySem.W.WalkO q loose XP YP l.row.toRowW d [] (fun f vs => PySem.call f vs) := by
  refine Att.attach_call hn hdf ?_
  intro w s0 s1 mg mb fa o pm cd doc a vs ns ground yp found data code global script whole few gens
  have frag := hY w _ yp
  obtain ⟨fd, binds, promise⟩ := F w mg fa _ frag ground.T.g global
  exact callG frag ground.T.g ground.T.b ground.T.builtins ground.T.nolimit gens script whole (Nat.le_trans few (by decide)) room promise binds fun H h => want _ H a ns few h
section
variable {X : Cx}
/-- repr of a whole number, of True and False, of tuples of those -/
def rReprD (K : PySem.W.Frag) : List V → Hp → VK → Prop := fun xs H Q => ∃ (v : V) (d : PyData), xs = [v] ∧ Dp K H v d ∧ d.showable = true ∧ d.hasDict = false ∧ d.shown.length ≤ sizeLine ∧ d.depth ≤ 60 ∧ Q (.str d.shown) H
theorem call_reprD (K : PySem.W.Frag) (hK : X.K = K) (hg : X.A.guards = some []) (hu : X.A.units + 64 < cLine) : CallR X (.builtin "repr") (rReprD K) := by
  subst hK
  intro pins s σ H xs us Q I r h
  obtain ⟨v, d, rfl, hd, hs, hdict, hz, hdep, q⟩ := h
  obtain ⟨u, rfl, rx⟩ := vals1 r
  obtain ⟨as, rd⟩ := Dp.reads I d v u hd rx
  cases hd with
  | non =>
    cases rx
    exact PySem.P.repr_of_none ⟨.str _, H, I.tok _, ⟨_, rfl⟩, q⟩
  | bl b =>
    cases rx
    exact PySem.P.repr_of_bool ⟨.str _, H, I.tok _, ⟨_, rfl⟩, q⟩
  | int i =>
    obtain ⟨t, rfl⟩ := rx
    exact PySem.P.repr_of_int (by simpa [PyData.showable] using hs) ⟨.str _, H, I.tok _, ⟨_, rfl⟩, q⟩
  | str x =>
    obtain ⟨t, rfl⟩ := rx
    exact PySem.P.repr_of_str ⟨.str _, H, I.tok _, ⟨_, rfl⟩, q⟩ hz
  | lst h1 h2 =>
    cases rx
    exact repr_of_reads' rd hs (fun z => by rw [hdict] at z; cases z) hg (by omega) (fun b o e => e) (fun h' u tk keep => ⟨.str _, H, I.kept keep, ⟨u, rfl⟩, q⟩) hz
  | tup h1 h2 =>
    cases rx
    exact repr_of_reads' rd hs (fun z => by rw [hdict] at z; cases z) hg (by omega) (fun b o e => e) (fun h' u tk keep => ⟨.str _, H, I.kept keep, ⟨u, rfl⟩, q⟩) hz
end
end DL
set_option Elab.async false
set_option linter.all false
set_option maxRecDepth 100000
set_option maxHeartbeats 2000000
namespace DK
open PySem PySem.Spec PyProof.Rows L2 RZ DL
def topS (i : Nat) : Stmt := PySem.Challenge.pw_datedlines_k72_leaves_of_depths_that_mee.main.body.getD i (.Pass ⟨0, 0, 0, 0⟩)
abbrev s_is_number : Stmt := topS 13
abbrev N_is_number : List Str := ["thing"]
theorem sc_is_number : FnScope N_is_number ["thing"] (defScope s_is_number) := ⟨rfl, rfl, rfl, by decide +kernel, rfl, by decide +kernel, by decide +kernel⟩
theorem b_is_number : BindOk "is_number" s_is_number ["thing"] := fun _ _ _ _ _ _ us hl => match us, hl with | [_], _ => rfl

abbrev s_is_from_to : Stmt := topS 14
abbrev N_is_from_to : List Str := ["thing", "low", "high"]
theorem sc_is_from_to : FnScope N_is_from_to ["thing", "low", "high"] (defScope s_is_from_to) := ⟨rfl, rfl, rfl, by decide +kernel, rfl, by decide +kernel, by decide +kernel⟩
theorem b_is_from_to : BindOk "is_from_to" s_is_from_to ["thing", "low", "high"] := fun _ _ _ _ _ _ us hl => match us, hl with | [_, _, _], _ => rfl

abbrev s_ask_moment : Stmt := topS 16
abbrev N_ask_moment : List Str := ["d", "last"]
theorem sc_ask_moment : FnScope N_ask_moment ["d", "last"] (defScope s_ask_moment) := ⟨rfl, rfl, rfl, by decide +kernel, rfl, by decide +kernel, by decide +kernel⟩
theorem b_ask_moment : BindOk "ask_moment" s_ask_moment ["d", "last"] := fun _ _ _ _ _ _ us hl => match us, hl with | [_, _], _ => rfl

abbrev s_law_take : Stmt := topS 47
abbrev N_law_take : List Str := ["_law_source", "_law_top", "_law_drawn"]
theorem sc_law_take : FnScope N_law_take ["_law_source", "_law_top"] (defScope s_law_take) := ⟨rfl, rfl, rfl, by decide +kernel, rfl, by decide +kernel, by decide +kernel⟩
theorem b_law_take : BindOk "_law_take" s_law_take ["_law_source", "_law_top"] := fun _ _ _ _ _ _ us hl => match us, hl with | [_, _], _ => rfl

abbrev s_law_one : Stmt := topS 48
abbrev N_law_one : List Str := ["_law_source", "_law_things"]
theorem sc_law_one : FnScope N_law_one ["_law_source", "_law_things"] (defScope s_law_one) := ⟨rfl, rfl, rfl, by decide +kernel, rfl, by decide +kernel, by decide +kernel⟩
theorem b_law_one : BindOk "_law_one" s_law_one ["_law_source", "_law_things"] := fun _ _ _ _ _ _ us hl => match us, hl with | [_, _], _ => rfl

abbrev s_law_pool : Stmt := topS 46
abbrev N_law_pool : List Str := ["_law_script", "_law_k", "_law_cell", "_law_big", "_law_mixed"]
theorem sc_law_pool : FnScope N_law_pool ["_law_script", "_law_k"] (defScope s_law_pool) := ⟨rfl, rfl, rfl, by decide +kernel, rfl, by decide +kernel, by decide +kernel⟩
theorem b_law_pool : BindOk "_law_pool" s_law_pool ["_law_script", "_law_k"] := fun _ _ _ _ _ _ us hl => match us, hl with | [_, _], _ => rfl

local macro_rules | `(tactic| walk_at "r") => `(tactic| repeat' (first | (refine ⟨_, rfl, ?_⟩) | (refine ⟨_, _, rfl, rfl, ?_⟩) | (refine ⟨rfl, ?_⟩)))
section
variable {P : Program} {w : World} {K : PySem.W.Frag} {mg : Str → Option Value} {base : Heap}
def spNum : Sp := fun vs H Q _ => ∃ i : Int, vs = [.int i] ∧ Q (.bl true) H
theorem ca_is_number (B : Bl mg) (U : Up K mg "is_number" s_is_number) : Ca P w K mg base 1 "is_number" s_is_number ["thing"] spNum := by
  refine ca0 U sc_is_number (fun vs H Q E h => by obtain ⟨i, rfl, _⟩ := h; rfl) fun f cdv A outer s H vs Q E hr h => ?_
  obtain ⟨i, rfl, q⟩ := h
  refine ⟨_, (pss_one (ps_ret (pe_and (pe_callB (call_isiK' K rfl) (by rfl) B.isinstance (by decide +kernel) (pa_cons (pv 0) (pa_cons (pe_bltn (v := .ty "int") (u := .type "int") (by rfl) B.int (by decide +kernel) rfl) pa_nil))) (pe_one (pe_not (pe_callB (call_isiK' K rfl) (by rfl) B.isinstance (by decide +kernel) (pa_cons (pv 0) (pa_cons (pe_bltn (v := .ty "bool") (u := .type "bool") (by rfl) B.bool (by decide +kernel) rfl) pa_nil)))))))), ?_⟩
  refine ⟨_, rfl, _, _, _, _, _, rfl, .ty _, .base (.int i), kit_ty (r := true) (by decide +kernel), true, rfl, iteT ?_⟩
  refine ⟨_, rfl, _, _, _, _, _, rfl, .ty _, .base (.int i), kit_ty (r := false) (by decide +kernel), false, rfl, q⟩
def spFromTo : Sp := fun vs H Q _ => ∃ x lo hi : Int, vs = [.int x, .int lo, .int hi] ∧ Q (.bl (decide (lo ≤ x) && decide (x ≤ hi))) H
theorem ca_is_from_to (c_is_number : Ca P w K mg base 1 "is_number" s_is_number ["thing"] spNum) (U : Up K mg "is_from_to" s_is_from_to) : Ca P w K mg base 2 "is_from_to" s_is_from_to ["thing", "low", "high"] spFromTo := by
  refine ca0 U sc_is_from_to (fun vs H Q E h => by obtain ⟨x, lo, hi, rfl, _⟩ := h; rfl) fun f cdv A outer s H vs Q E hr h => ?_
  obtain ⟨x, lo, hi, rfl, q⟩ := h
  refine ⟨_, (pss_one (ps_ret (pe_and (pe_ca c_is_number b_is_number hr ps0 (pa_cons (pv 0) pa_nil)) (pe_one (pe_chain op_le op_le (pv 1) (pv 0) (pv 2)))))), ?_⟩
  refine ⟨_, rfl, x, rfl, true, rfl, iteT ?_⟩
  refine ⟨_, rfl, _, rfl, _, _, rfl, rfl, _, rfl, ?_⟩
  refine ite2 (fun h1 => ?_) (fun h1 => ?_)
  · refine ⟨_, rfl, _, _, rfl, rfl, ?_⟩
    rw [h1] at q
    exact q
  · have h2 : decide (lo ≤ x) = false := by simpa using h1
    rw [h2] at q
    exact q
def spAskMoment (C : Addr) : Sp := fun vs H Q E => ∃ d last : Int, vs = [.int d, .int last] ∧ (0 ≤ d ∧ d ≤ last → Q .non H) ∧ (¬ (0 ≤ d ∧ d ≤ last) → RaisesW C (.int d) H E)
theorem ca_ask_moment {C f0 : Addr} (c_is_from_to : Ca P w K mg base 2 "is_from_to" s_is_from_to ["thing", "low", "high"] spFromTo) (T_BadMoment : Er K mg "BadMoment" C f0) (F_Refused : ErI P w K mg base f0) (U : Up K mg "ask_moment" s_ask_moment) :
    Ca P w K mg base 3 "ask_moment" s_ask_moment ["d", "last"] (spAskMoment C) := by
  refine caX U sc_ask_moment (fun vs H Q E h => by obtain ⟨d, last, rfl, _⟩ := h; rfl) fun f cdv A outer s H vs Q E hr h => ?_
  obtain ⟨d, last, rfl, q1, q2⟩ := h
  refine ⟨_, (pss_one (ps_if (pt_not (pt_val (pe_ca c_is_from_to b_is_from_to hr ps0 (pa_cons (pv 0) (pa_cons pe_int (pa_cons (pv 1) pa_nil)))))) (pss_one (ps_raiseW T_BadMoment F_Refused rfl hr (takes_of rfl rfl rfl rfl) (pv 0)))
      pss_nil)), ?_⟩
  refine ⟨_, rfl, _, rfl, d, 0, last, rfl, _, rfl, ?_⟩
  refine ite2 (fun h1 => ?_) (fun h1 => ?_)
  · exact ⟨_, rfl, q2 (fun hh => by simp [hh.1, hh.2] at h1)⟩
  · exact q1 (by simpa using h1)
end
end DK
set_option Elab.async false
set_option linter.all false
set_option maxRecDepth 100000
set_option maxHeartbeats 2000000
namespace DK
open PySem PySem.Spec PyProof.Rows L2 RZ DL
section
variable {P : Program} {w : World} {K : PySem.W.Frag} {mg : Str → Option Value} {base : Heap}
theorem at0 {x : V} {xs : List V} : atI (x :: xs) 0 = some x := atI_nat (j := 0) rfl
theorem at1 {x y : V} {xs : List V} : atI (x :: y :: xs) 1 = some y := atI_nat (j := 1) rfl
def spTake : Sp := fun vs H Q _ => ∃ (a : Addr) (top : Int), vs = [.ref a, .int top] ∧ Src a H ∧ 0 < top ∧ top < 1073741824 ∧ ∀ r H', 0 ≤ r → r < top → Stay a H H' → Q (.int r) H'
theorem stay_upd {a : Addr} {H : Hp} {x y : Int} (v : SrcV x y) : Stay a H (upd H a (.lst [.int x, .int y])) := ⟨⟨x, y, upd_same, v⟩, fun b o n e => by rw [upd_ne n]; exact e⟩
theorem ca_take (B : Bl mg) (U : Up K mg "_law_take" s_law_take) : Ca P w K mg base 1 "_law_take" s_law_take ["_law_source", "_law_top"] spTake := by
  refine ca0 U sc_law_take (fun vs H Q E h => by obtain ⟨a, top, rfl, _⟩ := h; rfl) fun f cdv A outer s H vs Q E hr h => ?_
  obtain ⟨a, top, rfl, ⟨x, y, ha, v1, v2, v3⟩, t1, t2, q⟩ := h
  refine ⟨_, (pss_cons (ps_if (pt_cmpR op_gt (pe_ix (ix_listK K rfl) (pv 0) pe_int (fun _ _ => rfl)) pe_int (nomark _)) (pss_cons (ps_set (i := 2) sc_law_take.nd rfl (Or.inl rfl) (pe_op op_mod (pe_callTy call_int1 (by rfl) B.int (by decide +kernel) (pa_cons (pe_ix (ix_listK K rfl) (pv 0) pe_int (fun _ _ => rfl)) pa_nil)) (pv 1)))
      (pss_cons (ps_asg (pe_op op_fdiv (pe_ix (ix_listK K rfl) (pv 0) pe_int (fun _ _ => rfl)) (pv 1)) (pg_sub (pv 0) pe_int set_list))
      (pss_one (ps_ret (pv 2)))))
      pss_nil)
      (pss_cons (ps_asg (pe_op op_mod (pe_callTy call_int1 (by rfl) B.int (by decide +kernel) (pa_cons (pe_op op_add (pe_op op_mul (pe_ix (ix_listK K rfl) (pv 0) pe_int (fun _ _ => rfl)) pe_int) pe_int) pa_nil)) pe_int) (pg_sub (pv 0) pe_int set_list))
      (pss_one (ps_ret (pe_op op_mod (pe_callTy call_int1 (by rfl) B.int (by decide +kernel) (pa_cons (pe_op op_fdiv (pe_op op_mod (pe_callTy call_int1 (by rfl) B.int (by decide +kernel) (pa_cons (pe_op op_mul (pe_ix (ix_listK K rfl) (pv 0) pe_int (fun _ _ => rfl)) (pe_ix (ix_listK K rfl) (pv 0) pe_int (fun _ _ => rfl))) pa_nil)) pe_int) pe_int) pa_nil)) (pv 1)))))), ?_⟩
  refine ⟨_, rfl, a, _, _, _, rfl, rfl, SqL.of ha, at0, _, _, rfl, rfl, _, rfl, ?_⟩
  refine ite2 (fun h1 => ?_) (fun h1 => ?_)
  · refine ⟨_, rfl, a, _, _, _, rfl, rfl, SqL.of ha, at0, .inl ⟨_, rfl, _, rfl, _, _, rfl, rfl, t1, ?_⟩⟩
    refine ⟨_, rfl, a, _, _, _, rfl, rfl, SqL.of ha, at0, _, rfl, _, _, rfl, rfl, ⟨t1, t2⟩, _, rfl, ?_⟩
    refine ⟨a, _, _, 0, rfl, rfl, ha, rfl, _, rfl, ?_⟩
    refine q _ _ (Int.emod_nonneg _ (by omega)) (Int.emod_lt_of_pos _ t1) (stay_upd ⟨Int.ediv_nonneg v1 (by omega), v2, v3⟩)
  · refine ⟨_, rfl, a, _, _, _, rfl, rfl, SqL.of ha, at1, _, _, rfl, rfl, .inl ⟨by omega, by omega⟩, _, _, rfl, rfl, .inl ⟨_, rfl, _, _, rfl, rfl, (by show (0 : Int) < 2147483647; decide), ?_⟩⟩
    have w1 := Int.emod_nonneg (y * 39373 + 7) (show (2147483647 : Int) ≠ 0 by decide)
    have w2 := Int.emod_lt_of_pos (y * 39373 + 7) (show (0 : Int) < 2147483647 by decide)
    refine ⟨_, rfl, a, _, _, 1, rfl, rfl, ha, rfl, ?_⟩
    have ha2 : (upd H a (.lst (List.set [V.int x, V.int y] 1 (V.int ((y * 39373 + 7) % 2147483647))))) a = some (.lst [V.int x, V.int ((y * 39373 + 7) % 2147483647)]) := upd_same
    refine ⟨_, rfl, a, _, _, _, rfl, rfl, SqL.of ha2, at1, _, rfl, a, _, _, _, rfl, rfl, SqL.of ha2, at1, _, _, rfl, rfl, .inl ⟨by omega, by omega⟩, .inl ⟨_, rfl, _, _, rfl, rfl, (by show (0 : Int) < 2147483629; decide), ?_⟩⟩
    refine ⟨_, _, rfl, rfl, ⟨by decide, by decide⟩, .inl ⟨_, rfl, _, rfl, _, _, rfl, rfl, t1, ?_⟩⟩
    exact q _ _ (Int.emod_nonneg _ (by omega)) (Int.emod_lt_of_pos _ t1) (stay_upd ⟨v1, w1, w2⟩)
def spOne : Sp := fun vs H Q _ => ∃ (a p : Addr) (xs : List V), vs = [.ref a, .ref p] ∧ Src a H ∧ H p = some (.lst xs) ∧ p ≠ a ∧ 0 < xs.length ∧ xs.length < 1000 ∧ ∀ v H', v ∈ xs → Stay a H H' → Q v H'
theorem ca_one (B : Bl mg) (c_law_take : Ca P w K mg base 1 "_law_take" s_law_take ["_law_source", "_law_top"] spTake) (U : Up K mg "_law_one" s_law_one) : Ca P w K mg base 2 "_law_one" s_law_one ["_law_source", "_law_things"] spOne := by
  refine ca0 U sc_law_one (fun vs H Q E h => by obtain ⟨a, p, xs, rfl, _⟩ := h; rfl) fun f cdv A outer s H vs Q E hr h => ?_
  obtain ⟨a, p, xs, rfl, hs, hp, ne, l1, l2, q⟩ := h
  refine ⟨_, (pss_one (ps_ret (pe_ix (ix_listK K rfl) (pv 1) (pe_ca c_law_take b_law_take hr ps0 (pa_cons (pv 0) (pa_cons (pe_callB (call_lenK K rfl) (by rfl) B.len (by decide +kernel) (pa_cons (pv 1) pa_nil)) pa_nil))) (fun _ _ => rfl)))), ?_⟩
  refine ⟨_, rfl, _, rfl, _, rfl, p, xs, rfl, .inl (SqL.of hp), a, _, rfl, hs, by omega, by omega, fun r H' r0 r1 st => ?_⟩
  have hlt : r.toNat < xs.length := by omega
  have hr' : r = ((r.toNat : Nat) : Int) := by omega
  refine ⟨p, xs, _, _, rfl, rfl, SqL.of (st.2 p _ ne hp), at_of hr' (List.getElem?_eq_getElem hlt), ?_⟩
  exact q _ _ (List.getElem_mem hlt) st
def spPool (K : PySem.W.Frag) : Sp := fun vs H Q _ => ∃ (a : Addr) (ns : List Int) (k : Int), vs = [.ref a, .int k] ∧ SqL K H a (ns.map V.int) ∧ ns.length ≤ 63 ∧ 0 ≤ k ∧ k < 1000 ∧ ∀ p H', H p = none → Same H H' → Src p H' → Q (.ref p) H'
theorem ca_pool (B : Bl mg) (U : Up K mg "_law_pool" s_law_pool) : Ca P w K mg base 1 "_law_pool" s_law_pool ["_law_script", "_law_k"] (spPool K) := by
  refine ca0 U sc_law_pool (fun vs H Q E h => by obtain ⟨a, ns, k, rfl, _⟩ := h; rfl) fun f cdv A outer s H vs Q E hr h => ?_
  obtain ⟨a, ns, k, rfl, hs, l1, k0, k1, q⟩ := h
  refine ⟨_, (pss_cons (ps_set (i := 2) sc_law_pool.nd rfl (Or.inl rfl) pe_int)
      (Evl.pss_cut (ps_if (pt_cmpR op_lt (pv 1) (pe_callB (call_lenK K rfl) (by rfl) B.len (by decide +kernel) (pa_cons (pv 0) pa_nil)) (nomark _)) (pss_one (ps_set (i := 2) sc_law_pool.nd rfl (Or.inl rfl) (pe_ix (ix_listK K rfl) (pv 0) (pv 1) (fun _ _ => rfl))))
      (pss_one (ps_if (pt_truth (pv 0) (by intro _; rfl)) (pss_one (ps_set (i := 2) sc_law_pool.nd rfl (Or.inl rfl) (pe_ix (ix_listK K rfl) (pv 0) pe_int (fun _ _ => rfl))))
      pss_nil)))
      (pss_cons (ps_set (i := 3) sc_law_pool.nd rfl (Or.inl rfl) (pe_callB (call_max2 rfl) (by rfl) B.max (by decide +kernel) (pa_cons (pe_callTy call_int1 (by rfl) B.int (by decide +kernel) (pa_cons (pv 2) pa_nil)) (pa_cons (pe_callTy call_int1 (by rfl) B.int (by decide +kernel) (pa_cons (pe_op op_sub (pe_un un_neg pe_int) (pv 2)) pa_nil)) pa_nil))))
      (pss_cons (ps_set (i := 4) sc_law_pool.nd rfl (Or.inl rfl) (pe_op op_mod (pe_callTy call_int1 (by rfl) B.int (by decide +kernel) (pa_cons (pe_op op_mul (pe_op op_add (pe_op op_add (pe_op op_add (pe_op op_mod (pe_callTy call_int1 (by rfl) B.int (by decide +kernel) (pa_cons (pv 3) pa_nil)) pe_int) (pe_op op_mul (pe_op op_mul pe_int (pv 1)) (pv 1))) (pe_op op_mul pe_int (pv 1))) pe_int) pe_int) pa_nil)) pe_int))
      (pss_one (ps_ret (pe_lst (pa_cons (pe_op op_mul (pv 3) (pe_callTy call_int1 (by rfl) B.int (by decide +kernel) (pa_cons (pe_cmpR op_ge (pv 3) (pe_op op_pow pe_int pe_int) (nomark _)) pa_nil))) (pa_cons (pv 4) pa_nil))))))))), ?_⟩
  refine ⟨fun σ' H' => H' = H ∧ ∃ c : Int, σ' = [some (.ref a), some (.int k), some (.int c), none, none], ?_, ?_⟩
  · refine ⟨_, rfl, _, rfl, a, _, rfl, .inl hs, _, _, rfl, rfl, _, rfl, ?_⟩
    rw [List.length_map]
    have hz : ∀ (j : Nat) (hj : j < ns.length), atI (ns.map V.int) (j : Int) = some (.int ns[j]) := fun j hj => atI_nat (by simp [hj])
    refine ite2 (fun h1 => ?_) (fun h1 => ?_)
    · have hk : k.toNat < ns.length := by
        have := of_decide_eq_true h1
        omega
      have e := hz k.toNat hk
      rw [show ((k.toNat : Nat) : Int) = k by omega] at e
      exact ⟨_, rfl, _, rfl, a, _, _, _, rfl, rfl, hs, e, rfl, _, rfl⟩
    · refine ⟨_, rfl, !(ns.map V.int).isEmpty, .inl ⟨_, hs, rfl⟩, ?_⟩
      cases hn : ns with
      | nil => exact ⟨rfl, 0, rfl⟩
      | cons n r =>
        have e : atI (ns.map V.int) 0 = some (.int n) := by rw [hn]; exact at0
        exact iteT ⟨_, rfl, a, _, _, _, rfl, rfl, hs, e, rfl, _, rfl⟩
  · rintro σ' H' ⟨rfl, c, rfl⟩
    refine ⟨_, rfl, .inl ⟨_, rfl, _, rfl, _, rfl, _, _, rfl, rfl, .inl ⟨_, rfl, _, _, rfl, ?_⟩⟩⟩
    have hb : ∃ b : Int, b = (if -1 - c > c then -1 - c else c) ∧ 0 ≤ b := by
      refine ⟨_, rfl, ?_⟩
      split <;> omega
    obtain ⟨b, eb, b0⟩ := hb
    refine ⟨_, rfl, .inl ⟨_, rfl, _, _, rfl, rfl, (by show (0 : Int) < 2147483629; decide), _, rfl, _, _, rfl, rfl, .inl ⟨by decide, by decide⟩, _, rfl, _, _, rfl, rfl, .inr ⟨by omega, by omega⟩, _, _, rfl, rfl, _, rfl, _, _, rfl, rfl, .inl ⟨by decide, by decide⟩, _, _, rfl, rfl, _, _, rfl, rfl, _, _, rfl, rfl, .inr ⟨by decide, by decide⟩, .inl ⟨_, rfl, _, _, rfl, rfl, (by show (0 : Int) < 2147483647; decide), ?_⟩⟩⟩
    refine ⟨_, rfl, _, rfl, _, _, rfl, rfl, ⟨by decide, by decide, by decide⟩, _, _, rfl, rfl, .inr ⟨_, rfl, _, _, rfl, rfl, .inr ?_, _, rfl, (by show 2 ≤ sizeLine; decide), fun p hp => ?_⟩⟩
    · have ht : ∀ t : Bool, -(2 ^ 64) < (if t = true then (1 : Int) else 0) ∧ (if t = true then (1 : Int) else 0) < 2 ^ 64 := by
        intro t
        cases t <;> decide
      exact ht _
    · refine q p _ hp (Same.new hp) ⟨_, _, upd_same, ?_, Int.emod_nonneg _ (by decide), Int.emod_lt_of_pos _ (by decide)⟩
      have ht : ∀ t : Bool, 0 ≤ (if t = true then (1 : Int) else 0) := by
        intro t
        cases t <;> decide
      rw [eb] at b0
      exact Int.mul_nonneg b0 (ht _)
end
end DK
set_option Elab.async false
set_option linter.all false
set_option maxRecDepth 100000
set_option maxHeartbeats 2000000
namespace DK
open PySem PySem.Spec PyProof.Rows L2 RZ DL
abbrev s_is_falling : Stmt := topS 15
abbrev N_is_falling : List Str := ["sizes", "one", "two"]
theorem sc_is_falling : FnScope N_is_falling ["sizes"] (defScope s_is_falling) := ⟨rfl, rfl, rfl, by decide +kernel, rfl, by decide +kernel, by decide +kernel⟩
theorem b_is_falling : BindOk "is_falling" s_is_falling ["sizes"] := fun _ _ _ _ _ _ us hl => match us, hl with | [_], _ => rfl

abbrev s_is_pattern : Stmt := topS 20
abbrev N_is_pattern : List Str := ["thing", "s"]
theorem sc_is_pattern : FnScope N_is_pattern ["thing"] (defScope s_is_pattern) := ⟨rfl, rfl, rfl, by decide +kernel, rfl, by decide +kernel, by decide +kernel⟩
theorem b_is_pattern : BindOk "is_pattern" s_is_pattern ["thing"] := fun _ _ _ _ _ _ us hl => match us, hl with | [_], _ => rfl

abbrev s_ask_pattern : Stmt := topS 21
abbrev N_ask_pattern : List Str := ["pattern"]
theorem sc_ask_pattern : FnScope N_ask_pattern ["pattern"] (defScope s_ask_pattern) := ⟨rfl, rfl, rfl, by decide +kernel, rfl, by decide +kernel, by decide +kernel⟩
theorem b_ask_pattern : BindOk "ask_pattern" s_ask_pattern ["pattern"] := fun _ _ _ _ _ _ us hl => match us, hl with | [_], _ => rfl

abbrev s_less : Stmt := topS 22
abbrev N_less : List Str := ["pattern"]
theorem sc_less : FnScope N_less ["pattern"] (defScope s_less) := ⟨rfl, rfl, rfl, by decide +kernel, rfl, by decide +kernel, by decide +kernel⟩
theorem b_less : BindOk "less" s_less ["pattern"] := fun _ _ _ _ _ _ us hl => match us, hl with | [_], _ => rfl

section
variable {P : Program} {w : World} {K : PySem.W.Frag} {mg : Str → Option Value} {base : Heap}
def fallB (ns : List Int) : Bool := ((ns.zip (ns.drop 1)).map fun p => decide (p.2 ≤ p.1)).all id
def spFall (K : PySem.W.Frag) : Sp := fun vs H Q _ => ∃ (a : Addr) (ns : List Int), vs = [.ref a] ∧ TupI K H a ns ∧ ns.length ≤ 1000 ∧ ∀ H', Same H H' → Q (.bl (fallB ns)) H'
theorem ca_is_falling (B : Bl mg) (U : Up K mg "is_falling" s_is_falling) : Ca P w K mg base 1 "is_falling" s_is_falling ["sizes"] (spFall K) := by
  refine ca0 U sc_is_falling (fun vs H Q E h => by obtain ⟨a, ns, rfl, _⟩ := h; rfl) fun f cdv A outer s H vs Q E hr h => ?_
  obtain ⟨a, ns, rfl, ht, hl, q⟩ := h
  refine ⟨_, (pss_one (ps_ret (pe_callB (cr_allK K rfl rfl) (by rfl) B.all (by decide +kernel) (pa_cons (pe_lc (own := [("one", 1), ("two", 2)]) (g := (gTup K 2 (gCons (gName 1) (gCons (gName 2) gNil)))) (by rfl) sc_is_falling.nd (pi_zipA (by rfl) B.zip (pa_cons (pv 0) (pa_cons (pe_slice sl_tupS (pv 0) (po_some pe_int) po_none) pa_nil))) (blkOk_by (N := N_is_falling) (own := [("one", 1), ("two", 2)]) (sc := defScope s_is_falling) (by decide +kernel)) (fun _ _ _ _ _ => pg_tup rfl (pgs_cons (pg_name (i := 1) sc_is_falling.nd rfl (Or.inl rfl)) (pgs_cons (pg_name (i := 2) sc_is_falling.nd rfl (Or.inl rfl)) pgs_nil))) (fun _ _ _ _ _ => pts_nil) (fun _ _ _ _ _ => (pe_cmpR op_ge (pv 1) (pv 2) (nomark _)))) pa_nil)))), ?_⟩
  refine ⟨_, rfl, _, rfl, 1, rfl, a, _, rfl, ht, fun b H2 s2 hb => ?_⟩
  have hb' : SqT K H2 b ((ns.drop 1).map V.int) := by
    have e1 := cut_from (ns.map V.int) 1
    rw [← List.map_drop] at e1
    rw [← e1]
    exact hb
  have ha' : SqT K H2 a (ns.map V.int) := Same.seqT s2 ht
  refine ⟨a, b, _, _, rfl, .inr ⟨ha', hb', fun D2 hD2 => lc_it (walk_zipT (n := (ns.zip (ns.drop 1)).length) (by simp)) (Cw H2 (fun _ => true) (fun i => V.bl (decide (((ns.zip (ns.drop 1)).getD i (0, 0)).2 ≤ ((ns.zip (ns.drop 1)).getD i (0, 0)).1))) D2) (cw0 hD2) (fun i H' _ p => ⟨Same.seqT p.2.1 ha', Same.seqT p.2.1 hb'⟩) ?_ ?_⟩⟩
  · rintro i x H' H'' hi p ⟨T, u, v, rfl, hT, rfl, hu, hv⟩
    obtain ⟨z, hz, rfl⟩ := map_of hu
    obtain ⟨z2, hz2, rfl⟩ := map_of hv
    have hzz : (ns.zip (ns.drop 1)).getD i (0, 0) = (z, z2) := getD_of (List.getElem?_zip_eq_some.mpr ⟨hz, hz2⟩)
    refine ⟨T, _, rfl, SqT.of upd_same, rfl, _, _, rfl, _, _, rfl, rfl, rfl, _, rfl, _, rfl, _, _, rfl, rfl, ?_⟩
    have hi' : i < 1000 := by
      have := (List.getElem?_eq_some_iff.mp hz).1
      omega
    exact cwY p (Same.new hT) (by omega) rfl (by rw [hzz])
  · rintro H3 ⟨r1, r2, r3⟩
    have e := givn_all (ns.zip (ns.drop 1)) (0, 0) (fun x => V.bl (decide (x.2 ≤ x.1)))
    rw [e] at r3
    refine ⟨D2, ((ns.zip (ns.drop 1)).map fun p => decide (p.2 ≤ p.1)), rfl, SqL.of (by rw [List.map_map]; exact r3), ?_⟩
    exact q _ (s2.trans r2)
def spPat (K : PySem.W.Frag) : Sp := fun vs H Q _ => ∃ (a : Addr) (ns : List Int), vs = [.ref a] ∧ TupI K H a ns ∧ ns.length ≤ 1000 ∧ ∀ H', Same H H' → Q (.bl (patB ns)) H'
theorem ca_is_pattern (B : Bl mg) (c_is_number : Ca P w K mg base 1 "is_number" s_is_number ["thing"] spNum) (c_is_falling : Ca P w K mg base 1 "is_falling" s_is_falling ["sizes"] (spFall K)) (U : Up K mg "is_pattern" s_is_pattern) : Ca P w K mg base 2 "is_pattern" s_is_pattern ["thing"] (spPat K) := by
  refine ca0 U sc_is_pattern (fun vs H Q E h => by obtain ⟨a, ns, rfl, _⟩ := h; rfl) fun f cdv A outer s H vs Q E hr h => ?_
  obtain ⟨a, ns, rfl, ht, hl, q⟩ := h
  refine ⟨_, (pss_cons (ps_if (pt_not (pt_val (pe_callB (call_isiK' K rfl) (by rfl) B.isinstance (by decide +kernel) (pa_cons (pv 0) (pa_cons (pe_bltn (v := .ty "tuple") (u := .type "tuple") (by rfl) B.tuple (by decide +kernel) rfl) pa_nil))))) (pss_one (ps_ret pe_bl))
      pss_nil)
      (pss_one (ps_ret (pe_and (pe_callB (cr_allK K rfl rfl) (by rfl) B.all (by decide +kernel) (pa_cons (pe_lc (own := [("s", 1)]) (g := (gName 1)) (by rfl) sc_is_pattern.nd (pi_tup (pv 0)) (blkOk_by (N := N_is_pattern) (own := [("s", 1)]) (sc := defScope s_is_pattern) (by decide +kernel)) (fun _ _ _ _ _ => pg_name (i := 1) sc_is_pattern.nd rfl (Or.inl rfl)) (fun _ _ _ _ _ => pts_nil) (fun _ _ _ _ _ => (pe_and (pe_ca c_is_number b_is_number hr ps0 (pa_cons (pv 1) pa_nil)) (pe_one (pe_cmpR op_ge (pv 1) pe_int (nomark _)))))) pa_nil)) (pe_one (pe_ca c_is_falling b_is_falling hr ps0 (pa_cons (pv 0) pa_nil))))))), ?_⟩
  refine ⟨_, rfl, _, _, _, _, _, rfl, .ty _, tyT ht, kit_ty (r := true) (by decide +kernel), true, rfl, iteF ?_⟩
  refine ⟨_, rfl, a, rfl, ⟨_, ht⟩, fun D hD => lc_it (walk_tup (xs := ns.map V.int)) (Cw H (fun _ => true) (fun i => V.bl (decide (2 ≤ ns.getD i 0))) D) (cw0 hD) (fun i H' _ p => Same.seqT p.2.1 ht) ?_ ?_⟩
  · rintro i x H' H'' hi p ⟨rfl, hx⟩
    obtain ⟨z, hz, rfl⟩ := map_of hx
    refine ⟨rfl, _, rfl, z, rfl, true, rfl, ?_⟩
    refine iteT ?_
    refine ⟨_, rfl, _, _, rfl, rfl, ?_⟩
    have hi' : i < ns.length := by simpa using hi
    exact cwY p (Same.refl _) (by omega) rfl (by rw [getD_of hz])
  · rintro H1 ⟨p1, p2, p3⟩
    have e := givn_all ns 0 (fun x => V.bl (decide (2 ≤ x)))
    rw [List.length_map] at p3
    rw [e] at p3
    refine ⟨D, (ns.map fun s => decide (2 ≤ s)), rfl, SqL.of (by rw [List.map_map]; exact p3), _, rfl, ?_⟩
    refine ite2 (fun h1 => ?_) (fun h1 => ?_)
    · have ht1 : (ns.map fun s => decide (2 ≤ s)).all id = true := by simpa using h1
      refine ⟨_, rfl, a, ns, rfl, Same.seqT p2 ht, hl, fun H2 s2 => ?_⟩
      have hf : patB ns = fallB ns := by
        unfold patB
        rw [ht1]
        rfl
      rw [hf] at q
      exact q _ (p2.trans s2)
    · have hf : patB ns = false := by
        unfold patB
        rw [show (ns.map fun s => decide (2 ≤ s)).all id = false by simpa using h1]
        rfl
      rw [hf] at q
      exact q _ p2
def spAskPat (K : PySem.W.Frag) : Sp := fun vs H Q _ => ∃ (a : Addr) (ns : List Int), vs = [.ref a] ∧ TupI K H a ns ∧ ns.length ≤ 1000 ∧ patB ns = true ∧ ∀ H', Same H H' → Q .non H'
theorem ca_ask_pattern (c_is_pattern : Ca P w K mg base 2 "is_pattern" s_is_pattern ["thing"] (spPat K)) (U : Up K mg "ask_pattern" s_ask_pattern) : Ca P w K mg base 3 "ask_pattern" s_ask_pattern ["pattern"] (spAskPat K) := by
  refine ca0 U sc_ask_pattern (fun vs H Q E h => by obtain ⟨a, ns, rfl, _⟩ := h; rfl) fun f cdv A outer s H vs Q E hr h => ?_
  obtain ⟨a, ns, rfl, ht, hl, hp, q⟩ := h
  refine ⟨_, (pss_one (ps_if (pt_not (pt_val (pe_ca c_is_pattern b_is_pattern hr ps0 (pa_cons (pv 0) pa_nil)))) (pss_one ps_never)
      pss_nil)), ?_⟩
  refine ⟨_, rfl, a, ns, rfl, ht, hl, fun H' s' => ⟨_, rfl, ?_⟩⟩
  rw [hp]
  exact iteF (q _ s')
def spMet (K : PySem.W.Frag) (g : List Int → Int) : Sp := fun vs H Q _ => ∃ (a : Addr) (ns : List Int), vs = [.ref a] ∧ TupI K H a ns ∧ ns.length ≤ 1000 ∧ patB ns = true ∧ ∀ H', Same H H' → Q (.int (g ns)) H'
theorem ca_less (B : Bl mg) (c_ask_pattern : Ca P w K mg base 3 "ask_pattern" s_ask_pattern ["pattern"] (spAskPat K)) (U : Up K mg "less" s_less) : Ca P w K mg base 4 "less" s_less ["pattern"] (spMet K lessI) := by
  refine ca0 U sc_less (fun vs H Q E h => by obtain ⟨a, ns, rfl, _⟩ := h; rfl) fun f cdv A outer s H vs Q E hr h => ?_
  obtain ⟨a, ns, rfl, ht, hl, hp, q⟩ := h
  refine ⟨_, (pss_cons (ps_expr (pe_ca c_ask_pattern b_ask_pattern hr ps0 (pa_cons (pv 0) pa_nil)))
      (pss_one (ps_ret (pe_op op_sub (pe_callB (cr_sumTK K rfl rfl) (by rfl) B.sum (by decide +kernel) (pa_cons (pv 0) pa_nil)) (pe_callB (call_lenK K rfl) (by rfl) B.len (by decide +kernel) (pa_cons (pv 0) pa_nil)))))), ?_⟩
  refine ⟨_, rfl, a, ns, rfl, ht, hl, hp, fun H' s' => ⟨_, rfl, a, ns, rfl, ht.same s', _, rfl, a, _, rfl, .inr (ht.same s'), _, _, rfl, rfl, ?_⟩⟩
  rw [List.length_map]
  exact q _ s'
end
end DK
set_option Elab.async false
set_option linter.all false
set_option maxRecDepth 100000
set_option maxHeartbeats 2000000
namespace DK
open PySem PySem.Spec PyProof.Rows L2 RZ DL
abbrev s_Calendar___init__ : Stmt := inClass (topS 24) 0
abbrev N_Calendar___init__ : List Str := ["self", "born", "days"]
theorem sc_Calendar___init__ : FnScope N_Calendar___init__ ["self", "born", "days"] (defScope s_Calendar___init__) := ⟨rfl, rfl, rfl, by decide +kernel, rfl, by decide +kernel, by decide +kernel⟩

abbrev s_days_many : Stmt := topS 25
abbrev N_days_many : List Str := ["calendar"]
theorem sc_days_many : FnScope N_days_many ["calendar"] (defScope s_days_many) := ⟨rfl, rfl, rfl, by decide +kernel, rfl, by decide +kernel, by decide +kernel⟩
theorem b_days_many : BindOk "days_many" s_days_many ["calendar"] := fun _ _ _ _ _ _ us hl => match us, hl with | [_], _ => rfl

abbrev s_alive : Stmt := topS 27
abbrev N_alive : List Str := ["calendar", "d", "born", "moment", "pattern"]
theorem sc_alive : FnScope N_alive ["calendar", "d"] (defScope s_alive) := ⟨rfl, rfl, rfl, by decide +kernel, rfl, by decide +kernel, by decide +kernel⟩
theorem b_alive : BindOk "alive" s_alive ["calendar", "d"] := fun _ _ _ _ _ _ us hl => match us, hl with | [_, _], _ => rfl

section
variable {P : Program} {w : World} {K : PySem.W.Frag} {mg : Str → Option Value} {base : Heap} {C f0 fC CM fR : Addr}
/-- Calendar.__init__ -/
def calF (b d : V) : List (Str × V) := putF "days" d (putF "born" b [])
theorem bd_ : ¬ (("born" : Str) = "days") := by decide +kernel
theorem calF_born (b d : V) : (calF b d).lookup ("born" : Str) = some b := by
  unfold calF
  rw [lookup_putF, if_neg bd_, lookup_putF, if_pos rfl]
theorem calF_days (b d : V) : (calF b d).lookup ("days" : Str) = some d := by
  unfold calF
  rw [lookup_putF, if_pos rfl]
def spInitC (C : Addr) : Sp := fun vs H Q _ => ∃ (c dx : Addr) (b d : V), vs = [.ref c, b, d] ∧ H c = some (.ins C dx []) ∧ Q .non (upd H c (.ins C dx (calF b d)))
theorem ok_init (T : ClC K mg C fC) {f : Addr} {fd : FuncData} (F : Fun K "__init__" "Calendar.__init__" s_Calendar___init__ f fd) : FnOk P w K mg base (L2.CX P w) 1 f fd ["self", "born", "days"] (spInitC C) := by
  refine fn_up (F.ok sc_Calendar___init__ (fun vs H Q E h => by obtain ⟨c, dx, b, d, rfl, _⟩ := h; rfl) fun cdv A outer s H vs Q E hr h => ?_)
  obtain ⟨c, dx, b, d, rfl, hc, q⟩ := h
  refine ⟨_, (pss_cons (ps_fld (pv 0) (pv 1) rfl)
      (pss_one (ps_fld (pv 0) (pv 2) rfl))), ?_⟩
  refine ⟨_, rfl, _, rfl, c, C, dx, _, rfl, hc, T.cl, T.nB, (by show 0 < 1000; decide), ?_⟩
  refine ⟨_, rfl, _, rfl, c, C, dx, _, rfl, upd_same, T.cl, T.nD, (by show 1 < 1000; decide), ?_⟩
  rw [upd_upd]
  exact q
def spLeaves (K : PySem.W.Frag) (C : Addr) (g : List Int → List (List Int) → Int) : Sp := fun vs H Q _ => ∃ (c : Addr) (bs : List Int) (ds : List (List Int)), vs = [.ref c] ∧ CalAt K C H c bs ds ∧ Q (.int (g bs ds)) H
theorem ca_days_many (B : Bl mg) (T : ClC K mg C fC) (U : Up K mg "days_many" s_days_many) : Ca P w K mg base 1 "days_many" s_days_many ["calendar"] (spLeaves K C fun _ ds => (ds.length : Int)) := by
  refine ca0 U sc_days_many (fun vs H Q E h => by obtain ⟨c, bs, ds, rfl, _⟩ := h; rfl) fun f cdv A outer s H vs Q E hr h => ?_
  obtain ⟨c, bs, ds, rfl, hcal, q⟩ := h
  obtain ⟨dx, b, d, fs, h1, h2, h3, h4, qs, h5, h6, h7⟩ := hcal.op
  refine ⟨_, (pss_one (ps_ret (pe_callB (call_lenK K rfl) (by rfl) B.len (by decide +kernel) (pa_cons (pe_fld (pv 0) rfl) pa_nil)))), ?_⟩
  refine ⟨_, rfl, c, C, dx, fs, _, rfl, h1, T.cl, T.nD, h3, d, _, rfl, .inr h5, ?_⟩
  rw [List.length_map, h6]
  exact q
/-- what a calendar's days are: patterns -/
def DaysOk (ds : List (List Int)) : Prop := ∀ p ∈ ds, patB p = true ∧ p.length ≤ 1000
def spAlive (K : PySem.W.Frag) (C CM : Addr) (last : List (List Int) → Int) (g : List Int → List (List Int) → Nat → Int) : Sp := fun vs H Q E => ∃ (c : Addr) (bs : List Int) (ds : List (List Int)) (d : Int), vs = [.ref c, .int d] ∧ CalAt K C H c bs ds ∧ DaysOk ds ∧ bs.length ≤ 1000 ∧ ds.length ≤ 1000 ∧
  (0 ≤ d ∧ d ≤ last ds → ∀ H', Same H H' → Q (.int (g bs ds d.toNat)) H') ∧ (¬ (0 ≤ d ∧ d ≤ last ds) → RaisesW CM (.int d) H E)
theorem ca_alive (B : Bl mg) (T : ClC K mg C fC) (c_ask_moment : Ca P w K mg base 3 "ask_moment" s_ask_moment ["d", "last"] (spAskMoment CM)) (c_days_many : Ca P w K mg base 1 "days_many" s_days_many ["calendar"] (spLeaves K C fun _ ds => (ds.length : Int)))
    (c_less : Ca P w K mg base 4 "less" s_less ["pattern"] (spMet K lessI)) (U : Up K mg "alive" s_alive) : Ca P w K mg base 5 "alive" s_alive ["calendar", "d"] (spAlive K C CM (fun ds => (ds.length : Int)) aliveAt) := by
  refine caX U sc_alive (fun vs H Q E h => by obtain ⟨c, bs, ds, d, rfl, _⟩ := h; rfl) fun f cdv A outer s H vs Q E hr h => ?_
  obtain ⟨c, bs, ds, d, rfl, hcal, hd, hz1, hz2, q1, q2⟩ := h
  refine ⟨_, (pss_cons (ps_expr (pe_ca c_ask_moment b_ask_moment hr (passAt (takes_of rfl rfl rfl rfl)) (pa_cons (pv 1) (pa_cons (pe_ca c_days_many b_days_many hr ps0 (pa_cons (pv 0) pa_nil)) pa_nil))))
      (pss_cons (ps_setLc (i := 2) (own := [("moment", 3)]) (g := (gName 3)) (by rfl) sc_alive.nd rfl rfl (sw_true rfl rfl rfl (by decide +kernel)) (pi_tup (pe_fld (pv 0) rfl)) (blkOk_by (N := N_alive) (own := [("moment", 3)]) (sc := defScope s_alive) (by decide +kernel)) (fun _ _ _ _ _ => pg_name (i := 3) sc_alive.nd rfl (Or.inl rfl)) (fun _ _ _ _ _ => (pts_one (pt_cmpR op_le (pv 3) (pv 1) (nomark _)))) (fun _ _ _ _ _ => (pv 3)))
      (pss_one (ps_ret (pe_op op_sub (pe_callB (call_lenK K rfl) (by rfl) B.len (by decide +kernel) (pa_cons (pv 2) pa_nil)) (pe_callB (cr_sumK K rfl rfl) (by rfl) B.sum (by decide +kernel) (pa_cons (pe_lc (own := [("pattern", 4)]) (g := (gName 4)) (by rfl) sc_alive.nd (pi_tup (pe_slice sl_tupS (pe_fld (pv 0) rfl) po_none (po_some (pv 1)))) (blkOk_by (N := N_alive) (own := [("pattern", 4)]) (sc := defScope s_alive) (by decide +kernel)) (fun _ _ _ _ _ => pg_name (i := 4) sc_alive.nd rfl (Or.inl rfl)) (fun _ _ _ _ _ => pts_nil) (fun _ _ _ _ _ => (pe_ca c_less b_less hr ps0 (pa_cons (pv 4) pa_nil)))) pa_nil))))))), ?_⟩
  have hcal' := hcal
  obtain ⟨dx, b, dd, fs, h1, h2, h3, h4, qs, h5, h6, h7⟩ := hcal.op
  refine ⟨_, rfl, _, rfl, c, bs, ds, rfl, hcal', d, _, rfl, fun hr1 => ?_, fun hr1 => q2 hr1⟩
  have q1' := q1 hr1
  have hr2 : 0 ≤ d ∧ d ≤ (ds.length : Int) := hr1
  refine ⟨_, rfl, c, C, dx, fs, _, rfl, h1, T.cl, T.nB, h2, b, rfl, ⟨_, h4⟩, fun D hD => lc_it (walk_tup (xs := bs.map V.int)) (Cw H (fun i => decide (bs.getD i 0 ≤ d)) (fun i => V.int (bs.getD i 0)) D) (cw0 hD) (fun i H' _ p => Same.seqT p.2.1 h4) ?_ ?_⟩
  · rintro i x H' H'' hi p ⟨rfl, hx⟩
    obtain ⟨z, hz, rfl⟩ := map_of hx
    have hi' : i < bs.length := by simpa using hi
    refine ⟨rfl, _, rfl, _, rfl, _, _, rfl, rfl, _, rfl, ?_⟩
    refine ite2 (fun h => ?_) (fun h => ?_)
    · exact ⟨_, rfl, cwY p (Same.refl _) (by omega) (by rw [getD_of hz]; exact h) (by rw [getD_of hz])⟩
    · exact cwN p (Same.refl _) (by rw [getD_of hz]; simpa using h)
  · rintro H1 ⟨p1, p2, p3⟩
    have e := givn_filter bs 0 (fun x => decide (x ≤ d)) V.int
    rw [List.length_map] at p3
    rw [e] at p3
    have hd' : d.toNat ≤ ds.length := by omega
    have hdd : d = ((d.toNat : Nat) : Int) := by omega
    refine ⟨_, rfl, D, _, rfl, .inl (SqL.of p3), _, rfl, c, C, dx, fs, _, rfl, p2 _ _ h1, T.cl, T.nD, h3, _, rfl, d, rfl, dd, _, rfl, Same.seqT p2 h5, fun p H4 s4 hp => ?_⟩
    have hp' : SqT K H4 p ((qs.take d.toNat).map V.ref) := by
      rw [hdd, cut_to, ← List.map_take] at hp
      exact hp
    refine ⟨p, rfl, ⟨_, hp'⟩, fun D2 hD2 => lc_it (walk_tup (xs := (qs.take d.toNat).map V.ref)) (Cw H4 (fun _ => true) (fun i => V.int (lessI ((ds.take d.toNat).getD i []))) D2) (cw0 hD2) (fun i H' _ p => Same.seqT p.2.1 hp') ?_ ?_⟩
    · rintro i x H' H'' hi p ⟨rfl, hx⟩
      obtain ⟨z, hz, rfl⟩ := map_of hx
      have hi' : i < d.toNat := by
        simp at hi
        omega
      have hzq : qs[i]? = some z := by
        rw [List.getElem?_take_of_lt hi'] at hz
        exact hz
      have hds : ds[i]? = some ds[i] := by simp
      have hds2 : (ds.take d.toNat)[i]? = some ds[i] := by rw [List.getElem?_take_of_lt hi', hds]
      have hps := hd ds[i] (List.getElem_mem _)
      refine ⟨rfl, _, rfl, z, ds[i], rfl, (h7 i z _ hzq hds).same ((p2.trans s4).trans p.2.1), hps.2, hps.1, fun H5 s5 => ?_⟩
      exact cwY p s5 (by omega) rfl (by rw [getD_of hds2])
    · rintro H5 ⟨r1, r2, r3⟩
      have e2 := givn_all (ds.take d.toNat) [] (fun x => V.int (lessI x))
      have e3 : ((qs.take d.toNat).map V.ref).length = (ds.take d.toNat).length := by simp [h6]
      rw [e3, e2] at r3
      refine ⟨D2, (ds.take d.toNat).map lessI, rfl, SqL.of (by rw [List.map_map]; exact r3), _, _, rfl, rfl, ?_⟩
      have q3 := q1' _ ((p2.trans s4).trans r2)
      unfold aliveAt at q3
      rw [← hdd] at q3
      rw [List.length_map]
      exact q3
def behindAt (bs : List Int) (ds : List (List Int)) (d : Nat) : Int := aliveAt bs ds d - lessI (ds.getD d [])
def spEnds (K : PySem.W.Frag) (C : Addr) : Sp := fun vs H Q _ => ∃ (c : Addr) (bs : List Int) (ds : List (List Int)), vs = [.ref c] ∧ CalAt K C H c bs ds ∧ DaysOk ds ∧ bs.length ≤ 1000 ∧ ds.length ≤ 1000 ∧ ∀ H', Same H H' → Q (.int (aliveAt bs ds ds.length)) H'
end
end DK
set_option Elab.async false
set_option linter.all false
set_option maxRecDepth 100000
set_option maxHeartbeats 2000000
namespace DK
open PySem PySem.Spec PyProof.Rows L2 RZ DL
section
variable {P : Program} {w : World} {K : PySem.W.Frag} {mg : Str → Option Value} {base : Heap} {C f0 fC CM fR : Addr}
def spAskLines (K : PySem.W.Frag) : Sp := fun vs H Q _ => ∃ (b dd : Addr) (bs : List Int) (ds : List (List Int)), vs = [.ref b, .ref dd] ∧ TupD H b (bs.map V.int) ∧ TupTI K H dd ds ∧ CalOk bs ds ∧ ∀ H', Same H H' → Q .non H'
def spMade (K : PySem.W.Frag) (C : Addr) : Sp := fun vs H Q _ => ∃ (b dd : Addr) (bs : List Int) (ds : List (List Int)), vs = [.ref b, .ref dd] ∧ TupD H b (bs.map V.int) ∧ TupTD H dd ds ∧ CalOk bs ds ∧ ∀ c H', H c = none → Same H H' → CalAt K C H' c bs ds → Q (.ref c) H'
end
end DK
set_option Elab.async false
set_option linter.all false
set_option maxRecDepth 100000
set_option maxHeartbeats 2000000
namespace DK
open PySem PySem.Spec PyProof.Rows L2 RZ DL
section
variable {P : Program} {w : World} {K : PySem.W.Frag} {mg : Str → Option Value} {base : Heap} {C f0 fC CM fR : Addr}
def spPattern (K : PySem.W.Frag) : Sp := fun vs H Q _ => ∃ (a : Addr) (k : Int), vs = [.ref a, .int k] ∧ Src a H ∧ 2 ≤ k ∧ k ≤ 1000 ∧ ∀ q ps H', Stay a H H' → TupD H' q (ps.map V.int) → patB ps = true → ps ≠ [] → ps.sum ≤ k → Q (.ref q) H'
end
end DK
set_option Elab.async false
set_option linter.all false
set_option maxRecDepth 100000
set_option maxHeartbeats 4000000
namespace DK
open PySem PySem.Spec PyProof.Rows L2 RZ DL
section
variable {P : Program} {w : World} {K : PySem.W.Frag} {mg : Str → Option Value} {base : Heap} {C f0 fC CM fR : Addr}
def spCalendar (K : PySem.W.Frag) : Sp := fun vs H Q _ => ∃ (a p : Addr) (menu : List Int), vs = [.ref a, .ref p] ∧ Src a H ∧ H p = some (.lst (menu.map V.int)) ∧ p ≠ a ∧ 0 < menu.length ∧ menu.length < 1000 ∧ (∀ n ∈ menu, 1 ≤ n ∧ n ≤ 12) ∧
  ∀ t b d bs ds H', Stay a H H' → TK H H' → H' t = some (.tup [.ref b, .ref d]) → TupD H' b (bs.map V.int) → TupTD H' d ds → CalOk bs ds → ((bs.length : Nat) : Int) ∈ menu → Q (.ref t) H'
end
end DK
set_option Elab.async false
set_option linter.all false
set_option maxRecDepth 100000
set_option maxHeartbeats 2000000
namespace DK
open PySem PySem.Spec PyProof.Rows L2 RZ DL
abbrev s_share : Stmt := topS 29
abbrev N_share : List Str := ["n", "d", "common"]
theorem sc_share : FnScope N_share ["n", "d"] (defScope s_share) := ⟨rfl, rfl, rfl, by decide +kernel, rfl, by decide +kernel, by decide +kernel⟩
theorem b_share : BindOk "share" s_share ["n", "d"] := fun _ _ _ _ _ _ us hl => match us, hl with | [_, _], _ => rfl

abbrev s_minus : Stmt := topS 30
abbrev N_minus : List Str := ["one", "two"]
theorem sc_minus : FnScope N_minus ["one", "two"] (defScope s_minus) := ⟨rfl, rfl, rfl, by decide +kernel, rfl, by decide +kernel, by decide +kernel⟩
theorem b_minus : BindOk "minus" s_minus ["one", "two"] := fun _ _ _ _ _ _ us hl => match us, hl with | [_, _], _ => rfl

abbrev s_times : Stmt := topS 31
abbrev N_times : List Str := ["one", "two"]
theorem sc_times : FnScope N_times ["one", "two"] (defScope s_times) := ⟨rfl, rfl, rfl, by decide +kernel, rfl, by decide +kernel, by decide +kernel⟩
theorem b_times : BindOk "times" s_times ["one", "two"] := fun _ _ _ _ _ _ us hl => match us, hl with | [_, _], _ => rfl

section
variable {P : Program} {w : World} {K : PySem.W.Frag} {mg : Str → Option Value} {base : Heap} {CC : Addr}
/-- of two numbers: their share; of a second that is 0: BadCount -/
def spShare (CC : Addr) : Sp := fun vs H Q E => ∃ (n d : Int) (k : Nat), vs = [.int n, .int d] ∧ Bit k n ∧ Bit k d ∧ k < 9000 ∧ (d ≠ 0 → ∀ p H', Same H H' → ShD H' p (Rat.divInt n d) → Q (.ref p) H') ∧ (d = 0 → RaisesW CC (.int d) H E)
theorem ca_share {f0 : Addr} (T_BadCount : Er K mg "BadCount" CC f0) (F_Refused : ErI P w K mg base f0) (g_gcd : mg "gcd" = some (.builtin "math.gcd")) (U : Up K mg "share" s_share) : Ca P w K mg base 3 "share" s_share ["n", "d"] (spShare CC) := by
  refine caX U sc_share (fun vs H Q E h => by obtain ⟨n, d, k, rfl, _⟩ := h; rfl) fun f cdv A outer s H vs Q E hr h => ?_
  obtain ⟨n, d, k, rfl, bn, bd, hk, q, e⟩ := h
  refine ⟨_, (pss_cons (ps_if (pt_cmpR op_eq (pv 1) pe_int (nomark _)) (pss_one (ps_raiseW T_BadCount F_Refused rfl hr (takes_of rfl rfl rfl rfl) (pv 1)))
      pss_nil)
      (pss_cons (ps_set (i := 2) sc_share.nd rfl (Or.inl rfl) (pe_callBfun cr_gcd (by rfl) g_gcd (pa_cons (pv 0) (pa_cons (pv 1) pa_nil))))
      (pss_cons (ps_if (pt_cmpR op_lt (pv 1) pe_int (nomark _)) (pss_one (ps_set (i := 2) sc_share.nd rfl (Or.inl rfl) (pe_un un_neg (pv 2))))
      pss_nil)
      (pss_one (ps_ret (pe_tupD (pa_cons (pe_op op_fdivS (pv 0) (pv 2)) (pa_cons (pe_op op_fdivS (pv 1) (pv 2)) pa_nil)))))))), ?_⟩
  refine ⟨_, rfl, rfl, _, rfl, ?_⟩
  refine ite2 (fun h => ?_) (fun h => ?_)
  · have hd : d = 0 := by simpa using h
    exact ⟨_, rfl, e hd⟩
  · have hd : d ≠ 0 := by simpa using h
    have hg := gcdI_pos (n := n) hd
    have hb : (gcdI n d).natAbs.log2 < 9000 := by
      have h1 : (gcdI n d).natAbs ≤ d.natAbs := by
        have h2 := Nat.le_of_dvd (by omega) (Int.natAbs_dvd_natAbs.mpr (gcdI_dvdR n d))
        exact h2
      have h3 : Bit k (gcdI n d) := Nat.lt_of_le_of_lt h1 bd
      have := h3.log
      omega
    have hs := share_num (n := n) hd
    have ht := share_den (n := n) hd
    refine ⟨_, rfl, _, rfl, n, d, rfl, _, rfl, _, _, rfl, rfl, _, rfl, ?_⟩
    refine ite2 (fun h => ?_) (fun h => ?_)
    · have hl : d < 0 := of_decide_eq_true h
      rw [if_pos hl] at hs ht
      have hb2 : (-gcdI n d).natAbs.log2 < 9000 := by
        rw [Int.natAbs_neg]
        exact hb
      refine ⟨_, rfl, _, rfl, _, rfl, _, rfl, _, _, rfl, rfl, ⟨by show -gcdI n d ≠ 0; omega, hb2⟩, _, rfl, _, rfl, _, _, rfl, rfl, ⟨by show -gcdI n d ≠ 0; omega, hb2⟩, (by show 2 ≤ sizeLine; decide), fun p H' s' hp => q hd p H' s' ?_⟩
      unfold ShD
      rw [← hs, ← ht]
      exact hp
    · have hl : ¬ d < 0 := fun z => h (decide_eq_true z)
      rw [if_neg hl] at hs ht
      refine ⟨_, rfl, _, rfl, _, _, rfl, rfl, ⟨by show gcdI n d ≠ 0; omega, hb⟩, _, rfl, _, rfl, _, _, rfl, rfl, ⟨by show gcdI n d ≠ 0; omega, hb⟩, (by show 2 ≤ sizeLine; decide), fun p H' s' hp => q hd p H' s' ?_⟩
      unfold ShD
      rw [← hs, ← ht]
      exact hp
def spBin (f : Rat → Rat → Rat) : Sp := fun vs H Q _ => ∃ (a b : Addr) (x y : Rat) (j k : Nat), vs = [.ref a, .ref b] ∧ ShD H a x ∧ ShD H b y ∧ BitR j x ∧ BitR k y ∧ j + k < 8000 ∧ ∀ p H', Same H H' → ShD H' p (f x y) → Q (.ref p) H'
theorem ca_minus (c_share : Ca P w K mg base 3 "share" s_share ["n", "d"] (spShare CC)) (U : Up K mg "minus" s_minus) : Ca P w K mg base 4 "minus" s_minus ["one", "two"] (spBin (· - ·)) := by
  refine ca0 U sc_minus (fun vs H Q E h => by obtain ⟨a, b, x, y, j, k, rfl, _⟩ := h; rfl) fun f cdv A outer s H vs Q E hr h => ?_
  obtain ⟨a, b, x, y, j, k, rfl, ha, hb, bx, by_, hjk, q⟩ := h
  refine ⟨_, (pss_one (ps_ret (pe_ca c_share b_share hr ps0 (pa_cons (pe_op op_sub (pe_op op_mulW (pe_ix (ix_tupK K rfl) (pv 0) pe_int (fun _ _ => rfl)) (pe_ix (ix_tupK K rfl) (pv 1) pe_int (fun _ _ => rfl))) (pe_op op_mulW (pe_ix (ix_tupK K rfl) (pv 1) pe_int (fun _ _ => rfl)) (pe_ix (ix_tupK K rfl) (pv 0) pe_int (fun _ _ => rfl)))) (pa_cons (pe_op op_mulW (pe_ix (ix_tupK K rfl) (pv 0) pe_int (fun _ _ => rfl)) (pe_ix (ix_tupK K rfl) (pv 1) pe_int (fun _ _ => rfl))) pa_nil))))), ?_⟩
  refine ⟨_, rfl, a, _, 0, _, rfl, rfl, ha.sq, at0, _, rfl, b, _, 1, _, rfl, rfl, hb.sq, at1, _, _, rfl, rfl, bx.1.mulW by_.2 (by omega), _, rfl, b, _, 0, _, rfl, rfl, hb.sq, at0, _, rfl, a, _, 1, _, rfl, rfl, ha.sq, at1, _, _, rfl, rfl, by_.1.mulW bx.2 (by omega), _, _, rfl, rfl, _, rfl, a, _, 1, _, rfl, rfl, ha.sq, at1, _, rfl, b, _, 1, _, rfl, rfl, hb.sq, at1, _, _, rfl, rfl, bx.2.mulW by_.2 (by omega), _, _, j + k + 1, rfl, (bx.1.mul by_.2).sub ((by_.1.mul bx.2).up (by omega)), (bx.2.mul by_.2).up (by omega), by omega, fun _ p H' s' hp => q p H' s' ?_, fun h => absurd h (dens_ne x y)⟩
  show ShD H' p (x - y)
  rw [rat_sub]
  exact hp
theorem ca_times (c_share : Ca P w K mg base 3 "share" s_share ["n", "d"] (spShare CC)) (U : Up K mg "times" s_times) : Ca P w K mg base 4 "times" s_times ["one", "two"] (spBin (· * ·)) := by
  refine ca0 U sc_times (fun vs H Q E h => by obtain ⟨a, b, x, y, j, k, rfl, _⟩ := h; rfl) fun f cdv A outer s H vs Q E hr h => ?_
  obtain ⟨a, b, x, y, j, k, rfl, ha, hb, bx, by_, hjk, q⟩ := h
  refine ⟨_, (pss_one (ps_ret (pe_ca c_share b_share hr ps0 (pa_cons (pe_op op_mulW (pe_ix (ix_tupK K rfl) (pv 0) pe_int (fun _ _ => rfl)) (pe_ix (ix_tupK K rfl) (pv 1) pe_int (fun _ _ => rfl))) (pa_cons (pe_op op_mulW (pe_ix (ix_tupK K rfl) (pv 0) pe_int (fun _ _ => rfl)) (pe_ix (ix_tupK K rfl) (pv 1) pe_int (fun _ _ => rfl))) pa_nil))))), ?_⟩
  refine ⟨_, rfl, a, _, 0, _, rfl, rfl, ha.sq, at0, _, rfl, b, _, 0, _, rfl, rfl, hb.sq, at0, _, _, rfl, rfl, bx.1.mulW by_.1 (by omega), _, rfl, a, _, 1, _, rfl, rfl, ha.sq, at1, _, rfl, b, _, 1, _, rfl, rfl, hb.sq, at1, _, _, rfl, rfl, bx.2.mulW by_.2 (by omega), _, _, j + k, rfl, bx.1.mul by_.1, bx.2.mul by_.2, by omega, fun _ p H' s' hp => q p H' s' ?_, fun h => absurd h (dens_ne x y)⟩
  show ShD H' p (x * y)
  rw [rat_mul]
  exact hp
end
end DK
set_option Elab.async false
set_option linter.all false
set_option maxRecDepth 100000
set_option maxHeartbeats 2000000
namespace DK
open PySem PySem.Spec PyProof.Rows L2 RZ DL
abbrev s_pairs_of : Stmt := topS 32
abbrev N_pairs_of : List Str := ["found", "place"]
theorem sc_pairs_of : FnScope N_pairs_of ["found"] (defScope s_pairs_of) := ⟨rfl, rfl, rfl, by decide +kernel, rfl, by decide +kernel, by decide +kernel⟩
theorem b_pairs_of : BindOk "pairs_of" s_pairs_of ["found"] := fun _ _ _ _ _ _ us hl => match us, hl with | [_], _ => rfl

abbrev s_first_days : Stmt := topS 36
abbrev N_first_days : List Str := ["start", "chances", "found", "left", "i", "chance"]
theorem sc_first_days : FnScope N_first_days ["start", "chances"] (defScope s_first_days) := ⟨rfl, rfl, rfl, by decide +kernel, rfl, by decide +kernel, by decide +kernel⟩
theorem b_first_days : BindOk "first_days" s_first_days ["start", "chances"] := fun _ _ _ _ _ _ us hl => match us, hl with | [_, _], _ => rfl

structure BlS (mg : Str → Option Value) : Prop where
  sorted : mg "sorted" = none
  set : mg "set" = none
section
variable {P : Program} {w : World} {K : PySem.W.Frag} {mg : Str → Option Value} {base : Heap} {CC : Addr}
theorem shapedP1 (ns : List Int) : SeqAt.shaped (P1 ns) = true := by
  have := depth1 ns
  unfold SeqAt.shaped
  simp [lay1]
  omega
/-- days with shares, as they are kept -/
abbrev DS := List (Int × Rat)
def alS (M : DS) : AL := M.map fun e => (e.1, [e.2.num, (e.2.den : Nat)])
/-- the pairs that are told -/
def PairsD (H : Hp) (p : Addr) (M : DS) : Prop := ∃ qs : List Addr, TupD H p (qs.map V.ref) ∧ qs.length = M.length ∧ ∀ (i : Nat) (q : Addr) (e : Int × Rat), qs[i]? = some q → M[i]? = some e → ∃ u : Addr, TupD H q [.int e.1, .ref u] ∧ ShD H u e.2
def spPairs (K : PySem.W.Frag) : Sp := fun vs H Q _ => ∃ (D : Addr) (M0 : DM) (M : DS), vs = [.ref D] ∧ DictL H D M0 ∧ alOf M0 = alS M ∧ (M.map Prod.fst).Pairwise (· < ·) ∧ M.length ≤ 60 ∧ ∀ p H', Same H H' → PairsD H' p (M.filter fun e => decide (e.2 ≠ 0)) → Q (.ref p) H'
theorem ca_pairs_of (B : Bl mg) (Bs : BlS mg) (U : Up K mg "pairs_of" s_pairs_of) : Ca P w K mg base 1 "pairs_of" s_pairs_of ["found"] (spPairs K) := by
  refine ca0 U sc_pairs_of (fun vs H Q E h => by obtain ⟨D, M0, M, rfl, _⟩ := h; rfl) fun f cdv A outer s H vs Q E hr h => ?_
  obtain ⟨D, M0, M, rfl, hD, hal, hasc, hl, q⟩ := h
  have hu64 := hr.units
  have hu1 := Nat.lt_of_le_of_lt (Nat.add_le_add_left (show 1 ≤ 64 by decide) _) hr.units
  refine ⟨_, (pss_one (ps_ret (pe_callTy call_tuple_D (by rfl) B.tuple (by decide +kernel) (pa_cons (pe_lc (own := [("place", 1)]) (g := (gName 1)) (by rfl) sc_pairs_of.nd (pi_list (pe_callB (call_sortedDI rfl) (by rfl) Bs.sorted (by decide +kernel) (pa_cons (pv 0) pa_nil))) (blkOk_by (N := N_pairs_of) (own := [("place", 1)]) (sc := defScope s_pairs_of) (by decide +kernel)) (fun _ _ _ _ _ => pg_name (i := 1) sc_pairs_of.nd rfl (Or.inl rfl)) (fun _ _ _ _ _ => (pts_one (pt_cmpR (op_neDK K rfl hu64) (pe_dget hu1 (pv 0) (pv 1) (fun _ _ => rfl)) (pe_tupD (pa_cons pe_int (pa_cons pe_int pa_nil))) (nomark _)))) (fun _ _ _ _ _ => (pe_tupD (pa_cons (pv 1) (pa_cons (pe_dget hu1 (pv 0) (pv 1) (fun _ _ => rfl)) pa_nil))))) pa_nil)))), ?_⟩
  have hkeys : (DL.kvsOf M0).map (fun x => x.fst) = (M0.map Prod.fst).map Sum.inl := by simp [DL.kvsOf]
  have hk0 : M0.map Prod.fst = M.map Prod.fst := by
    have := congrArg (List.map Prod.fst) hal
    simpa [alOf, alS, Function.comp_def] using this
  have hlen : M0.length = M.length := by
    have := congrArg List.length hal
    simpa [alOf, alS] using this
  have hnd : (M0.map Prod.fst).Nodup := by
    rw [hk0]
    exact hasc.imp fun h => by omega
  refine ⟨_, rfl, D, _, M0.map Prod.fst, rfl, .inl hD.1, hkeys, (by rw [List.length_map]; omega), fun ys p hperm hle hp => ?_⟩
  have hys : ys = M0.map Prod.fst := asc_perm hperm hle (by rw [hk0]; exact hasc.imp fun h => by omega)
  subst hys
  have s1 := Same.new (o := .lst ((M0.map Prod.fst).map V.int)) hp
  have hpl : upd H p (.lst ((M0.map Prod.fst).map V.int)) p = some (.lst ((M0.map Prod.fst).map V.int)) := upd_same
  have hD1 := hD.same s1
  generalize upd H p (.lst ((M0.map Prod.fst).map V.int)) = H1 at s1 hpl hD1
  refine ⟨p, rfl, ⟨_, SqL.of hpl⟩, fun D2 hD2 => lc_it (walk_list (xs := (M0.map Prod.fst).map V.int)) (fun i H' => ∃ us : List Addr, Acc H1 D2 (us.map V.ref) H' ∧ us.length = ((M.take i).filter fun e => decide (e.2 ≠ 0)).length ∧ ∀ (j : Nat) (u : Addr) (e : Int × Rat), us[j]? = some u → ((M.take i).filter fun e => decide (e.2 ≠ 0))[j]? = some e → ∃ v : Addr, TupD H' u [.int e.1, .ref v] ∧ ShD H' v e.2) ⟨[], Acc.start hD2, rfl, fun j u e h => by cases h⟩ (fun i H' _ p => by obtain ⟨us, p, _⟩ := p; exact SqL.of (p.2.1 _ _ hpl)) ?_ ?_⟩
  · rintro i x H' H'' hi ⟨us, ⟨a1, a2, a3⟩, hl2, hrows⟩ ⟨rfl, hx⟩
    obtain ⟨z, hz, rfl⟩ := map_of hx
    have hi0 : i < M0.length := by
      have := (List.getElem?_eq_some_iff.mp hz).1
      simpa using this
    have hi' : i < M.length := by omega
    have hz2 : z = M0[i].1 := by
      rw [List.getElem?_map, List.getElem?_eq_getElem hi0] at hz
      cases hz
      rfl
    subst hz2
    have hm0 : M0[i] ∈ M0 := List.getElem_mem _
    have hMi : M[i]? = some M[i] := by simp
    have hent : (M0[i].1, M0[i].2.2) = (M[i].1, [M[i].2.num, ((M[i].2.den : Nat) : Int)]) := by
      have h1 : (alOf M0)[i]? = some (M0[i].1, M0[i].2.2) := by simp [alOf, hi0]
      have h2 : (alS M)[i]? = some (M[i].1, [M[i].2.num, ((M[i].2.den : Nat) : Int)]) := by simp [alS, hi']
      rw [hal, h2] at h1
      exact (Option.some.inj h1).symm
    have hkey : M0[i].1 = M[i].1 := congrArg Prod.fst hent
    have hval : M0[i].2.2 = [M[i].2.num, ((M[i].2.den : Nat) : Int)] := congrArg Prod.snd hent
    obtain ⟨v1, _⟩ := val_of hnd hm0
    have hget : ∀ {G : Hp}, G D = some (.dK (DL.kvsOf M0)) → DGet G D (.int M0[i].1) (some (.ref M0[i].2.1)) := fun hG => by
      have := DGet.k (k := Sum.inl M0[i].1) hG
      rw [v1] at this
      exact this
    have hDi := hD1.same a2
    have htup := hDi.2 _ hm0
    rw [hval] at htup
    have hstep : ∀ b : Bool, decide (M[i].2 ≠ 0) = b → (M.take (i + 1)).filter (fun e => decide (e.2 ≠ 0)) = (M.take i).filter (fun e => decide (e.2 ≠ 0)) ++ (if b = true then [M[i]] else []) := fun b hb => by
      rw [List.take_add_one, hMi, List.filter_append]
      congr 1
      subst hb
      by_cases h : M[i].2 = 0 <;> simp [h]
    have hne0 : ([M[i].2.num, ((M[i].2.den : Nat) : Int)] = [0, 1]) ↔ M[i].2 = 0 := by
      constructor
      · intro h
        exact Rat.num_eq_zero.mp (List.cons.inj h).1
      · intro h
        rw [h]
        rfl
    refine ⟨rfl, _, rfl, _, rfl, D, _, rfl, hget hDi.1, (by show 2 ≤ sizeLine; decide), fun t1 G1 g1 ht1 => ?_⟩
    refine ⟨P1 [M[i].2.num, ((M[i].2.den : Nat) : Int)], P1 [0, 1], dp_tup ((htup.same g1).sq), dp_tup (ns := [0, 1]) ht1.sq, shapedP1 _, shapedP1 _, _, rfl, ?_⟩
    rw [eqv1]
    have hDg := hDi.same g1
    refine ite2 (fun h => ?_) (fun h => ?_)
    · have hnz : M[i].2 ≠ 0 := fun z => by
        rw [decide_eq_true (hne0.mpr z)] at h
        cases h
      refine ⟨_, rfl, _, rfl, _, rfl, D, _, rfl, hget hDg.1, (by show 2 ≤ sizeLine; decide), fun t2 G2 g2 ht2 => ?_⟩
      have a3' := g2 _ _ (g1 _ _ a3)
      have hF := hstep true (by simpa using hnz)
      rw [if_pos rfl] at hF
      have tk : TK G2 (upd G2 D2 (.lst (us.map V.ref ++ [.ref t2]))) := TK.lst a3'
      refine ⟨_, a3', ?_, us ++ [t2], ⟨a1, Same.mut ((a2.trans g1).trans g2) a1, by rw [upd_same, List.map_append]; rfl⟩, by rw [hF, List.length_append, List.length_append, hl2]; rfl, fun j v y h1 h2 => ?_⟩
      · rw [List.length_map, hl2]
        have : ((M.take i).filter fun e => decide (e.2 ≠ 0)).length ≤ i := Nat.le_trans (List.length_filter_le _ _) (by rw [List.length_take]; omega)
        exact Nat.lt_of_le_of_lt this (Nat.lt_of_lt_of_le (show i < 100 by omega) (by decide))
      · rw [hF] at h2
        by_cases hj : j < us.length
        · rw [List.getElem?_append_left hj] at h1
          rw [List.getElem?_append_left (by omega)] at h2
          obtain ⟨v2, r1, r2⟩ := hrows j v y h1 h2
          exact ⟨v2, ((r1.same g1).same g2).tk tk, TupD.tk ((r2.same g1).same g2) tk⟩
        · have hj2 : j = us.length := by
            have := (List.getElem?_eq_some_iff.mp h1).1
            rw [List.length_append] at this
            simp at this
            omega
          subst hj2
          rw [List.getElem?_append_right (Nat.le_refl _), Nat.sub_self] at h1
          rw [List.getElem?_append_right (by omega), hl2, Nat.sub_self] at h2
          cases h1
          cases h2
          rw [← hkey]
          exact ⟨_, ht2.tk tk, TupD.tk ((htup.same g1).same g2) tk⟩
    · have hz0 : M[i].2 = 0 := Classical.byContradiction fun z => h (by rw [decide_eq_false (fun y => z (hne0.mp y))]; rfl)
      have hF := hstep false (by simpa using hz0)
      rw [if_neg (by decide), List.append_nil] at hF
      exact ⟨us, ⟨a1, a2.trans g1, g1 _ _ a3⟩, by rw [hF]; exact hl2, fun j v y h1 h2 => by
        rw [hF] at h2
        obtain ⟨v2, r1, r2⟩ := hrows j v y h1 h2
        exact ⟨v2, r1.same g1, ShD.same r2 g1⟩⟩
  · rintro G ⟨us, ⟨a1, a2, a3⟩, hl2, hrows⟩
    have e : ((M0.map Prod.fst).map V.int).length = M.length := by simp [hlen]
    rw [e, List.take_length] at hl2 hrows
    exact ⟨D2, _, rfl, SqL.of a3, fun p2 G2 g2 hp2 => q p2 G2 ((s1.trans a2).trans g2) ⟨us, hp2, hl2, fun i u e h1 h2 => by
      obtain ⟨v, r1, r2⟩ := hrows i u e h1 h2
      exact ⟨v, r1.same g2, r2.same g2⟩⟩⟩
def leftR (cs : List Rat) : Nat → Rat
  | 0 => 1
  | i + 1 => leftR cs i * (1 - cs.getD i 0)
theorem left_step (cs : List Rat) (i : Nat) : leftR cs i - leftR cs i * cs.getD i 0 = leftR cs (i + 1) := by
  show _ = leftR cs i * (1 - cs.getD i 0)
  rw [Rat.sub_eq_add_neg, Rat.sub_eq_add_neg, Rat.mul_add, Rat.mul_one, Rat.mul_neg]
theorem left_bit {cs : List Rat} (hb : ∀ c ∈ cs, BitR 16 c) : ∀ i, BitR (1 + 18 * i) (leftR cs i)
  | 0 => ⟨by show (1 : Nat) < 2; decide, by show (1 : Nat) < 2; decide⟩
  | i + 1 => by
    have h := left_bit hb i
    have hc : BitR 16 (cs.getD i 0) := by
      by_cases hi : i < cs.length
      · have e : cs.getD i 0 = cs[i] := getD_of (by simp)
        rw [e]
        exact hb _ (List.getElem_mem _)
      · have e : cs.getD i 0 = 0 := by simp [List.getD, List.getElem?_eq_none (Nat.le_of_not_lt hi)]
        rw [e]
        exact ⟨by show (0 : Nat) < _; decide, by show (1 : Nat) < _; decide⟩
    have h1 : BitR 1 (1 : Rat) := ⟨by show (1 : Nat) < 2; decide, by show (1 : Nat) < 2; decide⟩
    exact (h.mul (h1.sub hc)).up (by omega)
def dayL (s : Int) (cs : List Rat) (n : Nat) : DS := (List.range n).map fun i : Nat => (s + (i : Int), leftR cs i * cs.getD i 0)
theorem dayL_succ (s : Int) (cs : List Rat) (n : Nat) : dayL s cs (n + 1) = dayL s cs n ++ [(s + (n : Int), leftR cs n * cs.getD n 0)] := by
  unfold dayL
  rw [List.range_succ, List.map_append]
  rfl
theorem dayL_keys (s : Int) (cs : List Rat) (n : Nat) : (dayL s cs n).map Prod.fst = (List.range n).map fun i : Nat => s + (i : Int) := by
  unfold dayL
  rw [List.map_map]
  rfl
theorem alS_app (a b : DS) : alS (a ++ b) = alS a ++ alS b := List.map_append
def daysM (s : Int) (cs : List Rat) : DS := dayL s cs cs.length ++ [(s + (cs.length : Int), leftR cs cs.length)]
def spFirst : Sp := fun vs H Q _ => ∃ (a : Addr) (us : List Addr) (s : Int) (cs : List Rat), vs = [.int s, .ref a] ∧ H a = some (.lst (us.map V.ref)) ∧ us.length = cs.length ∧ (∀ (i : Nat) (u : Addr) (c : Rat), us[i]? = some u → cs[i]? = some c → ShD H u c) ∧ (∀ c ∈ cs, BitR 16 c) ∧ cs.length ≤ 11 ∧
  ∀ p H', Same H H' → PairsD H' p ((daysM s cs).filter fun e => decide (e.2 ≠ 0)) → Q (.ref p) H'
theorem ca_first_days (B : Bl mg) (c_times : Ca P w K mg base 4 "times" s_times ["one", "two"] (spBin (· * ·))) (c_minus : Ca P w K mg base 4 "minus" s_minus ["one", "two"] (spBin (· - ·))) (c_pairs_of : Ca P w K mg base 1 "pairs_of" s_pairs_of ["found"] (spPairs K)) (U : Up K mg "first_days" s_first_days) :
    Ca P w K mg base 5 "first_days" s_first_days ["start", "chances"] spFirst := by
  refine ca0 U sc_first_days (fun vs H Q E h => by obtain ⟨a, us, s, cs, rfl, _⟩ := h; rfl) fun f cdv A outer s H vs Q E hr h => ?_
  obtain ⟨a, us, st, cs, rfl, ha, hul, hus, hbit, hcl, q⟩ := h
  have hu64 := hr.units
  have hu1 := Nat.lt_of_le_of_lt (Nat.add_le_add_left (show 1 ≤ 64 by decide) _) hr.units
  refine ⟨_, (pss_cons (ps_set (i := 2) sc_first_days.nd rfl (Or.inl rfl) pe_dnewK)
      (pss_cons (ps_set (i := 3) sc_first_days.nd rfl (Or.inl rfl) (pe_tupD (pa_cons pe_int (pa_cons pe_int pa_nil))))
      (pss_cons (ps_for PassesOwn.never rfl (pi_enum (by rfl) B.enumerate (pa_cons (pv 1) pa_nil)) (pg_tup rfl (pgs_cons (pg_name (i := 4) sc_first_days.nd rfl (Or.inl rfl)) (pgs_cons (pg_name (i := 5) sc_first_days.nd rfl (Or.inl rfl)) pgs_nil)))
      (pss_cons (ps_dput hu1 (pv 2) (pe_op op_add (pv 0) (pv 4)) (pe_ca c_times b_times hr ps0 (pa_cons (pv 3) (pa_cons (pv 5) pa_nil))) rfl)
      (pss_one (ps_set (i := 3) sc_first_days.nd rfl (Or.inl rfl) (pe_ca c_minus b_minus hr ps0 (pa_cons (pv 3) (pa_cons (pe_dget hu1 (pv 2) (pe_op op_add (pv 0) (pv 4)) (fun _ _ => rfl)) pa_nil)))))))
      (pss_cons (ps_dput hu1 (pv 2) (pe_op op_add (pv 0) (pe_callB (call_lenK K rfl) (by rfl) B.len (by decide +kernel) (pa_cons (pv 1) pa_nil))) (pv 3) rfl)
      (pss_one (ps_ret (pe_ca c_pairs_of b_pairs_of hr ps0 (pa_cons (pv 2) pa_nil)))))))), ?_⟩
  have key_new : ∀ (M : DM) (n : Nat), alOf M = alS (dayL st cs n) → st + (n : Int) ∉ M.map Prod.fst := fun M n hM hm => by
    have e : M.map Prod.fst = (dayL st cs n).map Prod.fst := by
      have := congrArg (List.map Prod.fst) hM
      simpa [alOf, alS, Function.comp_def] using this
    rw [e, dayL_keys] at hm
    obtain ⟨j, hj, he⟩ := List.mem_map.mp hm
    have := List.mem_range.mp hj
    omega
  have len_of : ∀ (M : DM) (n : Nat), alOf M = alS (dayL st cs n) → M.length = n := fun M n hM => by
    have := congrArg List.length hM
    simpa [alOf, alS, dayL] using this
  refine fun D hD => ?_
  have sD := Same.new (o := .dK []) hD
  refine ⟨(by show 2 ≤ sizeLine; decide), fun Lf H0 s0 hLf => ?_⟩
  refine ⟨_, rfl, a, _, rfl, SqL.of (s0 _ _ (sD _ _ ha)), for_it (walk_enum (xs := us.map V.ref)) (fun i σ H' => Same H H' ∧ ∃ (Lf : Addr) (M : DM) (x4 x5 : Option V), σ = [some (.int st), some (.ref a), some (.ref D), some (.ref Lf), x4, x5] ∧ DictL H' D M ∧ alOf M = alS (dayL st cs i) ∧ ShD H' Lf (leftR cs i)) ⟨sD.trans s0, Lf, [], none, none, rfl, ⟨s0 _ _ upd_same, fun e h => nomatch h⟩, rfl, hLf⟩ (fun i σ H' _ p => SqL.of (p.1 _ _ ha)) ?_ ?_⟩
  · rintro i x σ H1 H2 hi ⟨s1, Lf, M, x4, x5, rfl, hM, hal, hL⟩ ⟨T0, u, v, rfl, hT, rfl, hu, hv⟩
    cases hu
    obtain ⟨z, hz, rfl⟩ := map_of hv
    have hi' : i < cs.length := by
      have := (List.getElem?_eq_some_iff.mp hz).1
      omega
    have hc : cs[i]? = some cs[i] := by simp
    have hcg : cs.getD i 0 = cs[i] := getD_of hc
    have s2 : Same H (upd H1 T0 (.tup [.int (i : Nat), .ref z])) := Same.mut s1 (same_back s1 hT)
    have sT : Same H1 (upd H1 T0 (.tup [.int (i : Nat), .ref z])) := Same.new hT
    have hM2 := hM.same sT
    have hL2 := hL.same sT
    have hz2 := (hus i z _ hz hc).same s2
    have bl := left_bit hbit i
    have bc := hbit cs[i] (List.getElem_mem _)
    refine ⟨T0, _, rfl, SqT.of upd_same, rfl, _, _, rfl, _, _, rfl, rfl, ?_⟩
    generalize upd H1 T0 (.tup [.int (i : Nat), .ref z]) = H2 at s2 hM2 hL2 hz2
    refine ⟨_, rfl, _, rfl, Lf, z, leftR cs i, cs[i], 1 + 18 * i, 16, rfl, hL2, hz2, bl, bc, by omega, fun p3 H3 s3 hp3 => ?_⟩
    have hM3 := hM2.same s3
    have hp3 : ShD H3 p3 (leftR cs i * cs[i]) := hp3
    have hkn := key_new M i hal
    have hput := hM3.put (a := p3) (ns := [(leftR cs i * cs[i]).num, ((leftR cs i * cs[i]).den : Nat)]) hkn hp3
    have hnd : ((M ++ [(st + (i : Int), p3, [(leftR cs i * cs[i]).num, (((leftR cs i * cs[i]).den : Nat) : Int)])]).map Prod.fst).Nodup := by
      have e : (M ++ [(st + (i : Int), p3, [(leftR cs i * cs[i]).num, (((leftR cs i * cs[i]).den : Nat) : Int)])]).map Prod.fst = (dayL st cs (i + 1)).map Prod.fst := by
        have := congrArg (List.map Prod.fst) hal
        rw [dayL_succ, List.map_append, List.map_append]
        congr 1
        simpa [alOf, alS, Function.comp_def] using this
      rw [e, dayL_keys]
      exact List.Pairwise.map _ (fun x y h => by omega) (List.nodup_range (n := i + 1))
    have hL3 := (hL2.same s3).tk (TK.dk (o := .dK (putK (DL.kvsOf M) (Sum.inl (st + (i : Int))) (.ref p3))) hM3.1)
    have hp4 := TupD.tk hp3 (TK.dk (o := .dK (putK (DL.kvsOf M) (Sum.inl (st + (i : Int))) (.ref p3))) hM3.1)
    refine ⟨_, rfl, _, rfl, _, rfl, _, _, rfl, rfl, D, _, rfl, DPut.k (k := Sum.inl (st + (i : Int))) hM3.1 ?_, ?_⟩
    · unfold DL.kvsOf
      rw [List.length_map, len_of M i hal]
      exact Nat.lt_of_lt_of_le (show i < 100 by omega) (by decide)
    have s4 : Same H (upd H3 D (.dK (putK (DL.kvsOf M) (Sum.inl (st + (i : Int))) (.ref p3)))) := Same.mut (s2.trans s3) hD
    generalize upd H3 D (.dK (putK (DL.kvsOf M) (Sum.inl (st + (i : Int))) (.ref p3))) = H4 at hput hL3 hp4 s4
    obtain ⟨v1, _⟩ := val_of hnd (List.mem_append_right M (List.mem_singleton.mpr rfl))
    have hget : DGet H4 D (.int (st + (i : Int))) (some (.ref p3)) := by
      have := DGet.k (k := Sum.inl (st + (i : Int))) hput.1
      rw [v1] at this
      exact this
    refine ⟨_, rfl, _, rfl, _, rfl, _, rfl, _, _, rfl, rfl, D, _, rfl, hget, Lf, p3, leftR cs i, leftR cs i * cs[i], 1 + 18 * i, 1 + 18 * i + 16, rfl, hL3, hp4, bl, bl.mul bc, by omega, fun p5 H5 s5 hp5 => ?_⟩
    have hp5 : ShD H5 p5 (leftR cs i - leftR cs i * cs[i]) := hp5
    rw [← hcg, left_step] at hp5
    refine ⟨s4.trans s5, p5, _, _, _, rfl, hput.same s5, ?_, hp5⟩
    rw [dayL_succ, alS_app, ← hal, hcg]
    simp [alOf, alS]
  · rintro σ H1 ⟨s1, Lf, M, x4, x5, rfl, hM, hal, hL⟩
    have hul2 : (us.map V.ref).length = cs.length := by simp [hul]
    rw [hul2] at hal hL
    have hkn := key_new M cs.length hal
    have hput := hM.put (a := Lf) (ns := [(leftR cs cs.length).num, ((leftR cs cs.length).den : Nat)]) hkn hL
    refine ⟨_, rfl, _, rfl, _, rfl, _, rfl, a, _, rfl, .inl (SqL.of (s1 _ _ ha)), ?_⟩
    rw [hul2]
    refine ⟨_, _, rfl, rfl, D, _, rfl, DPut.k (k := Sum.inl (st + (cs.length : Int))) hM.1 ?_, ?_⟩
    · unfold DL.kvsOf
      rw [List.length_map, len_of M _ hal]
      exact Nat.lt_of_lt_of_le (show cs.length < 100 by omega) (by decide)
    have s4 : Same H (upd H1 D (.dK (putK (DL.kvsOf M) (Sum.inl (st + (cs.length : Int))) (.ref Lf)))) := Same.mut s1 hD
    generalize upd H1 D (.dK (putK (DL.kvsOf M) (Sum.inl (st + (cs.length : Int))) (.ref Lf))) = H4 at hput s4
    refine ⟨_, rfl, D, _, daysM st cs, rfl, hput, ?_, ?_, ?_, fun p H' s' hp => q p H' (s4.trans s') hp⟩
    · unfold daysM
      rw [alS_app, ← hal]
      simp [alOf, alS]
    · unfold daysM
      rw [List.map_append, dayL_keys, List.pairwise_append]
      refine ⟨List.Pairwise.map _ (fun x y h => by omega) (List.pairwise_lt_range (n := cs.length)), by simp, fun x hx y hy => ?_⟩
      obtain ⟨j, hj, rfl⟩ := List.mem_map.mp hx
      have := List.mem_range.mp hj
      simp at hy
      omega
    · unfold daysM
      rw [List.length_append]
      simp [dayL]
      omega
end
end DK
set_option Elab.async false
set_option linter.all false
set_option maxRecDepth 100000
set_option maxHeartbeats 2000000
namespace DK
open PySem PySem.Spec PyProof.Rows L2 RZ DL
abbrev s_meets : Stmt := topS 35
abbrev N_meets : List Str := ["calendar", "d", "k", "s"]
theorem sc_meets : FnScope N_meets ["calendar", "d"] (defScope s_meets) := ⟨rfl, rfl, rfl, by decide +kernel, rfl, by decide +kernel, by decide +kernel⟩
theorem b_meets : BindOk "meets" s_meets ["calendar", "d"] := fun _ _ _ _ _ _ us hl => match us, hl with | [_, _], _ => rfl

abbrev s_ask_leaf : Stmt := topS 17
abbrev N_ask_leaf : List Str := ["calendar", "x"]
theorem sc_ask_leaf : FnScope N_ask_leaf ["calendar", "x"] (defScope s_ask_leaf) := ⟨rfl, rfl, rfl, by decide +kernel, rfl, by decide +kernel, by decide +kernel⟩
theorem b_ask_leaf : BindOk "ask_leaf" s_ask_leaf ["calendar", "x"] := fun _ _ _ _ _ _ us hl => match us, hl with | [_, _], _ => rfl

abbrev s_ask_two_leaves : Stmt := topS 18
abbrev N_ask_two_leaves : List Str := ["calendar", "x", "y"]
theorem sc_ask_two_leaves : FnScope N_ask_two_leaves ["calendar", "x", "y"] (defScope s_ask_two_leaves) := ⟨rfl, rfl, rfl, by decide +kernel, rfl, by decide +kernel, by decide +kernel⟩
theorem b_ask_two_leaves : BindOk "ask_two_leaves" s_ask_two_leaves ["calendar", "x", "y"] := fun _ _ _ _ _ _ us hl => match us, hl with | [_, _, _], _ => rfl

abbrev s_meeting : Stmt := topS 34
abbrev N_meeting : List Str := ["calendar", "x", "y", "later", "d"]
theorem sc_meeting : FnScope N_meeting ["calendar", "x", "y"] (defScope s_meeting) := ⟨rfl, rfl, rfl, by decide +kernel, rfl, by decide +kernel, by decide +kernel⟩
theorem b_meeting : BindOk "meeting" s_meeting ["calendar", "x", "y"] := fun _ _ _ _ _ _ us hl => match us, hl with | [_, _, _], _ => rfl

section
variable {P : Program} {w : World} {K : PySem.W.Frag} {mg : Str → Option Value} {base : Heap} {C fC CC CM CL CS : Addr}
/-- the chance that two lines come into one group on day d -/
def meetR (bs : List Int) (ds : List (List Int)) (d : Nat) : Rat := Rat.divInt ((ds.getD d []).map fun s => s * (s - 1)).sum (aliveAt bs ds d * (aliveAt bs ds d - 1))
theorem pairs_le : ∀ {p : List Int}, (∀ s ∈ p, 2 ≤ s) → 0 ≤ (p.map fun s => s * (s - 1)).sum ∧ (p.map fun s => s * (s - 1)).sum ≤ p.sum * p.sum ∧ 0 ≤ p.sum
  | [], _ => by simp
  | s :: r, h => by
    obtain ⟨a1, a2, a3⟩ := pairs_le (p := r) fun x hx => h x (List.mem_cons_of_mem _ hx)
    have hs := h s List.mem_cons_self
    simp only [List.map_cons, List.sum_cons]
    have e1 : 0 ≤ s * (s - 1) := Int.mul_nonneg (by omega) (by omega)
    have e2 : s * (s - 1) ≤ s * s := Int.mul_le_mul_of_nonneg_left (by omega) (by omega)
    have e3 : (s + r.sum) * (s + r.sum) = s * s + r.sum * r.sum + 2 * (s * r.sum) := by
      rw [Int.add_mul, Int.mul_add, Int.mul_add, Int.mul_comm r.sum s]
      omega
    have e4 : 0 ≤ s * r.sum := Int.mul_nonneg (by omega) a3
    refine ⟨by omega, by omega, by omega⟩
theorem alive_two {bs : List Int} {ds : List (List Int)} (ok : CalOk bs ds) {d : Nat} (hd : d < ds.length) : 2 ≤ aliveAt bs ds d ∧ aliveAt bs ds d ≤ 12 ∧ (ds.getD d []).sum ≤ aliveAt bs ds d ∧ ∀ s ∈ ds.getD d [], 2 ≤ s := by
  have h1 : ds[d]? = some ds[d] := by simp
  have e : ds.getD d [] = ds[d] := getD_of h1
  have hf := ok.fit d _ h1
  obtain ⟨p1, p2, p3⟩ := ok.pat ds[d] (List.getElem_mem _)
  have hg := patB_ge p1
  have hl := len_le_sum hg
  have hp : 0 < ds[d].length := List.length_pos_iff.mpr p2
  have h3 := alive_le ok.pre d
  have n12 := ok.n12
  rw [e]
  exact ⟨by omega, by omega, hf, hg⟩
theorem meet_bits {bs : List Int} {ds : List (List Int)} (ok : CalOk bs ds) {d : Nat} (hd : d < ds.length) : Bit 16 ((ds.getD d []).map fun s => s * (s - 1)).sum ∧ Bit 16 (aliveAt bs ds d * (aliveAt bs ds d - 1)) ∧ aliveAt bs ds d * (aliveAt bs ds d - 1) ≠ 0 := by
  obtain ⟨a1, a2, a3, a4⟩ := alive_two ok hd
  obtain ⟨b1, b2, b3⟩ := pairs_le a4
  have e1 : (ds.getD d []).sum * (ds.getD d []).sum ≤ 12 * 12 := Int.mul_le_mul (by omega) (by omega) b3 (by omega)
  have e2 : aliveAt bs ds d * (aliveAt bs ds d - 1) ≤ 12 * 12 := Int.mul_le_mul (by omega) (by omega) (by omega) (by omega)
  have e3 : 2 * 1 ≤ aliveAt bs ds d * (aliveAt bs ds d - 1) := Int.mul_le_mul (by omega) (by omega) (by omega) (by omega)
  refine ⟨?_, ?_, by omega⟩ <;> (unfold Bit; omega)
theorem mem_le : ∀ {p : List Int}, (∀ s ∈ p, 2 ≤ s) → ∀ z ∈ p, z ≤ p.sum
  | [], _, z, h => nomatch h
  | s :: r, h, z, hz => by
    have hs := h s List.mem_cons_self
    have hr := (pairs_le (p := r) fun x hx => h x (List.mem_cons_of_mem _ hx)).2.2
    rw [List.sum_cons]
    rcases List.mem_cons.mp hz with rfl | hz
    · omega
    · have := mem_le (p := r) (fun x hx => h x (List.mem_cons_of_mem _ hx)) z hz
      omega
def spMeets (K : PySem.W.Frag) (C : Addr) : Sp := fun vs H Q _ => ∃ (c : Addr) (bs : List Int) (ds : List (List Int)) (d : Nat), vs = [.ref c, .int d] ∧ CalAt K C H c bs ds ∧ CalOk bs ds ∧ d < ds.length ∧ ∀ p H', Same H H' → ShD H' p (meetR bs ds d) → Q (.ref p) H'
theorem ca_meets (B : Bl mg) (T : ClC K mg C fC) (c_alive : Ca P w K mg base 5 "alive" s_alive ["calendar", "d"] (spAlive K C CM (fun ds => (ds.length : Int)) aliveAt)) (c_share : Ca P w K mg base 3 "share" s_share ["n", "d"] (spShare CC)) (U : Up K mg "meets" s_meets) :
    Ca P w K mg base 6 "meets" s_meets ["calendar", "d"] (spMeets K C) := by
  refine ca0 U sc_meets (fun vs H Q E h => by obtain ⟨c, bs, ds, d, rfl, _⟩ := h; rfl) fun f cdv A outer s H vs Q E hr h => ?_
  obtain ⟨c, bs, ds, d, rfl, hcal, ok, hd, q⟩ := h
  have n12 := ok.n12
  have m11 := ok.m11
  obtain ⟨b1, b2, b3⟩ := meet_bits ok hd
  refine ⟨_, (pss_cons (ps_set (i := 2) sc_meets.nd rfl (Or.inl rfl) (pe_ca c_alive b_alive hr ps0 (pa_cons (pv 0) (pa_cons (pv 1) pa_nil))))
      (pss_one (ps_ret (pe_ca c_share b_share hr ps0 (pa_cons (pe_callB (cr_sumK K rfl rfl) (by rfl) B.sum (by decide +kernel) (pa_cons (pe_lc (own := [("s", 3)]) (g := (gName 3)) (by rfl) sc_meets.nd (pi_tup (pe_ix (ix_tupK K rfl) (pe_fld (pv 0) rfl) (pv 1) (fun _ _ => rfl))) (blkOk_by (N := N_meets) (own := [("s", 3)]) (sc := defScope s_meets) (by decide +kernel)) (fun _ _ _ _ _ => pg_name (i := 3) sc_meets.nd rfl (Or.inl rfl)) (fun _ _ _ _ _ => pts_nil) (fun _ _ _ _ _ => (pe_op op_mul (pv 3) (pe_op op_sub (pv 3) pe_int)))) pa_nil)) (pa_cons (pe_op op_mul (pv 2) (pe_op op_sub (pv 2) pe_int)) pa_nil)))))), ?_⟩
  refine ⟨_, rfl, _, rfl, c, bs, ds, (d : Int), rfl, hcal, (fun p hp => ⟨(ok.pat p hp).1, (ok.pat p hp).2.2⟩), by omega, by omega, fun _ H1 s1 => ?_, fun hn => absurd (show 0 ≤ (d : Int) ∧ (d : Int) ≤ (ds.length : Int) by omega) hn⟩
  rw [Int.toNat_natCast]
  obtain ⟨dx, b, dd, fs, h1, h2, h3, h4, qs, h5, h6, h7⟩ := (hcal.same s1).op
  have hltq : d < qs.length := by omega
  have hdk : ds[d]? = some ds[d] := by simp
  have hps := h7 d _ _ (show qs[d]? = some qs[d] by simp) hdk
  have hpl := (ok.pat ds[d] (List.getElem_mem _)).2.2
  have eg : ds.getD d [] = ds[d] := getD_of hdk
  rw [eg] at b1
  unfold meetR at q
  rw [eg] at q
  refine ⟨_, rfl, c, C, dx, fs, _, rfl, h1, T.cl, T.nD, h3, _, rfl, dd, _, _, .ref qs[d], rfl, rfl, h5, at_of rfl (by simp [hltq]), qs[d], rfl, ⟨_, hps⟩, fun D2 hD2 => lc_it (walk_tup (xs := ds[d].map V.int)) (Cw H1 (fun _ => true) (fun i => V.int (ds[d].getD i 0 * (ds[d].getD i 0 - 1))) D2) (cw0 hD2) (fun i H' _ p => Same.seqT p.2.1 hps) ?_ ?_⟩
  · rintro i x H' H'' hi p ⟨rfl, hx⟩
    obtain ⟨z, hz, rfl⟩ := map_of hx
    have hi' : i < ds[d].length := by simpa using hi
    have hzm : z ∈ ds[d] := List.mem_of_getElem? hz
    obtain ⟨a1, a2, a3, a4⟩ := alive_two ok hd
    rw [eg] at a3 a4
    have hz2 := a4 z hzm
    have hz3 := mem_le a4 z hzm
    refine ⟨rfl, _, rfl, _, rfl, _, _, rfl, rfl, _, _, rfl, rfl, .inl ⟨by omega, by omega⟩, ?_⟩
    exact cwY p (Same.refl _) (by omega) rfl (by rw [getD_of hz])
  · rintro H2 ⟨r1, r2, r3⟩
    have e2 := givn_all ds[d] 0 (fun x => V.int (x * (x - 1)))
    rw [List.length_map, e2] at r3
    obtain ⟨a1, a2, a3, a4⟩ := alive_two ok hd
    refine ⟨D2, ds[d].map (fun x => x * (x - 1)), rfl, SqL.of (by rw [List.map_map]; exact r3), _, rfl, _, rfl, _, _, rfl, rfl, _, _, rfl, rfl, .inl ⟨by omega, by omega⟩, _, _, 16, rfl, b1, b2, by decide, fun _ p H' s' hp => q p H' ((s1.trans r2).trans s') hp, fun h => absurd h b3⟩
def spAskLeaf (K : PySem.W.Frag) (C CL : Addr) : Sp := fun vs H Q E => ∃ (c : Addr) (bs : List Int) (ds : List (List Int)) (x : Int), vs = [.ref c, .int x] ∧ CalAt K C H c bs ds ∧ (0 ≤ x ∧ x < bs.length → Q .non H) ∧ (¬ (0 ≤ x ∧ x < bs.length) → RaisesW CL (.int x) H E)
theorem ca_ask_leaf {CL f0 : Addr} (B : Bl mg) (Tc : ClC K mg C fC) (c_is_from_to : Ca P w K mg base 2 "is_from_to" s_is_from_to ["thing", "low", "high"] spFromTo) (T_BadLeaf : Er K mg "BadLeaf" CL f0) (F_Refused : ErI P w K mg base f0) (U : Up K mg "ask_leaf" s_ask_leaf) :
    Ca P w K mg base 3 "ask_leaf" s_ask_leaf ["calendar", "x"] (spAskLeaf K C CL) := by
  refine caX U sc_ask_leaf (fun vs H Q E h => by obtain ⟨c, bs, ds, x, rfl, _⟩ := h; rfl) fun f cdv A outer s H vs Q E hr h => ?_
  obtain ⟨c, bs, ds, x, rfl, hcal, q1, q2⟩ := h
  refine ⟨_, (pss_one (ps_if (pt_not (pt_val (pe_ca c_is_from_to b_is_from_to hr ps0 (pa_cons (pv 1) (pa_cons pe_int (pa_cons (pe_op op_sub (pe_callB (call_lenK K rfl) (by rfl) B.len (by decide +kernel) (pa_cons (pe_fld (pv 0) rfl) pa_nil)) pe_int) pa_nil)))))) (pss_one (ps_raiseW T_BadLeaf F_Refused rfl hr (takes_of rfl rfl rfl rfl) (pv 1)))
      pss_nil)), ?_⟩
  obtain ⟨dx, b, dd, fs, h1, h2, h3, h4, h5⟩ := hcal
  have hbl : (bs.map V.int).length = bs.length := by simp
  refine ⟨_, rfl, _, rfl, c, C, dx, fs, _, rfl, h1, Tc.cl, Tc.nB, h2, b, _, rfl, .inr h4.sq, _, _, rfl, rfl, x, 0, _, rfl, _, rfl, ?_⟩
  rw [hbl]
  refine ite2 (fun hc => ?_) (fun hc => ?_)
  · exact ⟨_, rfl, q2 (fun hh => by
      have e1 : decide (0 ≤ x) = true := decide_eq_true hh.1
      have e2 : decide (x ≤ (bs.length : Int) - 1) = true := decide_eq_true (by omega)
      rw [e1, e2] at hc
      cases hc)⟩
  · exact q1 (by
      simp at hc
      omega)
/-- of two leaves: nothing; else what is due -/
def spAskTwo (K : PySem.W.Frag) (C CL CS : Addr) : Sp := fun vs H Q E => ∃ (c : Addr) (bs : List Int) (ds : List (List Int)) (x y : Int), vs = [.ref c, .int x, .int y] ∧ CalAt K C H c bs ds ∧
  (¬ (0 ≤ x ∧ x < bs.length) → RaisesW CL (.int x) H E) ∧ (0 ≤ x ∧ x < bs.length → ¬ (0 ≤ y ∧ y < bs.length) → RaisesW CL (.int y) H E) ∧ (0 ≤ x ∧ x < bs.length → 0 ≤ y ∧ y < bs.length → x = y → RaisesW CS (.int x) H E) ∧
  (0 ≤ x ∧ x < bs.length → 0 ≤ y ∧ y < bs.length → x ≠ y → Q .non H)
theorem ca_ask_two {f0 : Addr} (c_ask_leaf : Ca P w K mg base 3 "ask_leaf" s_ask_leaf ["calendar", "x"] (spAskLeaf K C CL)) (T_BadSet : Er K mg "BadSet" CS f0) (F_Refused : ErI P w K mg base f0) (U : Up K mg "ask_two_leaves" s_ask_two_leaves) : Ca P w K mg base 4 "ask_two_leaves" s_ask_two_leaves ["calendar", "x", "y"] (spAskTwo K C CL CS) := by
  refine caX U sc_ask_two_leaves (fun vs H Q E h => by obtain ⟨c, bs, ds, x, y, rfl, _⟩ := h; rfl) fun f cdv A outer s H vs Q E hr h => ?_
  obtain ⟨c, bs, ds, x, y, rfl, hcal, q1, q2, q3, q4⟩ := h
  refine ⟨_, (pss_cons (ps_expr (pe_ca c_ask_leaf b_ask_leaf hr (passAt (takes_of rfl rfl rfl rfl)) (pa_cons (pv 0) (pa_cons (pv 1) pa_nil))))
      (pss_cons (ps_expr (pe_ca c_ask_leaf b_ask_leaf hr (passAt (takes_of rfl rfl rfl rfl)) (pa_cons (pv 0) (pa_cons (pv 2) pa_nil))))
      (pss_one (ps_if (pt_cmpR op_eq (pv 1) (pv 2) (nomark _)) (pss_one (ps_raiseW T_BadSet F_Refused rfl hr (takes_of rfl rfl rfl rfl) (pv 1)))
      pss_nil)))), ?_⟩
  refine ⟨_, rfl, _, rfl, c, bs, ds, x, rfl, hcal, fun hx => ?_, fun h => q1 h⟩
  refine ⟨_, rfl, _, rfl, c, bs, ds, y, rfl, hcal, fun hy => ?_, fun h => q2 hx h⟩
  refine ⟨_, rfl, _, rfl, rfl, _, rfl, ?_⟩
  refine ite2 (fun h => ?_) (fun h => ?_)
  · exact ⟨_, rfl, q3 hx hy (by simpa using h)⟩
  · exact q4 hx hy (by simpa using h)
def laterI (bs : List Int) (x y : Int) : Int := if bs.getD y.toNat 0 > bs.getD x.toNat 0 then bs.getD y.toNat 0 else bs.getD x.toNat 0
def chancesR (bs : List Int) (ds : List (List Int)) (l : Nat) : List Rat := (List.range (ds.length - l)).map fun i => meetR bs ds (l + i)
/-- what meeting tells of two leaves -/
def meetM (bs : List Int) (ds : List (List Int)) (x y : Int) : DS := (daysM (laterI bs x y) (chancesR bs ds (laterI bs x y).toNat)).filter fun e => decide (e.2 ≠ 0)
theorem meetR_bit {bs : List Int} {ds : List (List Int)} (ok : CalOk bs ds) {d : Nat} (hd : d < ds.length) : BitR 16 (meetR bs ds d) := by
  obtain ⟨b1, b2, b3⟩ := meet_bits ok hd
  exact .of b1 b2 b3
def spMeeting (K : PySem.W.Frag) (C : Addr) : Sp := fun vs H Q _ => ∃ (c : Addr) (bs : List Int) (ds : List (List Int)) (x y : Int), vs = [.ref c, .int x, .int y] ∧ CalAt K C H c bs ds ∧ CalOk bs ds ∧ (0 ≤ x ∧ x < bs.length) ∧ (0 ≤ y ∧ y < bs.length) ∧ x ≠ y ∧ ∀ p H', Same H H' → PairsD H' p (meetM bs ds x y) → Q (.ref p) H'
theorem ca_meeting (B : Bl mg) (T : ClC K mg C fC) (c_ask_two_leaves : Ca P w K mg base 4 "ask_two_leaves" s_ask_two_leaves ["calendar", "x", "y"] (spAskTwo K C CL CS)) (c_days_many : Ca P w K mg base 1 "days_many" s_days_many ["calendar"] (spLeaves K C fun _ ds => (ds.length : Int)))
    (c_meets : Ca P w K mg base 6 "meets" s_meets ["calendar", "d"] (spMeets K C)) (c_first_days : Ca P w K mg base 5 "first_days" s_first_days ["start", "chances"] spFirst) (U : Up K mg "meeting" s_meeting) : Ca P w K mg base 7 "meeting" s_meeting ["calendar", "x", "y"] (spMeeting K C) := by
  refine ca0 U sc_meeting (fun vs H Q E h => by obtain ⟨c, bs, ds, x, y, rfl, _⟩ := h; rfl) fun f cdv A outer s H vs Q E hr h => ?_
  obtain ⟨c, bs, ds, x, y, rfl, hcal, ok, hx, hy, hn, q⟩ := h
  refine ⟨_, (pss_cons (ps_expr (pe_ca c_ask_two_leaves b_ask_two_leaves hr ps0 (pa_cons (pv 0) (pa_cons (pv 1) (pa_cons (pv 2) pa_nil)))))
      (pss_cons (ps_set (i := 3) sc_meeting.nd rfl (Or.inl rfl) (pe_callB (call_max2 rfl) (by rfl) B.max (by decide +kernel) (pa_cons (pe_ix (ix_tupK K rfl) (pe_fld (pv 0) rfl) (pv 1) (fun _ _ => rfl)) (pa_cons (pe_ix (ix_tupK K rfl) (pe_fld (pv 0) rfl) (pv 2) (fun _ _ => rfl)) pa_nil))))
      (pss_one (ps_ret (pe_ca c_first_days b_first_days hr ps0 (pa_cons (pv 3) (pa_cons (pe_lc (own := [("d", 4)]) (g := (gName 4)) (by rfl) sc_meeting.nd (pi_range2 (by rfl) B.range (pa_cons (pv 3) (pa_cons (pe_ca c_days_many b_days_many hr ps0 (pa_cons (pv 0) pa_nil)) pa_nil))) (blkOk_by (N := N_meeting) (own := [("d", 4)]) (sc := defScope s_meeting) (by decide +kernel)) (fun _ _ _ _ _ => pg_name (i := 4) sc_meeting.nd rfl (Or.inl rfl)) (fun _ _ _ _ _ => pts_nil) (fun _ _ _ _ _ => (pe_ca c_meets b_meets hr ps0 (pa_cons (pv 0) (pa_cons (pv 4) pa_nil))))) pa_nil))))))), ?_⟩
  have n12 := ok.n12
  have m11 := ok.m11
  refine ⟨_, rfl, _, rfl, _, rfl, c, bs, ds, x, y, rfl, hcal, fun h => absurd hx h, fun _ h => absurd hy h, fun _ _ h => absurd h hn, fun _ _ _ => ?_⟩
  obtain ⟨dx, b, dd, fs, h1, h2, h3, h4, qs, h5, h6, h7⟩ := hcal.op
  have at_b : ∀ z : Int, 0 ≤ z → z < bs.length → atI (bs.map V.int) z = some (.int (bs.getD z.toNat 0)) := fun z z0 z1 => by
    have hz : z = ((z.toNat : Nat) : Int) := by omega
    have hb : bs[z.toNat]? = some (bs.getD z.toNat 0) := by
      have hlt : z.toNat < bs.length := by omega
      rw [List.getElem?_eq_getElem hlt, getD_of (List.getElem?_eq_getElem hlt)]
    exact at_of hz (by rw [List.getElem?_map, hb]; rfl)
  have bnd : ∀ z : Int, 0 ≤ z → z < bs.length → 0 ≤ bs.getD z.toNat 0 ∧ bs.getD z.toNat 0 ≤ (ds.length : Int) := fun z z0 z1 => by
    have hlt : z.toNat < bs.length := by omega
    rw [getD_of (List.getElem?_eq_getElem hlt)]
    exact ok.born _ (List.getElem_mem _)
  have lt0 : 0 ≤ laterI bs x y ∧ laterI bs x y ≤ (ds.length : Int) := by
    have e1 := bnd x hx.1 hx.2
    have e2 := bnd y hy.1 hy.2
    unfold laterI
    split <;> assumption
  refine ⟨_, rfl, c, C, dx, fs, _, rfl, h1, T.cl, T.nB, h2, _, rfl, b, _, _, _, rfl, rfl, h4, at_b x hx.1 hx.2, _, rfl, c, C, dx, fs, _, rfl, h1, T.cl, T.nB, h2, _, rfl, b, _, _, _, rfl, rfl, h4, at_b y hy.1 hy.2, _, _, rfl, ?_⟩
  have q : ∀ p H', Same H H' → PairsD H' p ((daysM (laterI bs x y) (chancesR bs ds (laterI bs x y).toNat)).filter fun e => decide (e.2 ≠ 0)) → Q (.ref p) H' := q
  change (fun v H1 => gName 3 v (L2.start N_meeting [.ref c, .int x, .int y]) H1 _) (V.int (laterI bs x y)) H
  generalize laterI bs x y = lt at lt0 q
  refine ⟨_, rfl, _, rfl, _, rfl, c, bs, ds, rfl, hcal, lt, ((ds.length : Nat) : Int), rfl, ⟨by omega, by omega, by omega, by omega⟩, fun D2 hD2 => lc_it (walk_range (lo := lt) (n := (((ds.length : Nat) : Int) - lt).toNat)) (fun i H' => ∃ us : List Addr, Acc H D2 (us.map V.ref) H' ∧ us.length = i ∧ ∀ (j : Nat) (u : Addr), us[j]? = some u → ShD H' u (meetR bs ds (lt.toNat + j))) ⟨[], Acc.start hD2, rfl, fun j u h => by cases h⟩ (fun i H' _ _ => trivial) ?_ ?_⟩
  · rintro i z H' H'' hi ⟨us, ⟨a1, a2, a3⟩, hl2, hrows⟩ ⟨rfl, rfl⟩
    have hi' : lt.toNat + i < ds.length := by omega
    have e : lt + (i : Int) = ((lt.toNat + i : Nat) : Int) := by omega
    refine ⟨rfl, _, rfl, _, rfl, c, bs, ds, lt.toNat + i, by rw [← e], hcal.same a2, ok, hi', fun u G g hu => ?_⟩
    have a3' := g _ _ a3
    have tk : TK G (upd G D2 (.lst (us.map V.ref ++ [.ref u]))) := TK.lst a3'
    refine ⟨_, a3', ?_, us ++ [u], ⟨a1, Same.mut (a2.trans g) a1, by rw [upd_same, List.map_append]; rfl⟩, by simp [hl2], fun j v h1 => ?_⟩
    · rw [List.length_map, hl2]
      exact Nat.lt_of_lt_of_le (show i < 10000 by omega) (by decide)
    · by_cases hj : j < us.length
      · rw [List.getElem?_append_left hj] at h1
        exact TupD.tk ((hrows j v h1).same g) tk
      · have hj2 : j = us.length := by
          have := (List.getElem?_eq_some_iff.mp h1).1
          rw [List.length_append] at this
          simp at this
          omega
        subst hj2
        rw [List.getElem?_append_right (Nat.le_refl _), Nat.sub_self] at h1
        cases h1
        rw [hl2]
        exact TupD.tk hu tk
  · rintro H1 ⟨us, ⟨a1, a2, a3⟩, hl2, hrows⟩
    refine ⟨D2, us, lt, chancesR bs ds lt.toNat, rfl, a3, ?_, fun i u r h1 h2 => ?_, fun r hr => ?_, ?_, fun p H' s' hp => q p H' (a2.trans s') hp⟩
    · rw [hl2]
      simp [chancesR]
      omega
    · have hlt : i < ds.length - lt.toNat := by
        have := (List.getElem?_eq_some_iff.mp h2).1
        simpa [chancesR] using this
      have e : r = meetR bs ds (lt.toNat + i) := by
        unfold chancesR at h2
        rw [List.getElem?_map, List.getElem?_range hlt] at h2
        exact (Option.some.inj h2).symm
      rw [e]
      exact hrows i u h1
    · unfold chancesR at hr
      obtain ⟨i, hi, rfl⟩ := List.mem_map.mp hr
      have := List.mem_range.mp hi
      exact meetR_bit ok (by omega)
    · simp [chancesR]
      omega
end
end DK
set_option Elab.async false
set_option linter.all false
set_option maxRecDepth 100000
set_option maxHeartbeats 2000000
namespace DK
open PySem PySem.Spec PyProof.Rows L2 RZ DL
abbrev s_ask_depths : Stmt := topS 41
abbrev N_ask_depths : List Str := ["depths", "i", "h"]
theorem sc_ask_depths : FnScope N_ask_depths ["depths"] (defScope s_ask_depths) := ⟨rfl, rfl, rfl, by decide +kernel, rfl, by decide +kernel, by decide +kernel⟩
theorem b_ask_depths : BindOk "ask_depths" s_ask_depths ["depths"] := fun _ _ _ _ _ _ us hl => match us, hl with | [_], _ => rfl

abbrev s_ask_lines : Stmt := topS 42
abbrev N_ask_lines : List Str := ["r"]
theorem sc_ask_lines : FnScope N_ask_lines ["r"] (defScope s_ask_lines) := ⟨rfl, rfl, rfl, by decide +kernel, rfl, by decide +kernel, by decide +kernel⟩
theorem b_ask_lines : BindOk "ask_lines" s_ask_lines ["r"] := fun _ _ _ _ _ _ us hl => match us, hl with | [_], _ => rfl

abbrev s_depth_calendar : Stmt := topS 44
abbrev N_depth_calendar : List Str := ["depths", "r", "deepest", "days", "lines", "h"]
theorem sc_depth_calendar : FnScope N_depth_calendar ["depths", "r"] (defScope s_depth_calendar) := ⟨rfl, rfl, rfl, by decide +kernel, rfl, by decide +kernel, by decide +kernel⟩
theorem b_depth_calendar : BindOk "depth_calendar" s_depth_calendar ["depths", "r"] := fun _ _ _ _ _ _ us hl => match us, hl with | [_, _], _ => rfl

structure Kn (mg : Str → Option Value) : Prop where
  MOST_LEAVES : ∃ t, mg "MOST_LEAVES" = some (.int 12 t)
  GREATEST_DEPTH : ∃ t, mg "GREATEST_DEPTH" = some (.int 11 t)
  LEAST_LINES : ∃ t, mg "LEAST_LINES" = some (.int 2 t)
  MOST_LINES : ∃ t, mg "MOST_LINES" = some (.int 12 t)
section
variable {P : Program} {w : World} {K : PySem.W.Frag} {mg : Str → Option Value} {base : Heap} {C f0 fC CM fR : Addr}
theorem RaisesW.up {C : Addr} {v : V} {H H1 : Hp} {E : XK} (h : RaisesW C v H E) (s : Same H H1) : RaisesW C v H1 E := fun d H' s' hd hx => h d H' (s.trans s') (same_back s hd) hx
/-- the first place of depths whose number is none -/
def FirstBad (L : List Int) (i : Nat) : Prop := (∃ x, L[i]? = some x ∧ ¬ (0 ≤ x ∧ x ≤ 11)) ∧ ∀ j y, j < i → L[j]? = some y → 0 ≤ y ∧ y ≤ 11
def AllD (L : List Int) : Prop := ∀ x ∈ L, 0 ≤ x ∧ x ≤ 11
def LenD (L : List Int) : Prop := 1 ≤ L.length ∧ L.length ≤ 12
def spAskDepths (K : PySem.W.Frag) (CZ CD : Addr) : Sp := fun vs H Q E => ∃ (a : Addr) (L : List Int), vs = [.ref a] ∧ TupD H a (L.map V.int) ∧ L.length ≤ 1000 ∧
  (¬ LenD L → RaisesW CZ (.int (L.length : Nat)) H E) ∧ (LenD L → ∀ i : Nat, FirstBad L i → RaisesW CD (.int (i : Nat)) H E) ∧ (LenD L → AllD L → ∀ H', Same H H' → Q .non H')
theorem ca_ask_depths {C_BadSize f_BadSize C_BadDepth f_BadDepth : Addr} (B : Bl mg) (Kc : Kn mg) (c_is_from_to : Ca P w K mg base 2 "is_from_to" s_is_from_to ["thing", "low", "high"] spFromTo) (T_BadSize : Er K mg "BadSize" C_BadSize f_BadSize) (F_BadSize : ErI P w K mg base f_BadSize) (T_BadDepth : Er K mg "BadDepth" C_BadDepth f_BadDepth) (F_BadDepth : ErI P w K mg base f_BadDepth) (U : Up K mg "ask_depths" s_ask_depths) :
    Ca P w K mg base 3 "ask_depths" s_ask_depths ["depths"] (spAskDepths K C_BadSize C_BadDepth) := by
  refine caX U sc_ask_depths (fun vs H Q E h => by obtain ⟨a, L, rfl, _⟩ := h; rfl) fun f cdv A outer s H vs Q E hr h => ?_
  obtain ⟨a, L, rfl, ha, hl, q1, q2, q3⟩ := h
  refine ⟨_, (pss_cons (ps_if (pt_not (pt_chain op_le op_le pe_int (pe_callB (call_lenK K rfl) (by rfl) B.len (by decide +kernel) (pa_cons (pv 0) pa_nil)) (pe_gI Kc.MOST_LEAVES))) (pss_one (ps_raiseW T_BadSize F_BadSize rfl hr (takes_of rfl rfl rfl rfl) (pe_callB (call_lenK K rfl) (by rfl) B.len (by decide +kernel) (pa_cons (pv 0) pa_nil))))
      pss_nil)
      (pss_one (ps_for (passes_of rfl) rfl (pi_enumT (by rfl) B.enumerate (pa_cons (pv 0) pa_nil)) (pg_tup rfl (pgs_cons (pg_name (i := 1) sc_ask_depths.nd rfl (Or.inl rfl)) (pgs_cons (pg_name (i := 2) sc_ask_depths.nd rfl (Or.inl rfl)) pgs_nil)))
      (pss_one (ps_if (pt_not (pt_val (pe_ca c_is_from_to b_is_from_to hr ps0 (pa_cons (pv 2) (pa_cons pe_int (pa_cons (pe_gI Kc.GREATEST_DEPTH) pa_nil)))))) (pss_one (ps_raiseW T_BadDepth F_BadDepth rfl hr (takes_of rfl rfl rfl rfl) (pv 1)))
      pss_nil))))), ?_⟩
  have hln : (L.map V.int).length = L.length := by simp
  refine ⟨_, rfl, a, _, rfl, .inr ha.sq, _, _, rfl, rfl, _, rfl, ?_⟩
  rw [hln]
  refine ite2 (fun h1 => ?_) (fun h1 => ?_)
  · refine ⟨_, _, rfl, rfl, _, rfl, ?_⟩
    refine ite2 (fun h2 => ?_) (fun h2 => ?_)
    · exact ⟨_, rfl, a, _, rfl, .inr ha.sq, by rw [hln]; exact q1 (fun z => by unfold LenD at z; simp at h2; omega)⟩
    · have hD : LenD L := by
        unfold LenD
        simp at h1 h2
        omega
      have n12 := hD.2
      refine ⟨_, rfl, a, _, rfl, ha.sq, for_it (walk_enumT (xs := L.map V.int)) (fun i σ H' => Same H H' ∧ (∀ j y, j < i → L[j]? = some y → 0 ≤ y ∧ y ≤ 11) ∧ ∃ x y, σ = [some (.ref a), x, y]) ⟨Same.refl _, (fun j y hj => by omega), none, none, rfl⟩ (fun i σ H' _ p => Same.seqT p.1 ha.sq) ?_ ?_⟩
      · rintro i x σ H1 H2 hi ⟨s1, hall, x', y', rfl⟩ ⟨T0, u, v, rfl, hT, rfl, hu, hv⟩
        cases hu
        obtain ⟨z, hz, rfl⟩ := map_of hv
        have s2 : Same H (upd H1 T0 (.tup [.int (i : Nat), .int z])) := Same.mut s1 (same_back s1 hT)
        refine ⟨T0, _, rfl, SqT.of upd_same, rfl, _, _, rfl, _, _, rfl, rfl, ?_⟩
        refine ⟨_, rfl, z, 0, 11, rfl, _, rfl, ?_⟩
        refine ite2 (fun h3 => ?_) (fun h3 => ?_)
        · exact ⟨_, rfl, RaisesW.up (q2 hD i ⟨⟨z, hz, fun hh => by simp [hh.1, hh.2] at h3⟩, hall⟩) s2⟩
        · have hz2 : 0 ≤ z ∧ z ≤ 11 := by simpa using h3
          refine ⟨s2, fun j y hj hy => ?_, _, _, rfl⟩
          by_cases hji : j < i
          · exact hall j y hji hy
          · have e : j = i := by omega
            subst e
            rw [hz] at hy
            cases hy
            exact hz2
      · rintro σ H1 ⟨s1, hall, _⟩
        exact q3 hD (fun x hx => by
          obtain ⟨j, hj⟩ := List.getElem?_of_mem hx
          exact hall j x (by rw [List.length_map]; exact (List.getElem?_eq_some_iff.mp hj).1) hj) H1 s1
  · exact ⟨_, rfl, _, rfl, a, _, rfl, .inr ha.sq, by rw [hln]; exact q1 (fun z => by unfold LenD at z; simp at h1; omega)⟩
def spAskR (CC : Addr) : Sp := fun vs H Q E => ∃ r : Int, vs = [.int r] ∧ (2 ≤ r ∧ r ≤ 12 → Q .non H) ∧ (¬ (2 ≤ r ∧ r ≤ 12) → RaisesW CC (.int r) H E)
theorem ca_ask_lines {C_BadCount f_BadCount : Addr} (Kc : Kn mg) (c_is_from_to : Ca P w K mg base 2 "is_from_to" s_is_from_to ["thing", "low", "high"] spFromTo) (T_BadCount : Er K mg "BadCount" C_BadCount f_BadCount) (F_BadCount : ErI P w K mg base f_BadCount) (U : Up K mg "ask_lines" s_ask_lines) :
    Ca P w K mg base 3 "ask_lines" s_ask_lines ["r"] (spAskR C_BadCount) := by
  refine caX U sc_ask_lines (fun vs H Q E h => by obtain ⟨r, rfl, _⟩ := h; rfl) fun f cdv A outer s H vs Q E hr h => ?_
  obtain ⟨r, rfl, q1, q2⟩ := h
  refine ⟨_, (pss_one (ps_if (pt_not (pt_val (pe_ca c_is_from_to b_is_from_to hr ps0 (pa_cons (pv 0) (pa_cons (pe_gI Kc.LEAST_LINES) (pa_cons (pe_gI Kc.MOST_LINES) pa_nil)))))) (pss_one (ps_raiseW T_BadCount F_BadCount rfl hr (takes_of rfl rfl rfl rfl) (pv 0)))
      pss_nil)), ?_⟩
  refine ⟨_, rfl, r, 2, 12, rfl, _, rfl, ?_⟩
  refine ite2 (fun h1 => ?_) (fun h1 => ?_)
  · exact ⟨_, rfl, q2 (fun hh => by simp [hh.1, hh.2] at h1)⟩
  · exact q1 (by simpa using h1)
end
end DK
set_option Elab.async false
set_option linter.all false
set_option maxRecDepth 100000
set_option maxHeartbeats 4000000
namespace DK
open PySem PySem.Spec PyProof.Rows L2 RZ DL
section
variable {P : Program} {w : World} {K : PySem.W.Frag} {mg : Str → Option Value} {base : Heap} {C f0 fC CM fR : Addr}
/-- level by level from below: the level that does not part, or how many lines are left and the days -/
def levM (L : List Int) (r : Int) : Nat → Int → List (List Int) → Nat ⊕ (Int × List (List Int))
  | 0, l, ds => .inr (l, ds)
  | h + 1, l, ds => if (l + (L.count ((h + 1 : Nat) : Int) : Nat)) % r = 0 then levM L r h ((l + (L.count ((h + 1 : Nat) : Int) : Nat)) / r) (ds ++ [List.replicate ((l + (L.count ((h + 1 : Nat) : Int) : Nat)) / r).toNat r]) else .inl (h + 1)
def depM (L : List Int) (r : Int) : Nat ⊕ (List Int × List (List Int)) :=
  match levM L r (maxL L).toNat 0 [] with
  | .inl h => .inl h
  | .inr (l, ds) => if l + (L.count 0 : Nat) = 1 then .inr (L.map fun h => maxL L - h, ds) else .inl 0
theorem repA (k : Nat) (x : V) : (List.replicate k [x]).flatten = List.replicate k x := by
  induction k with
  | zero => rfl
  | succ k ih => simp_all [List.replicate_succ]
def spDepthCal (K : PySem.W.Frag) (C CZ CD CC CN : Addr) : Sp := fun vs H Q E => ∃ (a : Addr) (L : List Int) (r : Int), vs = [.ref a, .int r] ∧ TupD H a (L.map V.int) ∧ L.length ≤ 1000 ∧
  (¬ LenD L → RaisesW CZ (.int (L.length : Nat)) H E) ∧ (LenD L → ∀ i : Nat, FirstBad L i → RaisesW CD (.int (i : Nat)) H E) ∧ (LenD L → AllD L → ¬ (2 ≤ r ∧ r ≤ 12) → RaisesW CC (.int r) H E) ∧
  (LenD L → AllD L → 2 ≤ r → r ≤ 12 → ∀ h : Nat, depM L r = .inl h → RaisesW CN (.int (h : Nat)) H E) ∧
  (LenD L → AllD L → 2 ≤ r → r ≤ 12 → ∀ bs ds, depM L r = .inr (bs, ds) → ∀ c H', Same H H' → CalAt K C H' c bs ds → Q (.ref c) H')
theorem ca_depth_calendar {C_BadSize C_BadDepth C_BadCount C_NotWhole f_NotWhole : Addr} (B : Bl mg) (T : ClC K mg C fC) {fd : FuncData} (G_Calendar : FnOk P w K mg base (L2.CX P w) 1 fC fd ["self", "born", "days"] (spInitC C)) (Bi_Calendar : Binds K fd ["self", "born", "days"] [])
    (c_ask_depths : Ca P w K mg base 3 "ask_depths" s_ask_depths ["depths"] (spAskDepths K C_BadSize C_BadDepth)) (c_ask_lines : Ca P w K mg base 3 "ask_lines" s_ask_lines ["r"] (spAskR C_BadCount))
    (T_NotWhole : Er K mg "NotWhole" C_NotWhole f_NotWhole) (F_NotWhole : ErI P w K mg base f_NotWhole) (U : Up K mg "depth_calendar" s_depth_calendar) :
    Ca P w K mg base 4 "depth_calendar" s_depth_calendar ["depths", "r"] (spDepthCal K C C_BadSize C_BadDepth C_BadCount C_NotWhole) := by
  refine caX U sc_depth_calendar (fun vs H Q E h => by obtain ⟨a, L, r, rfl, _⟩ := h; rfl) fun f cdv A outer s H vs Q E hr h => ?_
  obtain ⟨a, L, r, rfl, ha, hl, q1, q2, q3, q4, q5⟩ := h
  have hu64 := hr.units
  refine ⟨_, (pss_cons (ps_expr (pe_ca c_ask_depths b_ask_depths hr (passAt (takes_of rfl rfl rfl rfl)) (pa_cons (pv 0) pa_nil)))
      (pss_cons (ps_expr (pe_ca c_ask_lines b_ask_lines hr (passAt (takes_of rfl rfl rfl rfl)) (pa_cons (pv 1) pa_nil)))
      (pss_cons (ps_set (i := 2) sc_depth_calendar.nd rfl (Or.inr rfl) (pe_callB (cr_maxT K rfl rfl hu64) (by rfl) B.max (by decide +kernel) (pa_cons (pv 0) pa_nil)))
      (pss_cons (ps_set (i := 3) sc_depth_calendar.nd rfl (Or.inl rfl) (pe_lst pa_nil))
      (pss_cons (ps_set (i := 4) sc_depth_calendar.nd rfl (Or.inl rfl) pe_int)
      (pss_cons (ps_for (passes_of rfl) rfl (pi_range3 (by rfl) B.range (pa_cons (pv 2) (pa_cons pe_int (pa_cons (pe_un un_neg pe_int) pa_nil)))) (pg_name (i := 5) sc_depth_calendar.nd rfl (Or.inl rfl))
      (pss_cons (ps_aug (i := 4) sc_depth_calendar.nd rfl (Or.inl rfl) (pe_bmD PySem.F.plainAttrs_tuple PySem.F.slot_tuple_count PySem.F.type_tuple_count mt_tcount (pv 0) (pa_cons (pv 5) pa_nil)) ip_add)
      (pss_cons (ps_if (pt_cmpR op_ne (pe_op op_mod (pv 4) (pv 1)) pe_int (nomark _)) (pss_one (ps_raiseW T_NotWhole F_NotWhole rfl hr (takes_of rfl rfl rfl rfl) (pv 5)))
      pss_nil)
      (pss_cons (ps_set (i := 4) sc_depth_calendar.nd rfl (Or.inl rfl) (pe_op op_fdiv (pv 4) (pv 1)))
      (pss_one (ps_expr (pe_bm PySem.F.plainAttrs_list PySem.F.slot_list_append PySem.F.type_list_append mt_append (pv 3) (pa_cons (pe_op op_repD (pe_tupD (pa_cons (pv 1) pa_nil)) (pv 4)) pa_nil))))))))
      (pss_cons (ps_if (pt_cmpR op_ne (pe_op op_add (pv 4) (pe_bmD PySem.F.plainAttrs_tuple PySem.F.slot_tuple_count PySem.F.type_tuple_count mt_tcount (pv 0) (pa_cons pe_int pa_nil))) pe_int (nomark _)) (pss_one (ps_raiseW T_NotWhole F_NotWhole rfl hr (takes_of rfl rfl rfl rfl) pe_int))
      pss_nil)
      (pss_one (ps_ret (pe_make T.mkC G_Calendar (hr.mono (by decide)) (by rfl) T.mgC Bi_Calendar .nil passL (pa_cons (pe_callTy call_tuple_D (by rfl) B.tuple (by decide +kernel) (pa_cons (pe_lc (own := [("h", 5)]) (g := (gName 5)) (by rfl) sc_depth_calendar.nd (pi_tup (pv 0)) (blkOk_by (N := N_depth_calendar) (own := [("h", 5)]) (sc := defScope s_depth_calendar) (by decide +kernel)) (fun _ _ _ _ _ => pg_name (i := 5) sc_depth_calendar.nd rfl (Or.inl rfl)) (fun _ _ _ _ _ => pts_nil) (fun _ _ _ _ _ => (pe_op op_sub (pv 2) (pv 5)))) pa_nil)) (pa_cons (pe_callTy call_tuple_D (by rfl) B.tuple (by decide +kernel) (pa_cons (pv 3) pa_nil)) pa_nil)))))))))))), ?_⟩
  refine ⟨_, rfl, a, L, rfl, ha, hl, q1, q2, fun hD hA H1 s1 => ?_⟩
  refine ⟨_, rfl, r, rfl, fun hr1 => ?_, fun hr1 => RaisesW.up (q3 hD hA hr1) s1⟩
  obtain ⟨r2, r12⟩ := hr1
  have q4 := q4 hD hA r2 r12
  have q5 := q5 hD hA r2 r12
  have hne : L ≠ [] := fun z => by
    have := hD.1
    rw [z] at this
    simp at this
  have hmm := maxL_mem hne
  have hmb := hA _ hmm
  have ha1 := ha.same s1
  refine ⟨_, rfl, a, L, rfl, ha1.sq, hne, ?_⟩
  unfold depM at q4 q5
  generalize hD0 : maxL L = D at q4 q5 hmb
  obtain ⟨dn, rfl⟩ := Int.eq_ofNat_of_zero_le hmb.1
  rw [Int.toNat_natCast] at q4 q5
  refine ⟨Nat.zero_le _, fun Dl hDl => ?_⟩
  have s2 := s1.trans (Same.new (o := .lst []) hDl)
  refine ⟨_, rfl, _, rfl, (dn : Int), 0, -1, dn, rfl, ?_, for_it (walk_rangeC (lo := (dn : Int)) (c := -1) (n := dn)) (fun i σ H' => ∃ (l : Int) (ds : List (List Int)) (us : List Addr) (x : Option V), σ = [some (.ref a), some (.int r), some (.int (dn : Int)), some (.ref Dl), some (.int l), x] ∧ Same H H' ∧ H' Dl = some (.lst (us.map V.ref)) ∧ RowsD H' us ds ∧ ds.length = i ∧ 0 ≤ l ∧ l ≤ 12 * (i : Int) ∧ levM L r dn 0 [] = levM L r (dn - i) l ds) ⟨0, [], [], none, rfl, s2, upd_same, ⟨rfl, fun i q ns h => nomatch h⟩, rfl, by omega, by omega, rfl⟩ (fun i σ H' _ _ => trivial) ?_ ?_⟩
  · have := RgC.neg (i := (dn : Int)) (j := 0) (by omega) (by omega) (by omega) (by omega)
    rw [show ((dn : Int) - 0).toNat = dn by omega] at this
    exact this
  · rintro i x σ H2 H3 hi ⟨l, ds, us, x', rfl, s3, hDl2, hR, hdl, l0, l1, hlev⟩ ⟨rfl, rfl⟩
    have eh : (dn : Int) + (i : Nat) * (-1) = ((dn - i - 1 + 1 : Nat) : Int) := by omega
    have hcl : L.count (((dn - i - 1 + 1 : Nat)) : Int) ≤ 12 := Nat.le_trans List.count_le_length hD.2
    have hun : levM L r (dn - i) l ds = levM L r (dn - i - 1 + 1) l ds := by
      congr 1
      omega
    rw [hun] at hlev
    refine ⟨_, rfl, _, rfl, ⟨a, _, rfl, ha.same s3⟩, _, rfl, a, L, _, rfl, rfl, (ha.same s3).sq, _, _, rfl, rfl, ?_⟩
    have hcc : ∃ c : Nat, c = L.count ((dn : Int) + (i : Nat) * (-1)) := ⟨_, rfl⟩
    obtain ⟨c, hc⟩ := hcc
    rw [← eh] at hcl
    rw [← hc] at hcl ⊢
    have hgo : levM L r (dn - i - 1 + 1) l ds = if (l + (c : Int)) % r = 0 then levM L r (dn - i - 1) ((l + (c : Int)) / r) (ds ++ [List.replicate ((l + (c : Int)) / r).toNat r]) else .inl (dn - i - 1 + 1) := by
      rw [hc, eh]
      rfl
    rw [hgo] at hlev
    have hlc0 : 0 ≤ (l + (c : Int)) / r := Int.ediv_nonneg (by omega) (by omega)
    have hlc1 : (l + (c : Int)) / r ≤ l + (c : Int) := Int.ediv_le_self _ (by omega)
    refine ⟨_, rfl, _, rfl, _, _, rfl, rfl, by omega, rfl, _, rfl, ?_⟩
    refine ite2 (fun h1 => ?_) (fun h1 => ?_)
    · have hm : ¬ (l + (c : Int)) % r = 0 := by simpa using h1
      rw [if_neg hm] at hlev
      rw [hlev] at q4
      have hq := RaisesW.up (q4 _ rfl) s3
      rw [← eh] at hq
      exact ⟨_, rfl, hq⟩
    · have hm : (l + (c : Int)) % r = 0 := by simpa using h1
      rw [if_pos hm] at hlev
      refine ⟨_, rfl, _, rfl, _, _, rfl, rfl, ⟨by omega, by omega⟩, _, rfl,   .inl ⟨rfl, _, SqL.of hDl2⟩, _, rfl, (by show 1 ≤ sizeLine; decide), fun a1 H3 g3 d1 => ⟨_, rfl, a1, (l + (c : Int)) / r, _, rfl, rfl, d1, by omega, by omega, by simp, fun b H4 g4 db => ?_⟩⟩
      rw [repA] at db
      have db' : TupD H4 b ((List.replicate ((l + (c : Int)) / r).toNat r).map V.int) := by
        rw [List.map_replicate]
        exact db
      have hD4 := g4 _ _ (g3 _ _ hDl2)
      have tk : TK H4 (upd H4 Dl (.lst (us.map V.ref ++ [.ref b]))) := TK.lst hD4
      refine ⟨Dl, _, _, rfl, rfl, hD4, ?_, (l + (c : Int)) / r, ds ++ [List.replicate ((l + (c : Int)) / r).toNat r], us ++ [b], _, rfl, Same.mut ((s3.trans g3).trans g4) (same_back s1 hDl), by rw [upd_same, List.map_append]; rfl, ?_, by simp [hdl], hlc0, by omega, ?_⟩
      · rw [List.length_map, hR.1, hdl]
        exact Nat.lt_of_lt_of_le (show i < 100 by omega) (by decide)
      · exact (((hR.same g3).same g4).tk tk).app (.one (db'.tk tk))
      · rw [hlev]
        congr 1
  · rintro σ H2 ⟨l, ds, us, x', rfl, s3, hDl2, hR, hdl, l0, l1, hlev⟩
    rw [Nat.sub_self] at hlev
    have hlev2 : levM L r dn 0 [] = .inr (l, ds) := hlev
    rw [hlev2] at q4 q5
    refine ⟨_, rfl, _, rfl, ⟨a, _, rfl, ha.same s3⟩, a, L, _, rfl, rfl, (ha.same s3).sq, _, _, rfl, rfl, rfl, _, rfl, ?_⟩
    refine ite2 (fun h1 => ?_) (fun h1 => ?_)
    · have hm : ¬ l + (L.count 0 : Nat) = 1 := by simpa using h1
      exact RaisesW.up (q4 0 (if_neg hm)) s3
    · have hm : l + (L.count 0 : Nat) = 1 := by simpa using h1
      have q5 := q5 _ _ (if_pos hm)
      have haL := ha.same s3
      refine ⟨_, rfl, a, rfl, ⟨_, haL.sq⟩, fun D2 hD2 => lc_it (walk_tup (xs := L.map V.int)) (Cw H2 (fun _ => true) (fun i => V.int ((dn : Int) - L.getD i 0)) D2) (cw0 hD2) (fun i H' _ p => (ha.same (s3.trans p.2.1)).sq) ?_ ?_⟩
      · rintro i x H' H'' hi p ⟨rfl, hx⟩
        obtain ⟨z, hz, rfl⟩ := map_of hx
        have hi' : i < L.length := by simpa using hi
        exact ⟨rfl, _, rfl, _, rfl, _, _, rfl, rfl, cwY p (Same.refl _) (by omega) rfl (by rw [getD_of hz])⟩
      · rintro H3 ⟨p1, p2, p3⟩
        have e := givn_all L 0 (fun z => V.int ((dn : Int) - z))
        rw [List.length_map, e] at p3
        refine ⟨D2, _, rfl, SqL.of p3, fun b H4 g4 db => ?_⟩
        refine ⟨_, rfl, Dl, _, rfl, SqL.of (g4 _ _ (p2 _ _ hDl2)), fun d H5 g5 dd => ?_⟩
        refine fun x dx hx hdx hne => ⟨x, dx, .ref b, .ref d, rfl, upd_same, rfl, ?_⟩
        have g := ((s3.trans p2).trans g4).trans g5
        have s9 : Same H5 (upd (upd (upd H5 dx (.own x)) x (.ins C dx [])) x (.ins C dx (calF (.ref b) (.ref d)))) := Same.mut (Same.mut (Same.mut (Same.refl _) hdx) hx) hx
        refine q5 x _ (g.trans s9) ⟨dx, b, d, _, upd_same, calF_born _ _, calF_days _ _, ?_, (((hR.same p2).same g4).same (g5.trans s9)).td (dd.same s9)⟩
        rw [List.map_map]
        exact (db.same g5).same s9
end
end DK
set_option Elab.async false
set_option linter.all false
set_option maxRecDepth 100000
set_option maxHeartbeats 4000000
namespace DK
open PySem PySem.Spec PyProof.Rows L2 RZ DL
abbrev s_law_depths : Stmt := topS 53
abbrev N_law_depths : List Str := ["_law_source", "_law_r", "_law_found", "_law_order", "_law_turn", "_law_h"]
theorem sc_law_depths : FnScope N_law_depths ["_law_source", "_law_r"] (defScope s_law_depths) := ⟨rfl, rfl, rfl, by decide +kernel, rfl, by decide +kernel, by decide +kernel⟩
theorem b_law_depths : BindOk "_law_depths" s_law_depths ["_law_source", "_law_r"] := fun _ _ _ _ _ _ us hl => match us, hl with | [_, _], _ => rfl

section
variable {P : Program} {w : World} {K : PySem.W.Frag} {mg : Str → Option Value} {base : Heap} {C f0 fC CM fR : Addr}
/-- the sum of the shares of these depths, times r to the eleventh -/
def krI (r : Int) (L : List Int) : Int := (L.map fun h => r ^ (11 - h.toNat)).sum
theorem krI_app (r : Int) (a b : List Int) : krI r (a ++ b) = krI r a + krI r b := by
  unfold krI
  rw [List.map_append, List.sum_append]
theorem krI_cons (r : Int) (x : Int) (a : List Int) : krI r (x :: a) = r ^ (11 - x.toNat) + krI r a := rfl
theorem krI_perm (r : Int) {a b : List Int} (h : a.Perm b) : krI r a = krI r b := by
  induction h with
  | nil => rfl
  | cons x _ ih => rw [krI_cons, krI_cons, ih]
  | swap x y l =>
    rw [krI_cons, krI_cons, krI_cons, krI_cons]
    omega
  | trans _ _ i1 i2 => rw [i1, i2]
theorem krI_rep (r : Int) (h : Int) : ∀ n : Nat, krI r (List.replicate n h) = (n : Int) * r ^ (11 - h.toNat)
  | 0 => by simp [krI]
  | n + 1 => by
    have ih := krI_rep r h n
    rw [List.replicate_succ]
    show r ^ (11 - h.toNat) + krI r (List.replicate n h) = _
    rw [ih]
    have e : ((n + 1 : Nat) : Int) * r ^ (11 - h.toNat) = (n : Int) * r ^ (11 - h.toNat) + r ^ (11 - h.toNat) := by
      rw [show ((n + 1 : Nat) : Int) = (n : Int) + 1 by omega, Int.add_mul, Int.one_mul]
    rw [e, Int.add_comm]
theorem erase_perm {L : List Int} {k : Nat} {h : Int} (hk : L[k]? = some h) : (h :: L.eraseIdx k).Perm L := by
  have := pop_perm (G := []) (cur := []) (left := L) (names := L) (i := k) (v := h) (List.Perm.refl _) hk
  simpa using this
structure Grown (r : Int) (F : List Int) : Prop where
  n1 : 1 ≤ F.length
  n12 : F.length ≤ 12
  all : AllD F
  kr : krI r F = r ^ 11
theorem Grown.grow {r : Int} {L : List Int} (g : Grown r L) (r2 : 2 ≤ r) {k : Nat} {h : Int} (hk : L[k]? = some h) (hl : (L.length : Int) + r - 1 ≤ 12) (hh : h < 11) : Grown r (L.eraseIdx k ++ List.replicate r.toNat (h + 1)) := by
  have hp := erase_perm hk
  have hm : h ∈ L := List.mem_of_getElem? hk
  have hh0 := g.all h hm
  have hlen : (L.eraseIdx k).length + 1 = L.length := by
    have := hp.length_eq
    simpa using this
  refine ⟨by simp; omega, by simp; omega, fun x hx => ?_, ?_⟩
  · rcases List.mem_append.mp hx with h1 | h1
    · exact g.all x (hp.mem_iff.mp (List.mem_cons_of_mem _ h1))
    · rw [List.eq_of_mem_replicate h1]
      omega
  · have e1 : krI r (h :: L.eraseIdx k) = r ^ 11 := by rw [krI_perm r hp, g.kr]
    have e2 : krI r (h :: L.eraseIdx k) = r ^ (11 - h.toNat) + krI r (L.eraseIdx k) := rfl
    have e3 : r ^ (11 - h.toNat) = r * r ^ (11 - (h + 1).toNat) := by
      rw [show 11 - h.toNat = (11 - (h + 1).toNat) + 1 by omega, Int.pow_succ, Int.mul_comm]
    rw [krI_app, krI_rep, show ((r.toNat : Nat) : Int) = r by omega]
    omega
theorem Grown.perm {r : Int} {a b : List Int} (g : Grown r a) (h : b.Perm a) : Grown r b :=
  ⟨by rw [h.length_eq]; exact g.n1, by rw [h.length_eq]; exact g.n12, fun x hx => g.all x (h.mem_iff.mp hx), by rw [krI_perm r h]; exact g.kr⟩
theorem grown0 (r : Int) : Grown r [0] := ⟨by decide, by decide, fun x hx => by rw [List.mem_singleton.mp hx]; decide, by simp [krI]⟩
theorem map_erase (L : List Int) (k : Nat) : (L.map V.int).eraseIdx k = (L.eraseIdx k).map V.int := by
  rw [List.eraseIdx_eq_take_drop_succ, List.eraseIdx_eq_take_drop_succ, List.map_append, List.map_take, List.map_drop]
end
end DK
set_option Elab.async false
set_option linter.all false
set_option maxRecDepth 100000
set_option maxHeartbeats 4000000
namespace DK
open PySem PySem.Spec PyProof.Rows L2 RZ DL
section
variable {P : Program} {w : World} {K : PySem.W.Frag} {mg : Str → Option Value} {base : Heap} {C f0 fC CM fR : Addr}
def spDepths : Sp := fun vs H Q _ => ∃ (a : Addr) (r : Int), vs = [.ref a, .int r] ∧ Src a H ∧ 2 ≤ r ∧ r ≤ 12 ∧ ∀ p F H', Stay a H H' → TupD H' p (F.map V.int) → Grown r F → 2 ≤ F.length → Q (.ref p) H'
theorem ca_depths (B : Bl mg) (c_law_take : Ca P w K mg base 1 "_law_take" s_law_take ["_law_source", "_law_top"] spTake) (U : Up K mg "_law_depths" s_law_depths) : Ca P w K mg base 2 "_law_depths" s_law_depths ["_law_source", "_law_r"] spDepths := by
  refine ca0 U sc_law_depths (fun vs H Q E h => by obtain ⟨a, r, rfl, _⟩ := h; rfl) fun f cdv A outer s H vs Q E hr h => ?_
  obtain ⟨a, r, rfl, hs, r2, r12, q⟩ := h
  have hu64 := hr.units
  refine ⟨_, (pss_cons (ps_par (i := 2) (j := 3) (by rfl) sc_law_depths.nd rfl rfl (by decide) rfl rfl (pa_cons (pe_lst (pa_cons pe_int pa_nil)) (pa_cons (pe_lst pa_nil) pa_nil)) (by rfl))
      (pss_cons (ps_for PassesOwn.never rfl (pi_range1 (by rfl) B.range (pa_cons (pe_op op_add pe_int (pe_ca c_law_take b_law_take hr ps0 (pa_cons (pv 0) (pa_cons pe_int pa_nil)))) pa_nil)) (pg_name (i := 4) sc_law_depths.nd rfl (Or.inl rfl))
      (pss_one (ps_if (pt_cmpR op_le (pe_op op_sub (pe_op op_add (pe_callB (call_lenK K rfl) (by rfl) B.len (by decide +kernel) (pa_cons (pv 2) pa_nil)) (pv 1)) pe_int) pe_int (nomark _)) (pss_cons (ps_set (i := 5) sc_law_depths.nd rfl (Or.inl rfl) (pe_bmK K rfl PySem.F.plainAttrs_list PySem.F.slot_list_pop PySem.F.type_list_pop mt_popAt (pv 2) (pa_cons (pe_ca c_law_take b_law_take hr ps0 (pa_cons (pv 0) (pa_cons (pe_callB (call_lenK K rfl) (by rfl) B.len (by decide +kernel) (pa_cons (pv 2) pa_nil)) pa_nil))) pa_nil)))
      (pss_one (ps_set (i := 2) sc_law_depths.nd rfl (Or.inl rfl) (pe_op op_cat (pv 2) (pe_op op_rep (pe_lst (pa_cons (pe_op op_add (pv 5) pe_int) pa_nil)) (pv 1))))))
      pss_nil)))
      (pss_cons (ps_while PassesOwn.never (pt_mono (pt_cmpR (op_neDK K rfl hu64) (pv 2) (pe_lst pa_nil) (nomark _))) (pss_one (ps_expr (pe_bm PySem.F.plainAttrs_list PySem.F.slot_list_append PySem.F.type_list_append mt_append (pv 3) (pa_cons (pe_bmK K rfl PySem.F.plainAttrs_list PySem.F.slot_list_pop PySem.F.type_list_pop mt_popAt (pv 2) (pa_cons (pe_ca c_law_take b_law_take hr ps0 (pa_cons (pv 0) (pa_cons (pe_callB (call_lenK K rfl) (by rfl) B.len (by decide +kernel) (pa_cons (pv 2) pa_nil)) pa_nil))) pa_nil)) pa_nil)))))
      (pss_one (ps_ret (pe_callTy call_tuple_D (by rfl) B.tuple (by decide +kernel) (pa_cons (pv 3) pa_nil))))))), ?_⟩
  refine ⟨(by show 1 ≤ sizeLine; decide), fun l0 hl0 => ⟨Nat.zero_le _, fun Fl hFl => ?_⟩⟩
  have s1 := Same.new (o := .lst [.int 0]) hl0
  have s2 := Same.new (o := .lst []) hFl
  have st0 : Stay a H (upd (upd H l0 (.lst [.int 0])) Fl (.lst [])) := Stay.of_same hs (s1.trans s2)
  have hFH : H Fl = none := same_back s1 hFl
  have hFa : Fl ≠ a := hs.ne_none hFH
  have hl00 := s2 _ _ (show upd H l0 (.lst [.int 0]) l0 = _ from upd_same)
  have hF0 : upd (upd H l0 (.lst [.int 0])) Fl (.lst []) Fl = some (.lst []) := upd_same
  have hl0F : l0 ≠ Fl := fun z => by
    rw [← z, upd_same] at hFl
    cases hFl
  generalize upd (upd H l0 (.lst [.int 0])) Fl (.lst []) = H0 at *
  refine ⟨_, _, rfl, ?_⟩
  refine ⟨_, rfl, a, 5, rfl, st0.1, by decide, by decide, fun n H1 n0 n1 st1 => ⟨_, _, rfl, rfl, _, rfl, by omega, by omega, for_range (lo := 0) (n := _) (fun i σ H' => ∃ (l : Addr) (L : List Int) (x4 x5 : Option V), σ = [some (.ref a), some (.int r), some (.ref l), some (.ref Fl), x4, x5] ∧ Stay a H H' ∧ H' l = some (.lst (L.map V.int)) ∧ H' Fl = some (.lst []) ∧ l ≠ Fl ∧ H l = none ∧ Grown r L ∧ (∀ x ∈ L, x ≤ (i : Int)) ∧ (1 ≤ i → 2 ≤ L.length)) ⟨l0, [0], none, none, rfl, st0.trans st1, st1.2 _ _ (hs.ne_none hl0) hl00, st1.2 _ _ hFa hF0, hl0F, hl0, grown0 r, fun x hx => by rw [List.mem_singleton.mp hx]; decide, fun h => by omega⟩ ?_ ?_⟩⟩
  · rintro i σ H2 hi ⟨l, L, x4, x5, rfl, st2, hL, hF2, hlF, hlf, g, hb, h2⟩
    have hla : l ≠ a := hs.ne_none hlf
    have n1' := g.n1
    have n12' := g.n12
    have hln : (L.map V.int).length = L.length := by simp
    refine ⟨_, rfl, l, _, rfl, .inl (SqL.of hL), _, rfl, _, _, rfl, rfl, _, _, rfl, rfl, _, _, rfl, rfl, _, rfl, ?_⟩
    rw [hln]
    refine ite2 (fun h1 => ?_) (fun h1 => ?_)
    · have h1' : (L.length : Int) + r - 1 ≤ 12 := of_decide_eq_true h1
      refine ⟨_, rfl, .inl ⟨rfl, _, SqL.of hL⟩, _, rfl, _, rfl, l, _, rfl, .inl (SqL.of hL), a, _, rfl, st2.1, by rw [hln]; omega, by rw [hln]; omega, fun k H3 k0 k1 st3 => ?_⟩
      rw [hln] at k1
      obtain ⟨k, rfl⟩ := Int.eq_ofNat_of_zero_le k0
      have hk : k < L.length := by omega
      have hL3 := st3.2 _ _ hla hL
      have hF3 := st3.2 _ _ hFa hF2
      have st23 := st2.trans st3
      have hat : L[k]? = some L[k] := by simp
      have hatv : (L.map V.int)[k]? = some (.int L[k]) := by rw [List.getElem?_map, hat]; rfl
      have hLk := hb _ (List.getElem_mem hk)
      refine ⟨l, _, (k : Int), k, .int L[k], rfl, rfl, hL3, by omega, by omega, seqIx (by simpa using hk), hatv, ?_⟩
      have st4 := st23.mut (o := .lst ((L.map V.int).eraseIdx k)) hlf hla
      have hL4 : (upd H3 l (.lst ((L.map V.int).eraseIdx k))) l = some (.lst ((L.eraseIdx k).map V.int)) := by rw [upd_same, map_erase]
      have hF4 : (upd H3 l (.lst ((L.map V.int).eraseIdx k))) Fl = some (.lst []) := (upd_ne (Ne.symm hlF)).trans hF3
      generalize upd H3 l (.lst ((L.map V.int).eraseIdx k)) = H4 at st4 hL4 hF4
      refine ⟨_, rfl, _, rfl, _, _, rfl, rfl, (by show 1 ≤ sizeLine; decide), fun l2 hl2 => ⟨_, rfl, l2, r, _, rfl, rfl, upd_same, by omega, by omega, ?_, fun l3 hl3 => ?_⟩⟩
      · have : [V.int (L[k] + 1)].length * r.toNat ≤ 12 := by
          simp
          omega
        exact Nat.le_trans this (by decide)
      have s5 := (Same.new (o := .lst [.int (L[k] + 1)]) hl2).trans (Same.new (o := .lst (List.replicate r.toNat [V.int (L[k] + 1)]).flatten) hl3)
      have hL5 := s5 _ _ hL4
      have hF5 := s5 _ _ hF4
      have st5 := st4.same s5
      have hl3' : (upd (upd H4 l2 (.lst [.int (L[k] + 1)])) l3 (.lst (List.replicate r.toNat [V.int (L[k] + 1)]).flatten)) l3 = some (.lst ((List.replicate r.toNat (L[k] + 1)).map V.int)) := by
        rw [upd_same, repA, List.map_replicate]
      generalize upd (upd H4 l2 (.lst [.int (L[k] + 1)])) l3 (.lst (List.replicate r.toNat [V.int (L[k] + 1)]).flatten) = H5 at hL5 hF5 st5 hl3'
      have hi4 : i < 5 := by omega
      have g2 := g.grow r2 hat h1' (by omega)
      refine ⟨l, l3, _, _, rfl, rfl, hL5, hl3', ?_, fun l6 hl6 => ⟨l6, L.eraseIdx k ++ List.replicate r.toNat (L[k] + 1), _, _, rfl, st5.same (Same.new hl6), by rw [upd_same, List.map_append], Same.new hl6 _ _ hF5, (fun z => by rw [z, hF5] at hl6; cases hl6), st5.none hs hl6, g2, fun x hx => ?_, fun _ => ?_⟩⟩
      · have := g2.n12
        rw [List.length_append] at this
        rw [List.length_map, List.length_map]
        exact Nat.le_trans this (by decide)
      · rcases List.mem_append.mp hx with h | h
        · have := hb x ((erase_perm hat).mem_iff.mp (List.mem_cons_of_mem _ h))
          omega
        · rw [List.eq_of_mem_replicate h]
          omega
      · rw [List.length_append, List.length_replicate]
        omega
    · refine ⟨l, L, _, _, rfl, st2, hL, hF2, hlF, hlf, g, fun x hx => ?_, fun _ => ?_⟩
      · have := hb x hx
        omega
      · have h1' : ¬ (L.length : Int) + r - 1 ≤ 12 := fun z => h1 (decide_eq_true z)
        by_cases h0 : 1 ≤ i
        · exact h2 h0
        · omega
  · rintro σ H2 ⟨l, L, x4, x5, rfl, st2, hL, hF2, hlF, hlf, g, hb, h2⟩
    have hla : l ≠ a := hs.ne_none hlf
    have hL2 := h2 (by omega)
    refine ⟨fun m σ H' => ∃ M F : List Int, m = M.length ∧ σ = [some (.ref a), some (.int r), some (.ref l), some (.ref Fl), x4, x5] ∧ Stay a H H' ∧ H' l = some (.lst (M.map V.int)) ∧ H' Fl = some (.lst (F.map V.int)) ∧ (F ++ M).Perm L, ⟨_, L, [], rfl, rfl, st2, hL, hF2, List.Perm.refl _⟩, ?_⟩
    rintro m σ H3 ⟨M, F, rfl, rfl, st3, hL3, hF3, hp⟩
    have hlen := hp.length_eq
    rw [List.length_append] at hlen
    have n12' := g.n12
    refine ⟨fun b H' => Same H3 H' ∧ b = !decide (M = []), ?_, fun b H4 hb => ?_⟩
    · refine ⟨_, rfl, Nat.zero_le _, fun p2 hp2 => ?_⟩
      have s2 := Same.new (o := .lst []) hp2
      refine ⟨_, _, dp_lst (SqL.of (s2 _ _ hL3)), .lst (SqL.of upd_same) .nil, shaped_lst _, shaped_lst [], _, rfl, s2, ?_⟩
      rw [show PyData.eqv (.list (M.map PyData.int)) (.list []) = decide (M = []) from eqv_lst M []]
    · obtain ⟨s4, rfl⟩ := hb
      have st4 := st3.same s4
      have hL4 := s4 _ _ hL3
      have hF4 := s4 _ _ hF3
      by_cases hM : M = []
      · subst hM
        rw [List.append_nil] at hp
        exact ⟨_, rfl, Fl, _, rfl, SqL.of hF4, fun p H5 s5 dp => q p F H5 (st4.same s5) dp (g.perm hp) (by rw [hp.length_eq]; exact hL2)⟩
      · have e : (!decide (M = [])) = true := by simp [hM]
        have hpos : 0 < M.length := List.length_pos_iff.mpr hM
        refine iteTd e ⟨_, fun σ' H' z => z, ?_⟩
        have hMl : (M.map V.int).length = M.length := by simp
        refine ⟨_, rfl, .inl ⟨rfl, _, SqL.of hF4⟩, _, rfl, .inl ⟨rfl, _, SqL.of hL4⟩, _, rfl, _, rfl, l, _, rfl, .inl (SqL.of hL4), a, _, rfl, st4.1, by rw [hMl]; omega, by rw [hMl]; omega, fun k H5 k0 k1 st5 => ?_⟩
        rw [hMl] at k1
        obtain ⟨k, rfl⟩ := Int.eq_ofNat_of_zero_le k0
        have hk : k < M.length := by omega
        have hat : M[k]? = some M[k] := by simp
        have hL5 := st5.2 _ _ hla hL4
        have hF5 := st5.2 _ _ hFa hF4
        have st45 := st4.trans st5
        have hatv : (M.map V.int)[k]? = some (.int M[k]) := by rw [List.getElem?_map, hat]; rfl
        have hF6 : (upd H5 l (.lst ((M.map V.int).eraseIdx k))) Fl = some (.lst (F.map V.int)) := (upd_ne (Ne.symm hlF)).trans hF5
        refine ⟨l, _, (k : Int), k, .int M[k], rfl, rfl, hL5, by omega, by omega, seqIx (by simpa using hk), hatv, Fl, _, _, rfl, rfl, hF6, ?_, (M.eraseIdx k).length, ?_, M.eraseIdx k, F ++ [M[k]], rfl, rfl, (st45.mut hlf hla).mut hFH hFa, ?_, ?_, ?_⟩
        · rw [List.length_map]
          exact Nat.lt_of_lt_of_le (show F.length < 100 by omega) (by decide)
        · rw [List.length_eraseIdx, if_pos hk]
          omega
        · rw [upd_ne hlF, upd_same, map_erase]
        · rw [upd_same, List.map_append]
          rfl
        · have := pop_perm (G := F) (cur := []) (left := M) (names := L) (by simpa using hp) hat
          simpa using this
end
end DK
set_option Elab.async false
set_option linter.all false
set_option maxRecDepth 100000
set_option maxHeartbeats 4000000
namespace DK
open PySem PySem.Spec PyProof.Rows L2 RZ DL
abbrev s_law_low : Stmt := topS 49
abbrev N_law_low : List Str := ["_law_n", "_law_d", "_law_one_here", "_law_other"]
theorem sc_law_low : FnScope N_law_low ["_law_n", "_law_d"] (defScope s_law_low) := ⟨rfl, rfl, rfl, by decide +kernel, rfl, by decide +kernel, by decide +kernel⟩
theorem b_law_low : BindOk "_law_low" s_law_low ["_law_n", "_law_d"] := fun _ _ _ _ _ _ us hl => match us, hl with | [_, _], _ => rfl

abbrev s_law_plus : Stmt := topS 50
abbrev N_law_plus : List Str := ["_law_a", "_law_b"]
theorem sc_law_plus : FnScope N_law_plus ["_law_a", "_law_b"] (defScope s_law_plus) := ⟨rfl, rfl, rfl, by decide +kernel, rfl, by decide +kernel, by decide +kernel⟩
theorem b_law_plus : BindOk "_law_plus" s_law_plus ["_law_a", "_law_b"] := fun _ _ _ _ _ _ us hl => match us, hl with | [_, _], _ => rfl

abbrev s_law_times : Stmt := topS 51
abbrev N_law_times : List Str := ["_law_a", "_law_b"]
theorem sc_law_times : FnScope N_law_times ["_law_a", "_law_b"] (defScope s_law_times) := ⟨rfl, rfl, rfl, by decide +kernel, rfl, by decide +kernel, by decide +kernel⟩
theorem b_law_times : BindOk "_law_times" s_law_times ["_law_a", "_law_b"] := fun _ _ _ _ _ _ us hl => match us, hl with | [_, _], _ => rfl

section
variable {P : Program} {w : World} {K : PySem.W.Frag} {mg : Str → Option Value} {base : Heap} {C f0 fC CM fR CC : Addr}
theorem gcd_step {a b : Int} (ha : 0 ≤ a) (hb : 0 < b) : gcdI b (a % b) = gcdI a b := by
  obtain ⟨x, rfl⟩ := Int.eq_ofNat_of_zero_le ha
  obtain ⟨y, rfl⟩ := Int.eq_ofNat_of_zero_le (Int.le_of_lt hb)
  unfold gcdI
  have e : ((x : Int) % (y : Int)).natAbs = x % y := by
    rw [← Int.natCast_emod]
    rfl
  rw [e]
  show ((Nat.gcd y (x % y) : Nat) : Int) = (Nat.gcd x y : Nat)
  rw [Nat.gcd_comm y, ← Nat.gcd_rec, Nat.gcd_comm]
def spLow : Sp := fun vs H Q _ => ∃ (n d : Int) (k : Nat), vs = [.int n, .int d] ∧ 0 ≤ n ∧ 0 < d ∧ Bit k d ∧ k < 8000 ∧ ∀ p H', Same H H' → ShD H' p (Rat.divInt n d) → Q (.ref p) H'
theorem ca_low (B : Bl mg) (U : Up K mg "_law_low" s_law_low) : Ca P w K mg base 1 "_law_low" s_law_low ["_law_n", "_law_d"] spLow := by
  refine ca0 U sc_law_low (fun vs H Q E h => by obtain ⟨n, d, k, rfl, _⟩ := h; rfl) fun f cdv A outer s H vs Q E hr h => ?_
  obtain ⟨n, d, k, rfl, n0, d0, bd, hk, q⟩ := h
  refine ⟨_, (pss_cons (ps_par (i := 2) (j := 3) (by rfl) sc_law_low.nd rfl rfl (by decide) rfl rfl (pa_cons (pe_callB (call_max2 rfl) (by rfl) B.max (by decide +kernel) (pa_cons (pv 0) (pa_cons (pe_un un_neg (pv 0)) pa_nil))) (pa_cons (pv 1) pa_nil)) (by rfl))
      (pss_cons (ps_while PassesOwn.never (pt_mono (pt_cmpR op_ne (pv 3) pe_int (nomark _))) (pss_one (ps_par (i := 2) (j := 3) (by rfl) sc_law_low.nd rfl rfl (by decide) rfl rfl (pa_cons (pv 3) (pa_cons (pe_op op_mod (pe_callTy call_int1 (by rfl) B.int (by decide +kernel) (pa_cons (pv 2) pa_nil)) (pv 3)) pa_nil)) (by rfl))))
      (pss_one (ps_ret (pe_tupD (pa_cons (pe_op op_fdivS (pv 0) (pv 2)) (pa_cons (pe_op op_fdivS (pv 1) (pv 2)) pa_nil))))))), ?_⟩
  refine ⟨_, rfl, _, rfl, _, rfl, _, _, rfl, _, rfl, _, _, rfl, ?_⟩
  have hmx : (if -n > n then -n else n) = n := by
    split <;> omega
  rw [hmx]
  refine while_m (fun σ H' => ∃ x y : Int, σ = [some (.int n), some (.int d), some (.int x), some (.int y)] ∧ H' = H ∧ 0 ≤ x ∧ 0 ≤ y ∧ gcdI x y = gcdI n d) (slotN 3) ⟨n, d, rfl, rfl, n0, by omega, rfl⟩ ?_
  rintro σ H' ⟨x, y, rfl, rfl, x0, y0, hg⟩
  refine ⟨fun b H2 => H2 = H' ∧ b = !decide (y = 0), ?_, ?_, ?_⟩
  · have e : decide (V.int y = V.int 0) = decide (y = 0) := by
      by_cases h : y = 0
      · rw [h]
        rfl
      · rw [decide_eq_false h, decide_eq_false (fun z => h (V.int.inj z))]
    exact ⟨_, rfl, rfl, _, rfl, rfl, by rw [e]⟩
  · rintro H2 ⟨rfl, hb⟩
    have hy : 0 < y := by
      by_cases h : y = 0
      · rw [decide_eq_true h] at hb
        cases hb
      · omega
    have m0 := Int.emod_nonneg x (show y ≠ 0 by omega)
    have m1 := Int.emod_lt_of_pos x hy
    refine ⟨_, rfl, _, rfl, .inl ⟨_, rfl, _, rfl, _, _, rfl, rfl, hy, _, _, rfl, ⟨y, x % y, rfl, rfl, y0, m0, by rw [gcd_step x0 hy, hg]⟩, ?_⟩⟩
    show (x % y).toNat < y.toNat
    omega
  · rintro H2 ⟨rfl, hb⟩
    have hy : y = 0 := by
      by_cases h : y = 0
      · exact h
      · rw [decide_eq_false h] at hb
        cases hb
    subst hy
    have hx : x = gcdI n d := by
      rw [← hg]
      unfold gcdI
      simp
      omega
    have hp := gcdI_pos (n := n) (show d ≠ 0 by omega)
    have hb2 : x.natAbs.log2 < 9000 := by
      have h1 : (gcdI n d).natAbs ≤ d.natAbs := Nat.le_of_dvd (by omega) (Int.natAbs_dvd_natAbs.mpr (gcdI_dvdR n d))
      have h3 : Bit k (gcdI n d) := Nat.lt_of_le_of_lt h1 bd
      rw [hx]
      have := h3.log
      omega
    have hs := share_num (n := n) (show d ≠ 0 by omega)
    have ht := share_den (n := n) (show d ≠ 0 by omega)
    rw [if_neg (by omega), ← hx] at hs ht
    refine ⟨_, rfl, _, rfl, _, _, rfl, rfl, ⟨by omega, hb2⟩, _, rfl, _, rfl, _, _, rfl, rfl, ⟨by omega, hb2⟩, (by show 2 ≤ sizeLine; decide), fun p H' s' hp => q p H' s' ?_⟩
    unfold ShD
    rw [← hs, ← ht]
    exact hp
theorem den_pos (x y : Rat) : 0 < ((x.den : Nat) : Int) * (y.den : Nat) := by
  have h1 := x.den_pos
  have h2 := y.den_pos
  exact Int.mul_pos (by omega) (by omega)
def spBinN (f : Rat → Rat → Rat) : Sp := fun vs H Q _ => ∃ (a b : Addr) (x y : Rat) (j k : Nat), vs = [.ref a, .ref b] ∧ ShD H a x ∧ ShD H b y ∧ BitR j x ∧ BitR k y ∧ 0 ≤ x.num ∧ 0 ≤ y.num ∧ j + k < 7000 ∧ ∀ p H', Same H H' → ShD H' p (f x y) → Q (.ref p) H'
theorem ca_law_times (c_law_low : Ca P w K mg base 1 "_law_low" s_law_low ["_law_n", "_law_d"] spLow) (U : Up K mg "_law_times" s_law_times) : Ca P w K mg base 2 "_law_times" s_law_times ["_law_a", "_law_b"] (spBinN (· * ·)) := by
  refine ca0 U sc_law_times (fun vs H Q E h => by obtain ⟨a, b, x, y, j, k, rfl, _⟩ := h; rfl) fun f cdv A outer s H vs Q E hr h => ?_
  obtain ⟨a, b, x, y, j, k, rfl, hx, hy, bx, by_, x0, y0, hjk, q⟩ := h
  refine ⟨_, (pss_one (ps_ret (pe_ca c_law_low b_law_low hr ps0 (pa_cons (pe_op op_mulW (pe_ix (ix_tupK K rfl) (pv 0) pe_int (fun _ _ => rfl)) (pe_ix (ix_tupK K rfl) (pv 1) pe_int (fun _ _ => rfl))) (pa_cons (pe_op op_mulW (pe_ix (ix_tupK K rfl) (pv 0) pe_int (fun _ _ => rfl)) (pe_ix (ix_tupK K rfl) (pv 1) pe_int (fun _ _ => rfl))) pa_nil))))), ?_⟩
  refine ⟨_, rfl, a, _, 0, _, rfl, rfl, hx.sq, at0, _, rfl, b, _, 0, _, rfl, rfl, hy.sq, at0, _, _, rfl, rfl, bx.1.mulW by_.1 (by omega), _, rfl, a, _, 1, _, rfl, rfl, hx.sq, at1, _, rfl, b, _, 1, _, rfl, rfl, hy.sq, at1, _, _, rfl, rfl, bx.2.mulW by_.2 (by omega), _, _, j + k, rfl, Int.mul_nonneg x0 y0, den_pos x y, bx.2.mul by_.2, by omega, fun p H' s' hp => q p H' s' ?_⟩
  show ShD H' p (x * y)
  rw [rat_mul]
  exact hp
theorem ca_law_plus (c_law_low : Ca P w K mg base 1 "_law_low" s_law_low ["_law_n", "_law_d"] spLow) (U : Up K mg "_law_plus" s_law_plus) : Ca P w K mg base 2 "_law_plus" s_law_plus ["_law_a", "_law_b"] (spBinN (· + ·)) := by
  refine ca0 U sc_law_plus (fun vs H Q E h => by obtain ⟨a, b, x, y, j, k, rfl, _⟩ := h; rfl) fun f cdv A outer s H vs Q E hr h => ?_
  obtain ⟨a, b, x, y, j, k, rfl, ha, hb, bx, by_, x0, y0, hjk, q⟩ := h
  refine ⟨_, (pss_one (ps_ret (pe_ca c_law_low b_law_low hr ps0 (pa_cons (pe_op op_add (pe_op op_mulW (pe_ix (ix_tupK K rfl) (pv 0) pe_int (fun _ _ => rfl)) (pe_ix (ix_tupK K rfl) (pv 1) pe_int (fun _ _ => rfl))) (pe_op op_mulW (pe_ix (ix_tupK K rfl) (pv 1) pe_int (fun _ _ => rfl)) (pe_ix (ix_tupK K rfl) (pv 0) pe_int (fun _ _ => rfl)))) (pa_cons (pe_op op_mulW (pe_ix (ix_tupK K rfl) (pv 0) pe_int (fun _ _ => rfl)) (pe_ix (ix_tupK K rfl) (pv 1) pe_int (fun _ _ => rfl))) pa_nil))))), ?_⟩
  refine ⟨_, rfl, a, _, 0, _, rfl, rfl, ha.sq, at0, _, rfl, b, _, 1, _, rfl, rfl, hb.sq, at1, _, _, rfl, rfl, bx.1.mulW by_.2 (by omega), _, rfl, b, _, 0, _, rfl, rfl, hb.sq, at0, _, rfl, a, _, 1, _, rfl, rfl, ha.sq, at1, _, _, rfl, rfl, by_.1.mulW bx.2 (by omega), _, _, rfl, rfl, _, rfl, a, _, 1, _, rfl, rfl, ha.sq, at1, _, rfl, b, _, 1, _, rfl, rfl, hb.sq, at1, _, _, rfl, rfl, bx.2.mulW by_.2 (by omega), _, _, j + k, rfl, ?_, den_pos x y, bx.2.mul by_.2, by omega, fun p H' s' hp => q p H' s' ?_⟩
  · have h1 := Int.mul_nonneg x0 (show (0 : Int) ≤ (y.den : Nat) by omega)
    have h2 := Int.mul_nonneg y0 (show (0 : Int) ≤ (x.den : Nat) by omega)
    omega
  · show ShD H' p (x + y)
    rw [rat_add]
    exact hp
end
end DK
set_option Elab.async false
set_option linter.all false
set_option maxRecDepth 100000
set_option maxHeartbeats 1000000
namespace DK
open PySem PySem.Spec PyProof.Rows L2 RZ DL
/-- the sum of 1 / r ** h -/
def kR (r : Int) (L : List Int) : Rat := L.foldl (fun t h => t + Rat.divInt 1 (r ^ h.toNat)) 0
theorem r_pos {r : Int} (r2 : 2 ≤ r) : ∀ i : Nat, 1 ≤ r ^ i
  | 0 => by
    rw [Int.pow_zero]
    decide
  | i + 1 => by
    have h := r_pos r2 i
    rw [Int.pow_succ]
    have := Int.mul_le_mul h (show (1 : Int) ≤ r by omega) (by decide) (by omega)
    omega
theorem share_pow {r : Int} (r2 : 2 ≤ r) {h : Int} (h0 : 0 ≤ h ∧ h ≤ 11) : Rat.divInt 1 (r ^ h.toNat) = Rat.divInt (r ^ (11 - h.toNat)) (r ^ 11) := by
  have e1 := r_pos r2 h.toNat
  have e2 := r_pos r2 11
  rw [Rat.divInt_eq_divInt_iff (by omega) (by omega), Int.one_mul, ← Int.pow_add]
  congr 1
  omega
theorem divInt_same (a b d : Int) (hd : d ≠ 0) : Rat.divInt a d + Rat.divInt b d = Rat.divInt (a + b) d := by
  rw [Rat.divInt_add_divInt _ _ hd hd, Rat.divInt_eq_divInt_iff (Int.mul_ne_zero hd hd) hd, ← Int.add_mul, Int.mul_assoc]
theorem kR_krI {r : Int} (r2 : 2 ≤ r) : ∀ (L : List Int) (t : Rat), AllD L → L.foldl (fun t h => t + Rat.divInt 1 (r ^ h.toNat)) t = t + Rat.divInt (krI r L) (r ^ 11)
  | [], t, _ => by
    show t = t + Rat.divInt 0 (r ^ 11)
    rw [Rat.zero_divInt, Rat.add_zero]
  | x :: L, t, h => by
    have ih := kR_krI r2 L (t + Rat.divInt 1 (r ^ x.toNat)) fun y hy => h y (List.mem_cons_of_mem _ hy)
    have e2 := r_pos r2 11
    rw [List.foldl_cons, ih, krI_cons, share_pow r2 (h x List.mem_cons_self), Rat.add_assoc, divInt_same _ _ _ (by omega)]
theorem kR_one {r : Int} (r2 : 2 ≤ r) {L : List Int} (h : AllD L) : kR r L = 1 ↔ krI r L = r ^ 11 := by
  have e2 := r_pos r2 11
  unfold kR
  rw [kR_krI r2 L 0 h, Rat.zero_add, show (1 : Rat) = Rat.divInt 1 1 from rfl, Rat.divInt_eq_divInt_iff (by omega) (by decide), Int.mul_one, Int.one_mul]
theorem above_step (r : Int) (h : Nat) : ∀ L : List Int, krI r (L.filter fun x => decide (((h : Nat) : Int) < x)) = krI r (L.filter fun x => decide (((h + 1 : Nat) : Int) < x)) + (L.count ((h + 1 : Nat) : Int) : Nat) * r ^ (11 - (h + 1))
  | [] => by simp [krI]
  | x :: L => by
    have ih := above_step r h L
    by_cases h1 : ((h + 1 : Nat) : Int) < x
    · have h2 : ((h : Nat) : Int) < x := by omega
      have h3 : ¬ x = ((h + 1 : Nat) : Int) := by omega
      rw [List.filter_cons_of_pos (by simpa using h2), List.filter_cons_of_pos (by simpa using h1), krI_cons, krI_cons, ih, List.count_cons_of_ne (by simpa using h3)]
      omega
    · by_cases h3 : x = ((h + 1 : Nat) : Int)
      · subst h3
        rw [List.filter_cons_of_pos (by simp; omega), List.filter_cons_of_neg (by simp), krI_cons, ih, List.count_cons_self]
        have e : (((h + 1 : Nat) : Int)).toNat = h + 1 := by omega
        rw [e, show ((List.count ((h + 1 : Nat) : Int) L + 1 : Nat) : Int) = (List.count ((h + 1 : Nat) : Int) L : Nat) + 1 by omega, Int.add_mul, Int.one_mul]
        omega
      · have h2 : ¬ ((h : Nat) : Int) < x := by omega
        rw [List.filter_cons_of_neg (by simpa using h2), List.filter_cons_of_neg (by simpa using h1), ih, List.count_cons_of_ne (by simpa using h3)]
theorem above_below (r : Int) (h : Nat) : ∀ L : List Int, krI r L = krI r (L.filter fun x => decide ((h : Int) < x)) + krI r (L.filter fun x => !decide ((h : Int) < x))
  | [] => by simp [krI]
  | x :: L => by
    have ih := above_below r h L
    by_cases h1 : (h : Int) < x
    · rw [List.filter_cons_of_pos (by simpa using h1), List.filter_cons_of_neg (by simpa using h1), krI_cons, krI_cons, ih]
      omega
    · rw [List.filter_cons_of_neg (by simpa using h1), List.filter_cons_of_pos (by simpa using h1), krI_cons, krI_cons, ih]
      omega
theorem below_dvd (r : Int) (h : Nat) (hh : h ≤ 11) : ∀ L : List Int, AllD L → r ^ (11 - h) ∣ krI r (L.filter fun x => !decide ((h : Int) < x))
  | [], _ => ⟨0, by simp [krI]⟩
  | x :: L, hA => by
    have ih := below_dvd r h hh L fun y hy => hA y (List.mem_cons_of_mem _ hy)
    by_cases h1 : (h : Int) < x
    · rw [List.filter_cons_of_neg (by simpa using h1)]
      exact ih
    · have hx := hA x List.mem_cons_self
      rw [List.filter_cons_of_pos (by simpa using h1), krI_cons]
      refine Int.dvd_add ?_ ih
      have e : 11 - x.toNat = (11 - h) + (h - x.toNat) := by omega
      rw [e, Int.pow_add]
      exact Int.dvd_mul_right _ _
theorem lev_iff {r : Int} (r2 : 2 ≤ r) {L : List Int} (hA : AllD L) : ∀ (h : Nat) (l : Int) (ds : List (List Int)), h ≤ 11 → l * r ^ (11 - h) = krI r (L.filter fun x => decide ((h : Int) < x)) →
    ((∃ l' ds', levM L r h l ds = .inr (l', ds') ∧ l' + (L.count 0 : Nat) = 1) ↔ krI r L = r ^ 11)
  | 0, l, ds, _, e => by
    have h2 := above_below r 0 L
    have hz : krI r (L.filter fun x => !decide (((0 : Nat) : Int) < x)) = (L.count 0 : Nat) * r ^ 11 := by
      have hf : (L.filter fun x => !decide (((0 : Nat) : Int) < x)) = List.replicate (L.count 0) 0 := by
        rw [← List.filter_beq]
        apply List.filter_congr
        intro x hx
        have := hA x hx
        by_cases hx0 : x = 0
        · subst hx0
          rfl
        · have : (((0 : Nat) : Int) < x) := by omega
          rw [decide_eq_true this]
          simp [hx0]
      rw [hf, krI_rep]
      rfl
    have e1 := r_pos r2 11
    have e : l * r ^ 11 = krI r (L.filter fun x => decide (((0 : Nat) : Int) < x)) := e
    have tot : krI r L = (l + (L.count 0 : Nat)) * r ^ 11 := by
      rw [h2, hz, ← e, ← Int.add_mul]
    constructor
    · rintro ⟨l', ds', h3, h4⟩
      cases h3
      rw [tot, h4, Int.one_mul]
    · intro h3
      rw [tot] at h3
      refine ⟨l, ds, rfl, ?_⟩
      have h4 : (l + (L.count 0 : Nat)) * r ^ 11 = 1 * r ^ 11 := by rw [h3, Int.one_mul]
      exact Int.eq_of_mul_eq_mul_right (by omega) h4
  | h + 1, l, ds, hh, e => by
    have st := above_step r h L
    have e1 := r_pos r2 (11 - (h + 1))
    rw [← e, ← Int.add_mul] at st
    have pw : r ^ (11 - h) = r ^ (11 - (h + 1)) * r := by
      rw [← Int.pow_succ]
      congr 1
      omega
    generalize hc : (L.count ((h + 1 : Nat) : Int) : Nat) = c at st
    have hun : levM L r (h + 1) l ds = if (l + (c : Int)) % r = 0 then levM L r h ((l + (c : Int)) / r) (ds ++ [List.replicate ((l + (c : Int)) / r).toNat r]) else .inl (h + 1) := by
      rw [← hc]
      rfl
    rw [hun]
    by_cases hm : (l + (c : Int)) % r = 0
    · rw [if_pos hm]
      refine lev_iff r2 hA h _ _ (by omega) ?_
      have hd : (l + (c : Int)) / r * r = l + (c : Int) := Int.ediv_mul_cancel (Int.dvd_of_emod_eq_zero hm)
      rw [st, pw, Int.mul_comm (r ^ (11 - (h + 1))) r, ← Int.mul_assoc, hd]
    · rw [if_neg hm]
      constructor
      · rintro ⟨l', ds', h3, _⟩
        cases h3
      · intro h3
        exfalso
        have h2 := above_below r h L
        obtain ⟨k, hk⟩ := below_dvd r h (by omega) L hA
        have p11 : r ^ 11 = r ^ (11 - h) * r ^ h := by
          rw [← Int.pow_add]
          congr 1
          omega
        rw [h3, st, hk, p11] at h2
        -- r ^ (11 - h) * r ^ h = (l + c) * P + r ^ (11 - h) * k
        have h4 : (l + (c : Int)) * r ^ (11 - (h + 1)) = (r * (r ^ h - k)) * r ^ (11 - (h + 1)) := by
          have e4 : (r * (r ^ h - k)) * r ^ (11 - (h + 1)) = r ^ (11 - h) * r ^ h - r ^ (11 - h) * k := by
            rw [← Int.mul_sub, pw]
            ac_rfl
          rw [e4]
          omega
        have h5 := Int.eq_of_mul_eq_mul_right (show r ^ (11 - (h + 1)) ≠ 0 by omega) h4
        apply hm
        rw [h5, Int.mul_emod_right]
theorem whole_iff {r : Int} (r2 : 2 ≤ r) {L : List Int} (hD : LenD L) (hA : AllD L) : (∃ x, depM L r = .inr x) ↔ kR r L = 1 := by
  have hne : L ≠ [] := fun z => by
    have := hD.1
    rw [z] at this
    simp at this
  have hm := hA _ (maxL_mem hne)
  have h0 : (0 : Int) * r ^ (11 - (maxL L).toNat) = krI r (L.filter fun x => decide ((((maxL L).toNat : Nat) : Int) < x)) := by
    rw [List.filter_eq_nil_iff.mpr (fun x hx => by
      have := maxL_ge hx
      simp
      omega)]
    simp [krI]
  have h1 := lev_iff r2 hA (maxL L).toNat 0 [] (by omega) h0
  rw [kR_one r2 hA, ← h1]
  unfold depM
  constructor
  · rintro ⟨x, hx⟩
    split at hx
    · cases hx
    · rename_i l ds hl
      split at hx
      · rename_i hc
        exact ⟨l, ds, hl, hc⟩
      · cases hx
  · rintro ⟨l, ds, hl, hc⟩
    rw [hl]
    exact ⟨_, if_pos hc⟩
theorem grown_one {r : Int} (r2 : 2 ≤ r) {F : List Int} (g : Grown r F) : kR r F = 1 := (kR_one r2 g.all).mpr g.kr
end DK
set_option Elab.async false
set_option linter.all false
set_option maxRecDepth 100000
set_option maxHeartbeats 1000000
namespace DK
open PySem PySem.Spec PyProof.Rows L2 RZ DL
/-- the lines of each day, ahead of its partings -/
def linesN (L : List Int) (r : Int) : Nat → Int → List Int
  | 0, _ => []
  | h + 1, l => (l + (L.count ((h + 1 : Nat) : Int) : Nat)) :: linesN L r h ((l + (L.count ((h + 1 : Nat) : Int) : Nat)) / r)
def endN (L : List Int) (r : Int) : Nat → Int → Int
  | 0, l => l
  | h + 1, l => endN L r h ((l + (L.count ((h + 1 : Nat) : Int) : Nat)) / r)
theorem linesN_len (L : List Int) (r : Int) : ∀ (h : Nat) (l : Int), (linesN L r h l).length = h
  | 0, _ => rfl
  | h + 1, l => by
    show _ + 1 = h + 1
    rw [linesN_len L r h]
/-- one level's day -/
def dayN (r n : Int) : List Int := List.replicate (n / r).toNat r
theorem lev_lines {L : List Int} {r : Int} : ∀ (h : Nat) (l : Int) (ds : List (List Int)) (l' : Int) (ds' : List (List Int)), levM L r h l ds = .inr (l', ds') → ds' = ds ++ (linesN L r h l).map (dayN r) ∧ (∀ n ∈ linesN L r h l, n % r = 0) ∧ l' = endN L r h l
  | 0, l, ds, l', ds', e => by
    have e' : (Sum.inr (l, ds) : Nat ⊕ (Int × List (List Int))) = .inr (l', ds') := e
    cases e'
    exact ⟨(List.append_nil _).symm, (fun n h => nomatch h), rfl⟩
  | h + 1, l, ds, l', ds', e => by
    have hun : levM L r (h + 1) l ds = if (l + (L.count ((h + 1 : Nat) : Int) : Nat)) % r = 0 then levM L r h ((l + (L.count ((h + 1 : Nat) : Int) : Nat)) / r) (ds ++ [List.replicate ((l + (L.count ((h + 1 : Nat) : Int) : Nat)) / r).toNat r]) else .inl (h + 1) := rfl
    rw [hun] at e
    by_cases hm : (l + (L.count ((h + 1 : Nat) : Int) : Nat)) % r = 0
    · rw [if_pos hm] at e
      obtain ⟨h1, h2, h3⟩ := lev_lines h _ _ _ _ e
      refine ⟨?_, fun n hn => ?_, h3⟩
      · rw [h1, List.append_assoc]
        rfl
      · rcases List.mem_cons.mp hn with rfl | hn
        · exact hm
        · exact h2 n hn
    · rw [if_neg hm] at e
      cases e
theorem day_sum {r n : Int} (r1 : 0 < r) (n0 : 0 ≤ n) (h : n % r = 0) : (dayN r n).sum = n ∧ ((dayN r n).length : Int) = n / r := by
  have h1 : 0 ≤ n / r := Int.ediv_nonneg n0 (by omega)
  have hs : ∀ k : Nat, (List.replicate k r).sum = (k : Int) * r := by
    intro k
    induction k with
    | zero => simp
    | succ k ih =>
      rw [List.replicate_succ, List.sum_cons, ih, show ((k + 1 : Nat) : Int) = (k : Int) + 1 by omega, Int.add_mul, Int.one_mul, Int.add_comm]
  have hd : n / r * r = n := Int.ediv_mul_cancel (Int.dvd_of_emod_eq_zero h)
  refine ⟨?_, ?_⟩
  · unfold dayN
    rw [hs, show (((n / r).toNat : Nat) : Int) = n / r by omega, hd]
  · unfold dayN
    rw [List.length_replicate]
    omega
/-- the lines alive are those that the text counts -/
theorem alive_lines {bs : List Int} {r : Int} (r2 : 2 ≤ r) {L : List Int} {D : Nat} (hbs : ∀ i : Nat, i ≤ D → bs.count (i : Int) = L.count ((D : Int) - (i : Int))) (hneg : ∀ b ∈ bs, 0 ≤ b) :
    ∀ (h : Nat) (l : Int) (pre : List (List Int)), pre.length + h = D → 0 ≤ l → (∀ n ∈ linesN L r h l, n % r = 0) → (l + (bs.count (pre.length : Int) : Nat) = aliveAt bs pre pre.length) →
      ∀ i n, (linesN L r h l)[i]? = some n → 0 ≤ n ∧ aliveAt bs (pre ++ (linesN L r h l).map (dayN r)) (pre.length + i) = n
  | 0, l, pre, _, _, _, _, i, n, hn => by cases hn
  | h + 1, l, pre, hD, l0, hm, ha, i, n, hn => by
    have hc : bs.count (pre.length : Int) = L.count ((h + 1 : Nat) : Int) := by
      rw [hbs pre.length (by omega)]
      congr 1
      omega
    have hn0 : 0 ≤ l + (L.count ((h + 1 : Nat) : Int) : Nat) := by omega
    have hmod := hm _ List.mem_cons_self
    rw [hc] at ha
    obtain ⟨s1, s2⟩ := day_sum (show 0 < r by omega) hn0 hmod
    have hl : 0 ≤ (l + (L.count ((h + 1 : Nat) : Int) : Nat)) / r := Int.ediv_nonneg hn0 (by omega)
    have e : pre ++ (linesN L r (h + 1) l).map (dayN r) = (pre ++ [dayN r (l + (L.count ((h + 1 : Nat) : Int) : Nat))]) ++ (linesN L r h ((l + (L.count ((h + 1 : Nat) : Int) : Nat)) / r)).map (dayN r) := by
      rw [List.append_assoc]
      rfl
    have hnx : aliveAt bs (pre ++ [dayN r (l + (L.count ((h + 1 : Nat) : Int) : Nat))]) (pre.length + 1) = (l + (L.count ((h + 1 : Nat) : Int) : Nat)) / r + (bs.count ((pre.length + 1 : Nat) : Int) : Nat) := by
      rw [alive_next, ← ha, s1, s2]
      omega
    cases i with
    | zero =>
      have : l + (L.count ((h + 1 : Nat) : Int) : Nat) = n := Option.some.inj hn
      rw [← this]
      refine ⟨hn0, ?_⟩
      have e2 : aliveAt bs (pre ++ (linesN L r (h + 1) l).map (dayN r)) (pre.length + 0) = aliveAt bs pre pre.length := by
        unfold aliveAt
        rw [Nat.add_zero, List.take_append_of_le_length (Nat.le_refl _)]
      rw [e2, ha]
    | succ i =>
      have ih := alive_lines r2 hbs hneg h ((l + (L.count ((h + 1 : Nat) : Int) : Nat)) / r) (pre ++ [dayN r (l + (L.count ((h + 1 : Nat) : Int) : Nat))]) (by simp; omega) hl (fun n hn => hm n (List.mem_cons_of_mem _ hn)) (by
        rw [List.length_append, List.length_singleton, hnx]) i n hn
      rw [e]
      rw [List.length_append, List.length_singleton] at ih
      rw [show pre.length + (i + 1) = pre.length + 1 + i by omega]
      exact ih
end DK
set_option Elab.async false
set_option linter.all false
set_option maxRecDepth 100000
set_option maxHeartbeats 1000000
namespace DK
open PySem PySem.Spec PyProof.Rows L2 RZ DL
theorem count_turn (M : Int) (i : Int) : ∀ L : List Int, (L.map fun h => M - h).count i = L.count (M - i)
  | [] => rfl
  | x :: L => by
    rw [List.map_cons, List.count_cons, List.count_cons, count_turn M i L]
    have : ((M - x == i) : Bool) = (x == M - i) := by
      rw [Bool.eq_iff_iff]
      simp
      omega
    rw [this]
theorem linesN_next (L : List Int) (r : Int) : ∀ (h : Nat) (l : Int) (i : Nat) (n m : Int), (linesN L r h l)[i]? = some n → (linesN L r h l)[i + 1]? = some m → m = n / r + (L.count ((h : Int) - ((i + 1 : Nat) : Int)) : Nat)
  | 0, _, _, _, _, h, _ => by cases h
  | h + 1, l, 0, n, m, h1, h2 => by
    have e1 : l + (L.count ((h + 1 : Nat) : Int) : Nat) = n := Option.some.inj h1
    cases h with
    | zero => cases h2
    | succ h =>
      have e2 : (l + (L.count ((h + 1 + 1 : Nat) : Int) : Nat)) / r + (L.count ((h + 1 : Nat) : Int) : Nat) = m := Option.some.inj h2
      rw [← e2, ← e1]
      congr 3
      omega
  | h + 1, l, i + 1, n, m, h1, h2 => by
    have := linesN_next L r h _ i n m h1 h2
    rw [this]
    congr 3
    omega
theorem endN_last (L : List Int) (r : Int) : ∀ (h : Nat) (l : Int) (n : Int), (linesN L r (h + 1) l)[h]? = some n → endN L r (h + 1) l = n / r
  | 0, l, n, e => by
    have : l + (L.count ((0 + 1 : Nat) : Int) : Nat) = n := Option.some.inj e
    rw [← this]
    rfl
  | h + 1, l, n, e => endN_last L r h _ n e
theorem day_pat {r n : Int} (r2 : 2 ≤ r) : patB (dayN r n) = true := by
  rw [patB_iff]
  refine ⟨fun s hs => ?_, fun p hp => ?_⟩
  · rw [List.eq_of_mem_replicate hs]
    exact r2
  · have h1 := (List.of_mem_zip (a := p.1) (b := p.2) hp)
    rw [List.eq_of_mem_replicate h1.1, List.eq_of_mem_replicate (List.mem_of_mem_drop h1.2)]
    exact Int.le_refl _
/-- what is used of a calendar of depths -/
structure DepCal (L : List Int) (r : Int) (bs : List Int) (ds : List (List Int)) : Prop where
  ok : CalOk bs ds
  pos : 1 ≤ ds.length
  deep : (ds.length : Int) = maxL L
  born : bs = L.map fun h => maxL L - h
  day : ∀ d, d < ds.length → ds.getD d [] = dayN r (aliveAt bs ds d) ∧ aliveAt bs ds d % r = 0 ∧ r ≤ aliveAt bs ds d
  first : aliveAt bs ds 0 = (L.count (maxL L) : Nat)
  next : ∀ d, d + 1 < ds.length → aliveAt bs ds (d + 1) = aliveAt bs ds d / r + (L.count (maxL L - ((d + 1 : Nat) : Int)) : Nat)
  last : aliveAt bs ds (ds.length - 1) = r
  low : ∀ x ∈ L, 1 ≤ x
theorem dep_cal {r : Int} {L : List Int} (g : Grown r L) (r2 : 2 ≤ r) (h2 : 2 ≤ L.length) {bs : List Int} {ds : List (List Int)} (e : depM L r = .inr (bs, ds)) : DepCal L r bs ds := by
  have hne : L ≠ [] := fun z => by
    rw [z] at h2
    simp at h2
  have hmm := maxL_mem hne
  have hmb := g.all _ hmm
  unfold depM at e
  generalize hM : maxL L = M at *
  obtain ⟨D, rfl⟩ := Int.eq_ofNat_of_zero_le hmb.1
  rw [Int.toNat_natCast] at e
  split at e
  · cases e
  rename_i l ds' hl
  split at e
  · rename_i hc
    cases e
    obtain ⟨k1, k2, k3⟩ := lev_lines D 0 [] l ds hl
    rw [List.nil_append] at k1
    have hge : ∀ x ∈ L, x ≤ (D : Int) := fun x hx => by
      have := maxL_ge hx
      omega
    have hcount : ∀ i : Int, (L.map fun h => (D : Int) - h).count i = L.count ((D : Int) - i) := fun i => count_turn _ _ _
    have hneg : ∀ b ∈ L.map (fun h => (D : Int) - h), 0 ≤ b := fun b hb => by
      obtain ⟨x, hx, rfl⟩ := List.mem_map.mp hb
      have := hge x hx
      omega
    have h00 : (0 : Int) + ((L.map fun h => (D : Int) - h).count (([] : List (List Int)).length : Int) : Nat) = aliveAt (L.map fun h => (D : Int) - h) [] ([] : List (List Int)).length := by
      unfold aliveAt
      have hf : ((L.map fun h => (D : Int) - h).filter fun b => decide (b ≤ ((([] : List (List Int)).length : Nat) : Int))) = List.replicate ((L.map fun h => (D : Int) - h).count 0) 0 := by
        rw [← List.filter_beq]
        apply List.filter_congr
        intro x hx
        have := hneg x hx
        by_cases hx0 : x = 0
        · subst hx0
          rfl
        · have h1 : ¬ x ≤ ((([] : List (List Int)).length : Nat) : Int) := fun z => by
            simp at z
            omega
          rw [decide_eq_false h1]
          simp [hx0]
      rw [hf, List.length_replicate]
      simp
    have hal := alive_lines (bs := L.map fun h => (D : Int) - h) r2 (L := L) (D := D) (fun i _ => hcount i) hneg D 0 [] (by simp) (Int.le_refl _) k2 h00
    rw [List.nil_append, ← k1] at hal
    have hNl : (linesN L r D 0).length = D := linesN_len L r D 0
    have hdl : ds.length = D := by rw [k1, List.length_map, hNl]
    have hD1 : 1 ≤ D := by
      rcases Nat.eq_zero_or_pos D with hz | hz
      · exfalso
        subst hz
        have hl0 : l = 0 := k3
        rw [hl0] at hc
        have hall : ∀ x ∈ L, x = 0 := fun x hx => by
          have := hge x hx
          have := (g.all x hx).1
          omega
        have : L.count 0 = L.length := List.count_eq_length.mpr fun x hx => (hall x hx).symm
        omega
      · exact hz
    have hat : ∀ i, i < D → ∃ n, (linesN L r D 0)[i]? = some n ∧ aliveAt (L.map fun h => (D : Int) - h) ds i = n ∧ 0 ≤ n := fun i hi => by
      have : (linesN L r D 0)[i]? = some ((linesN L r D 0)[i]'(by omega)) := by simp
      obtain ⟨a1, a2⟩ := hal i _ this
      simp only [List.length_nil, Nat.zero_add] at a2
      exact ⟨_, this, a2, a1⟩
    have hfirst : aliveAt (L.map fun h => (D : Int) - h) ds 0 = (L.count (D : Int) : Nat) := by
      obtain ⟨n, n1, n2, n3⟩ := hat 0 hD1
      rw [n2]
      cases D with
      | zero => omega
      | succ D =>
        have : (0 : Int) + (L.count ((D + 1 : Nat) : Int) : Nat) = n := Option.some.inj n1
        omega
    have hnext : ∀ d, d + 1 < D → aliveAt (L.map fun h => (D : Int) - h) ds (d + 1) = aliveAt (L.map fun h => (D : Int) - h) ds d / r + (L.count ((D : Int) - ((d + 1 : Nat) : Int)) : Nat) := fun d hd => by
      obtain ⟨n, n1, n2, n3⟩ := hat d (by omega)
      obtain ⟨m, m1, m2, m3⟩ := hat (d + 1) hd
      rw [n2, m2]
      exact linesN_next L r D 0 d n m n1 m1
    have hmod : ∀ d, d < D → aliveAt (L.map fun h => (D : Int) - h) ds d % r = 0 := fun d hd => by
      obtain ⟨n, n1, n2, n3⟩ := hat d hd
      rw [n2]
      exact k2 n (List.mem_of_getElem? n1)
    have hbig : ∀ n : Int, 1 ≤ n → n % r = 0 → r ≤ n ∧ 1 ≤ n / r := fun n h1 h2 => by
      obtain ⟨k, rfl⟩ := Int.dvd_of_emod_eq_zero h2
      have hk : 1 ≤ k := by
        by_cases hk : 1 ≤ k
        · exact hk
        · exfalso
          have : r * k ≤ r * 0 := Int.mul_le_mul_of_nonneg_left (by omega) (by omega)
          omega
      have : r * 1 ≤ r * k := Int.mul_le_mul_of_nonneg_left hk (by omega)
      exact ⟨by omega, by rw [Int.mul_ediv_cancel_left _ (by omega)]; exact hk⟩
    have hpos : ∀ d, d < D → 1 ≤ aliveAt (L.map fun h => (D : Int) - h) ds d := by
      intro d
      induction d with
      | zero =>
        intro _
        rw [hfirst]
        have := List.count_pos_iff.mpr hmm
        omega
      | succ d ih =>
        intro hd
        rw [hnext d hd]
        have := (hbig _ (ih (by omega)) (hmod d (by omega))).2
        omega
    have hday : ∀ d, d < ds.length → ds.getD d [] = dayN r (aliveAt (L.map fun h => (D : Int) - h) ds d) := fun d hd => by
      obtain ⟨n, n1, n2, n3⟩ := hat d (by omega)
      rw [n2]
      refine getD_of ?_
      rw [k1, List.getElem?_map, n1]
      rfl
    have hlast : aliveAt (L.map fun h => (D : Int) - h) ds (ds.length - 1) = r ∧ l = 1 := by
      obtain ⟨D', rfl⟩ : ∃ D', D = D' + 1 := ⟨D - 1, by omega⟩
      rw [hdl, Nat.add_sub_cancel]
      obtain ⟨n, n1, n2, n3⟩ := hat D' (by omega)
      have he := endN_last L r D' 0 n n1
      have hp := hpos D' (by omega)
      have hm := hmod D' (by omega)
      rw [n2] at hp hm ⊢
      have h1 := (hbig n hp hm).2
      rw [← he, ← k3] at h1
      have hl1 : l = 1 := by omega
      have hd : n / r * r = n := Int.ediv_mul_cancel (Int.dvd_of_emod_eq_zero hm)
      rw [← he, ← k3, hl1, Int.one_mul] at hd
      exact ⟨hd.symm, hl1⟩
    have hlow : ∀ x ∈ L, 1 ≤ x := fun x hx => by
      have h0 := (g.all x hx).1
      by_cases hx0 : x = 0
      · exfalso
        subst hx0
        have := List.count_pos_iff.mpr hx
        have := hlast.2
        omega
      · omega
    have hpatB : ∀ p ∈ ds, patB p = true := fun p hp => by
      rw [k1] at hp
      obtain ⟨n, _, rfl⟩ := List.mem_map.mp hp
      exact day_pat r2
    have hle : ∀ d, aliveAt (L.map fun h => (D : Int) - h) ds d ≤ 12 := fun d => by
      unfold aliveAt
      have h1 := List.length_filter_le (fun b => decide (b ≤ (d : Int))) (L.map fun h => (D : Int) - h)
      have h2 := less_nn (ds := ds.take d) fun p hp => hpatB p (List.mem_of_mem_take hp)
      have h3 := g.n12
      rw [List.length_map] at h1
      omega
    have hdayOf : ∀ i p, ds[i]? = some p → i < D ∧ p = dayN r (aliveAt (L.map fun h => (D : Int) - h) ds i) := fun i p hp => by
      have hi := (List.getElem?_eq_some_iff.mp hp).1
      have := hday i hi
      rw [getD_of hp] at this
      exact ⟨by omega, this⟩
    refine ⟨⟨?_, ?_, ?_, fun p hp => ⟨hpatB p hp, ?_, ?_⟩, fun b hb => ⟨hneg b hb, ?_⟩, fun i p hp => ?_⟩, by omega, by rw [hdl, hM], by rw [hM], fun d hd => ⟨hday d hd, hmod d (by omega), (hbig _ (hpos d (by omega)) (hmod d (by omega))).1⟩, by rw [hM]; exact hfirst, fun d hd => by rw [hM]; exact hnext d (by omega), hlast.1, hlow⟩
    · rw [List.length_map]
      omega
    · rw [List.length_map]
      exact g.n12
    · omega
    · obtain ⟨i, hi⟩ := List.getElem?_of_mem hp
      obtain ⟨h1, h3⟩ := hdayOf i p hi
      intro z
      have h4 := (day_sum (show 0 < r by omega) (show 0 ≤ aliveAt (L.map fun h => (D : Int) - h) ds i by have := hpos i h1; omega) (hmod i h1)).1
      rw [← h3, z] at h4
      have := hpos i h1
      simp at h4
      omega
    · obtain ⟨i, hi⟩ := List.getElem?_of_mem hp
      obtain ⟨h1, h3⟩ := hdayOf i p hi
      have h4 := (day_sum (show 0 < r by omega) (show 0 ≤ aliveAt (L.map fun h => (D : Int) - h) ds i by have := hpos i h1; omega) (hmod i h1)).2
      have h5 := Int.ediv_le_self r (show 0 ≤ aliveAt (L.map fun h => (D : Int) - h) ds i by have := hpos i h1; omega)
      have := hle i
      rw [← h3] at h4
      omega
    · obtain ⟨x, hx, rfl⟩ := List.mem_map.mp hb
      have := (g.all x hx).1
      omega
    · obtain ⟨h1, h3⟩ := hdayOf i p hp
      have h4 := (day_sum (show 0 < r by omega) (show 0 ≤ aliveAt (L.map fun h => (D : Int) - h) ds i by have := hpos i h1; omega) (hmod i h1)).1
      rw [h3, h4]
      exact Int.le_refl _
  · cases e
end DK
set_option Elab.async false
set_option linter.all false
set_option maxRecDepth 100000
set_option maxHeartbeats 4000000
namespace DK
open PySem PySem.Spec PyProof.Rows L2 RZ DL
abbrev s_law_pairs : Stmt := topS 52
abbrev N_law_pairs : List Str := ["_law_found", "_law_key"]
theorem sc_law_pairs : FnScope N_law_pairs ["_law_found"] (defScope s_law_pairs) := ⟨rfl, rfl, rfl, by decide +kernel, rfl, by decide +kernel, by decide +kernel⟩
theorem b_law_pairs : BindOk "_law_pairs" s_law_pairs ["_law_found"] := fun _ _ _ _ _ _ us hl => match us, hl with | [_], _ => rfl

section
variable {P : Program} {w : World} {K : PySem.W.Frag} {mg : Str → Option Value} {base : Heap} {CC : Addr}
def spLawPairs (K : PySem.W.Frag) : Sp := fun vs H Q _ => ∃ (D : Addr) (M0 : DM) (M : DS), vs = [.ref D] ∧ DictL H D M0 ∧ alOf M0 = alS M ∧ (M.map Prod.fst).Pairwise (· < ·) ∧ M.length ≤ 60 ∧ (∀ e ∈ M, 0 ≤ e.2.num) ∧ ∀ p H', Same H H' → PairsD H' p (M.filter fun e => decide (e.2 ≠ 0)) → Q (.ref p) H'
theorem ca_law_pairs (B : Bl mg) (Bs : BlS mg) (U : Up K mg "_law_pairs" s_law_pairs) : Ca P w K mg base 1 "_law_pairs" s_law_pairs ["_law_found"] (spLawPairs K) := by
  refine ca0 U sc_law_pairs (fun vs H Q E h => by obtain ⟨D, M0, M, rfl, _⟩ := h; rfl) fun f cdv A outer s H vs Q E hr h => ?_
  obtain ⟨D, M0, M, rfl, hD, hal, hasc, hl, hnn, q⟩ := h
  have hu64 := hr.units
  have hu1 := Nat.lt_of_le_of_lt (Nat.add_le_add_left (show 1 ≤ 64 by decide) _) hr.units
  refine ⟨_, (pss_one (ps_ret (pe_callTy call_tuple_D (by rfl) B.tuple (by decide +kernel) (pa_cons (pe_lc (own := [("_law_key", 1)]) (g := (gName 1)) (by rfl) sc_law_pairs.nd (pi_list (pe_callB (call_sortedDI rfl) (by rfl) Bs.sorted (by decide +kernel) (pa_cons (pv 0) pa_nil))) (blkOk_by (N := N_law_pairs) (own := [("_law_key", 1)]) (sc := defScope s_law_pairs) (by decide +kernel)) (fun _ _ _ _ _ => pg_name (i := 1) sc_law_pairs.nd rfl (Or.inl rfl)) (fun _ _ _ _ _ => (pts_one (pt_cmpR op_gt (pe_ix (ix_tupK K rfl) (pe_dget hu1 (pv 0) (pv 1) (fun _ _ => rfl)) pe_int (fun _ _ => rfl)) pe_int (nomark _)))) (fun _ _ _ _ _ => (pe_tupD (pa_cons (pv 1) (pa_cons (pe_dget hu1 (pv 0) (pv 1) (fun _ _ => rfl)) pa_nil))))) pa_nil)))), ?_⟩
  have hkeys : (DL.kvsOf M0).map (fun x => x.fst) = (M0.map Prod.fst).map Sum.inl := by simp [DL.kvsOf]
  have hk0 : M0.map Prod.fst = M.map Prod.fst := by
    have := congrArg (List.map Prod.fst) hal
    simpa [alOf, alS, Function.comp_def] using this
  have hlen : M0.length = M.length := by
    have := congrArg List.length hal
    simpa [alOf, alS] using this
  have hnd : (M0.map Prod.fst).Nodup := by
    rw [hk0]
    exact hasc.imp fun h => by omega
  refine ⟨_, rfl, D, _, M0.map Prod.fst, rfl, .inl hD.1, hkeys, (by rw [List.length_map]; omega), fun ys p hperm hle hp => ?_⟩
  have hys : ys = M0.map Prod.fst := asc_perm hperm hle (by rw [hk0]; exact hasc.imp fun h => by omega)
  subst hys
  have s1 := Same.new (o := .lst ((M0.map Prod.fst).map V.int)) hp
  have hpl : upd H p (.lst ((M0.map Prod.fst).map V.int)) p = some (.lst ((M0.map Prod.fst).map V.int)) := upd_same
  have hD1 := hD.same s1
  generalize upd H p (.lst ((M0.map Prod.fst).map V.int)) = H1 at s1 hpl hD1
  refine ⟨p, rfl, ⟨_, SqL.of hpl⟩, fun D2 hD2 => lc_it (walk_list (xs := (M0.map Prod.fst).map V.int)) (fun i H' => ∃ us : List Addr, Acc H1 D2 (us.map V.ref) H' ∧ us.length = ((M.take i).filter fun e => decide (e.2 ≠ 0)).length ∧ ∀ (j : Nat) (u : Addr) (e : Int × Rat), us[j]? = some u → ((M.take i).filter fun e => decide (e.2 ≠ 0))[j]? = some e → ∃ v : Addr, TupD H' u [.int e.1, .ref v] ∧ ShD H' v e.2) ⟨[], Acc.start hD2, rfl, fun j u e h => by cases h⟩ (fun i H' _ p => by obtain ⟨us, p, _⟩ := p; exact SqL.of (p.2.1 _ _ hpl)) ?_ ?_⟩
  · rintro i x H' H'' hi ⟨us, ⟨a1, a2, a3⟩, hl2, hrows⟩ ⟨rfl, hx⟩
    obtain ⟨z, hz, rfl⟩ := map_of hx
    have hi0 : i < M0.length := by
      have := (List.getElem?_eq_some_iff.mp hz).1
      simpa using this
    have hi' : i < M.length := by omega
    have hz2 : z = M0[i].1 := by
      rw [List.getElem?_map, List.getElem?_eq_getElem hi0] at hz
      cases hz
      rfl
    subst hz2
    have hm0 : M0[i] ∈ M0 := List.getElem_mem _
    have hMi : M[i]? = some M[i] := by simp
    have hent : (M0[i].1, M0[i].2.2) = (M[i].1, [M[i].2.num, ((M[i].2.den : Nat) : Int)]) := by
      have h1 : (alOf M0)[i]? = some (M0[i].1, M0[i].2.2) := by simp [alOf, hi0]
      have h2 : (alS M)[i]? = some (M[i].1, [M[i].2.num, ((M[i].2.den : Nat) : Int)]) := by simp [alS, hi']
      rw [hal, h2] at h1
      exact (Option.some.inj h1).symm
    have hkey : M0[i].1 = M[i].1 := congrArg Prod.fst hent
    have hval : M0[i].2.2 = [M[i].2.num, ((M[i].2.den : Nat) : Int)] := congrArg Prod.snd hent
    obtain ⟨v1, _⟩ := val_of hnd hm0
    have hget : ∀ {G : Hp}, G D = some (.dK (DL.kvsOf M0)) → DGet G D (.int M0[i].1) (some (.ref M0[i].2.1)) := fun hG => by
      have := DGet.k (k := Sum.inl M0[i].1) hG
      rw [v1] at this
      exact this
    have hDi := hD1.same a2
    have htup := hDi.2 _ hm0
    rw [hval] at htup
    have hstep : ∀ b : Bool, decide (M[i].2 ≠ 0) = b → (M.take (i + 1)).filter (fun e => decide (e.2 ≠ 0)) = (M.take i).filter (fun e => decide (e.2 ≠ 0)) ++ (if b = true then [M[i]] else []) := fun b hb => by
      rw [List.take_add_one, hMi, List.filter_append]
      congr 1
      subst hb
      by_cases h : M[i].2 = 0 <;> simp [h]
    have hne0 : ([M[i].2.num, ((M[i].2.den : Nat) : Int)] = [0, 1]) ↔ M[i].2 = 0 := by
      constructor
      · intro h
        exact Rat.num_eq_zero.mp (List.cons.inj h).1
      · intro h
        rw [h]
        rfl
    have hn0 := hnn M[i] (List.getElem_mem hi')
    refine ⟨rfl, _, rfl, _, rfl, D, _, rfl, hget hDi.1, _, _, _, _, rfl, rfl, htup.sq, at0, _, _, rfl, rfl, _, rfl, ?_⟩
    have g1 := Same.refl H''
    have hDg := hDi
    refine ite2 (fun h => ?_) (fun h => ?_)
    · have hnz : M[i].2 ≠ 0 := fun z => by
        have h' : M[i].2.num > 0 := of_decide_eq_true h
        rw [z] at h'
        exact absurd h' (by decide)
      refine ⟨_, rfl, _, rfl, _, rfl, D, _, rfl, hget hDg.1, (by show 2 ≤ sizeLine; decide), fun t2 G2 g2 ht2 => ?_⟩
      have a3' := g2 _ _ (g1 _ _ a3)
      have hF := hstep true (by simpa using hnz)
      rw [if_pos rfl] at hF
      have tk : TK G2 (upd G2 D2 (.lst (us.map V.ref ++ [.ref t2]))) := TK.lst a3'
      refine ⟨_, a3', ?_, us ++ [t2], ⟨a1, Same.mut ((a2.trans g1).trans g2) a1, by rw [upd_same, List.map_append]; rfl⟩, by rw [hF, List.length_append, List.length_append, hl2]; rfl, fun j v y h1 h2 => ?_⟩
      · rw [List.length_map, hl2]
        have : ((M.take i).filter fun e => decide (e.2 ≠ 0)).length ≤ i := Nat.le_trans (List.length_filter_le _ _) (by rw [List.length_take]; omega)
        exact Nat.lt_of_le_of_lt this (Nat.lt_of_lt_of_le (show i < 100 by omega) (by decide))
      · rw [hF] at h2
        by_cases hj : j < us.length
        · rw [List.getElem?_append_left hj] at h1
          rw [List.getElem?_append_left (by omega)] at h2
          obtain ⟨v2, r1, r2⟩ := hrows j v y h1 h2
          exact ⟨v2, ((r1.same g1).same g2).tk tk, TupD.tk ((r2.same g1).same g2) tk⟩
        · have hj2 : j = us.length := by
            have := (List.getElem?_eq_some_iff.mp h1).1
            rw [List.length_append] at this
            simp at this
            omega
          subst hj2
          rw [List.getElem?_append_right (Nat.le_refl _), Nat.sub_self] at h1
          rw [List.getElem?_append_right (by omega), hl2, Nat.sub_self] at h2
          cases h1
          cases h2
          rw [← hkey]
          exact ⟨_, ht2.tk tk, TupD.tk ((htup.same g1).same g2) tk⟩
    · have hz0 : M[i].2 = 0 := Rat.num_eq_zero.mp (by
        have h' : ¬ M[i].2.num > 0 := fun z => h (decide_eq_true z)
        omega)
      have hF := hstep false (by simpa using hz0)
      rw [if_neg (by decide), List.append_nil] at hF
      exact ⟨us, ⟨a1, a2.trans g1, g1 _ _ a3⟩, by rw [hF]; exact hl2, fun j v y h1 h2 => by
        rw [hF] at h2
        obtain ⟨v2, r1, r2⟩ := hrows j v y h1 h2
        exact ⟨v2, r1.same g1, ShD.same r2 g1⟩⟩
  · rintro G ⟨us, ⟨a1, a2, a3⟩, hl2, hrows⟩
    have e : ((M0.map Prod.fst).map V.int).length = M.length := by simp [hlen]
    rw [e, List.take_length] at hl2 hrows
    exact ⟨D2, _, rfl, SqL.of a3, fun p2 G2 g2 hp2 => q p2 G2 ((s1.trans a2).trans g2) ⟨us, hp2, hl2, fun i u e h1 h2 => by
      obtain ⟨v, r1, r2⟩ := hrows i u e h1 h2
      exact ⟨v, r1.same g2, r2.same g2⟩⟩⟩
end
end DK
set_option Elab.async false
set_option linter.all false
set_option maxRecDepth 100000
set_option maxHeartbeats 1000000
namespace DK
open PySem PySem.Spec PyProof.Rows L2 RZ DL
theorem day_pairs {r n : Int} (r2 : 2 ≤ r) (n0 : 0 ≤ n) (h : n % r = 0) : ((dayN r n).map fun s => s * (s - 1)).sum = n * (r - 1) := by
  have h1 : 0 ≤ n / r := Int.ediv_nonneg n0 (by omega)
  have hs : ∀ (k : Nat) (z : Int), (List.replicate k z).sum = (k : Int) * z := by
    intro k z
    induction k with
    | zero => simp
    | succ k ih => rw [List.replicate_succ, List.sum_cons, ih, show ((k + 1 : Nat) : Int) = (k : Int) + 1 by omega, Int.add_mul, Int.one_mul, Int.add_comm]
  have hd : n / r * r = n := Int.ediv_mul_cancel (Int.dvd_of_emod_eq_zero h)
  unfold dayN
  rw [List.map_replicate, hs, show (((n / r).toNat : Nat) : Int) = n / r by omega, ← Int.mul_assoc, hd]
/-- the chance of a day, and what is left behind it -/
theorem chance_of {L : List Int} {r : Int} {bs : List Int} {ds : List (List Int)} (r2 : 2 ≤ r) (c : DepCal L r bs ds) {d : Nat} (hd : d < ds.length) :
    meetR bs ds d = Rat.divInt (r - 1) (aliveAt bs ds d - 1) ∧ 1 - meetR bs ds d = Rat.divInt (aliveAt bs ds d - r) (aliveAt bs ds d - 1) := by
  obtain ⟨h1, h2, h3⟩ := c.day d hd
  have e1 : meetR bs ds d = Rat.divInt (r - 1) (aliveAt bs ds d - 1) := by
    unfold meetR
    rw [h1, day_pairs r2 (by omega) h2]
    generalize aliveAt bs ds d = n at *
    have hn : n * (n - 1) ≠ 0 := Int.mul_ne_zero (by omega) (by omega)
    rw [Rat.divInt_eq_divInt_iff hn (by omega)]
    ac_rfl
  refine ⟨e1, ?_⟩
  rw [e1]
  generalize aliveAt bs ds d = n at *
  have h1' : (1 : Rat) = Rat.divInt (n - 1) (n - 1) := by
    rw [Rat.divInt_self' (by omega)]
  rw [h1', Rat.divInt_sub_divInt _ _ (by omega) (by omega)]
  have hn : (n - 1) * (n - 1) ≠ 0 := Int.mul_ne_zero (by omega) (by omega)
  rw [Rat.divInt_eq_divInt_iff hn (by omega), ← Int.sub_mul]
  rw [show n - 1 - (r - 1) = n - r by omega]
  ac_rfl
/-- no two lines are left in the end -/
theorem left_none {L : List Int} {r : Int} {bs : List Int} {ds : List (List Int)} (r2 : 2 ≤ r) (c : DepCal L r bs ds) : 1 - meetR bs ds (ds.length - 1) = 0 := by
  have hp := c.pos
  rw [(chance_of r2 c (d := ds.length - 1) (by omega)).2, c.last, Int.sub_self]
  exact Rat.zero_divInt _
end DK
set_option Elab.async false
set_option linter.all false
set_option maxRecDepth 100000
set_option maxHeartbeats 4000000
namespace DK
open PySem PySem.Spec PyProof.Rows L2 RZ DL
abbrev s_law_meets : Stmt := topS 54
abbrev N_law_meets : List Str := ["_law_depths_here", "_law_r", "_law_x", "_law_y", "_law_most", "_law_found", "_law_apart", "_law_lines", "_law_d"]
theorem sc_law_meets : FnScope N_law_meets ["_law_depths_here", "_law_r", "_law_x", "_law_y"] (defScope s_law_meets) := ⟨rfl, rfl, rfl, by decide +kernel, rfl, by decide +kernel, by decide +kernel⟩
theorem b_law_meets : BindOk "_law_meets" s_law_meets ["_law_depths_here", "_law_r", "_law_x", "_law_y"] := fun _ _ _ _ _ _ us hl => match us, hl with | [_, _, _, _], _ => rfl

section
variable {P : Program} {w : World} {K : PySem.W.Frag} {mg : Str → Option Value} {base : Heap} {C f0 fC CM fR CC : Addr}
theorem num_nn {q : Rat} (h : 0 ≤ q) : 0 ≤ q.num := Rat.num_nonneg.mpr h
theorem chance_nn {L : List Int} {r : Int} {bs : List Int} {ds : List (List Int)} (r2 : 2 ≤ r) (c : DepCal L r bs ds) {d : Nat} (hd : d < ds.length) : 0 ≤ meetR bs ds d ∧ 0 ≤ 1 - meetR bs ds d := by
  obtain ⟨h1, h2, h3⟩ := c.day d hd
  obtain ⟨e1, e2⟩ := chance_of r2 c hd
  rw [e2, e1]
  exact ⟨Rat.divInt_nonneg (by omega) (by omega), Rat.divInt_nonneg (by omega) (by omega)⟩
theorem left_nn {cs : List Rat} : ∀ i : Nat, i ≤ cs.length → (∀ c ∈ cs, 0 ≤ 1 - c) → 0 ≤ leftR cs i
  | 0, _, _ => by
    show (0 : Rat) ≤ 1
    decide
  | i + 1, hi, h => by
    have e : cs.getD i 0 = cs[i]'(by omega) := getD_of (by simp)
    show 0 ≤ leftR cs i * (1 - cs.getD i 0)
    rw [e]
    exact Rat.mul_nonneg (left_nn i (by omega) h) (h _ (List.getElem_mem _))
/-- the calendar's later birth, by the depths -/
theorem later_dep {L : List Int} {r : Int} {bs : List Int} {ds : List (List Int)} (c : DepCal L r bs ds) {x y : Nat} (hx : x < L.length) (hy : y < L.length) :
    0 ≤ laterI bs x y ∧ laterI bs x y < (ds.length : Int) ∧ ∀ d : Int, ((ds.length : Int) - d ≤ L[x] ∧ (ds.length : Int) - d ≤ L[y]) ↔ laterI bs x y ≤ d := by
  have hb : ∀ z (hz : z < L.length), bs.getD z 0 = (ds.length : Int) - L[z] := fun z hz => by
    refine getD_of ?_
    rw [c.born, List.getElem?_map, List.getElem?_eq_getElem hz, c.deep]
    rfl
  have b1 := c.low _ (List.getElem_mem hx)
  have b2 := c.low _ (List.getElem_mem hy)
  have b3 := maxL_ge (List.getElem_mem hx)
  have b4 := maxL_ge (List.getElem_mem hy)
  rw [← c.deep] at b3 b4
  have h1 := hb x hx
  have h2 := hb y hy
  have e : laterI bs x y = if bs.getD y 0 > bs.getD x 0 then bs.getD y 0 else bs.getD x 0 := by
    unfold laterI
    simp
  rw [e]
  generalize bs.getD x 0 = p at *
  generalize bs.getD y 0 = q at *
  refine ⟨?_, ?_, fun d => ?_⟩
  · split <;> omega
  · split <;> omega
  · split <;> omega
def spLawMeets (K : PySem.W.Frag) : Sp := fun vs H Q _ => ∃ (a : Addr) (L : List Int) (r : Int) (x y : Nat) (bs : List Int) (ds : List (List Int)), vs = [.ref a, .int r, .int x, .int y] ∧ TupD H a (L.map V.int) ∧ LenD L ∧ 2 ≤ r ∧ r ≤ 12 ∧ DepCal L r bs ds ∧ x < L.length ∧ y < L.length ∧
  ∀ p H', Same H H' → PairsD H' p (meetM bs ds x y) → Q (.ref p) H'
theorem ca_law_meets (B : Bl mg) (c_law_low : Ca P w K mg base 1 "_law_low" s_law_low ["_law_n", "_law_d"] spLow) (c_law_times : Ca P w K mg base 2 "_law_times" s_law_times ["_law_a", "_law_b"] (spBinN (· * ·))) (c_law_pairs : Ca P w K mg base 1 "_law_pairs" s_law_pairs ["_law_found"] (spLawPairs K))
    (U : Up K mg "_law_meets" s_law_meets) : Ca P w K mg base 3 "_law_meets" s_law_meets ["_law_depths_here", "_law_r", "_law_x", "_law_y"] (spLawMeets K) := by
  refine ca0 U sc_law_meets (fun vs H Q E h => by obtain ⟨a, L, r, x, y, bs, ds, rfl, _⟩ := h; rfl) fun f cdv A outer s H vs Q E hr h => ?_
  obtain ⟨a, L, r, x, y, bs, ds, rfl, ha, hD, r2, r12, dc, hx, hy, q⟩ := h
  have hu64 := hr.units
  have hu1 := Nat.lt_of_le_of_lt (Nat.add_le_add_left (show 1 ≤ 64 by decide) _) hr.units
  refine ⟨_, (pss_cons (ps_asg (pe_tup (pa_cons (pe_callB (cr_maxT K rfl rfl hu64) (by rfl) B.max (by decide +kernel) (pa_cons (pv 0) pa_nil)) (pa_cons pe_dnewK (pa_cons (pe_tupD (pa_cons pe_int (pa_cons pe_int pa_nil))) (pa_cons pe_int pa_nil))))) (pg_tup rfl (pgs_cons (pg_name (i := 4) sc_law_meets.nd rfl (Or.inl rfl)) (pgs_cons (pg_name (i := 5) sc_law_meets.nd rfl (Or.inl rfl)) (pgs_cons (pg_name (i := 6) sc_law_meets.nd rfl (Or.inl rfl)) (pgs_cons (pg_name (i := 7) sc_law_meets.nd rfl (Or.inl rfl)) pgs_nil))))))
      (pss_cons (ps_for PassesOwn.never rfl (pi_range1 (by rfl) B.range (pa_cons (pv 4) pa_nil)) (pg_name (i := 8) sc_law_meets.nd rfl (Or.inl rfl))
      (pss_cons (ps_set (i := 7) sc_law_meets.nd rfl (Or.inl rfl) (pe_op op_add (pv 7) (pe_bmD PySem.F.plainAttrs_tuple PySem.F.slot_tuple_count PySem.F.type_tuple_count mt_tcount (pv 0) (pa_cons (pe_op op_sub (pv 4) (pv 8)) pa_nil))))
      (Evl.pss_cut (ps_if (pt_cmpR op_le (pe_op op_sub (pv 4) (pv 8)) (pe_callB (call_min2 rfl) (by rfl) B.min (by decide +kernel) (pa_cons (pe_ix (ix_tupK K rfl) (pv 0) (pv 2) (fun _ _ => rfl)) (pa_cons (pe_ix (ix_tupK K rfl) (pv 0) (pv 3) (fun _ _ => rfl)) pa_nil))) (nomark _)) (pss_cons (ps_dput hu1 (pv 5) (pv 8) (pe_ca c_law_times b_law_times hr ps0 (pa_cons (pv 6) (pa_cons (pe_ca c_law_low b_law_low hr ps0 (pa_cons (pe_op op_sub (pv 1) pe_int) (pa_cons (pe_op op_sub (pv 7) pe_int) pa_nil))) pa_nil))) rfl)
      (pss_one (ps_set (i := 6) sc_law_meets.nd rfl (Or.inl rfl) (pe_ca c_law_times b_law_times hr ps0 (pa_cons (pv 6) (pa_cons (pe_ca c_law_low b_law_low hr ps0 (pa_cons (pe_op op_sub (pv 7) (pv 1)) (pa_cons (pe_op op_sub (pv 7) pe_int) pa_nil))) pa_nil))))))
      pss_nil)
      (pss_one (ps_set (i := 7) sc_law_meets.nd rfl (Or.inl rfl) (pe_op op_fdiv (pv 7) (pv 1)))))))
      (pss_one (ps_ret (pe_ca c_law_pairs b_law_pairs hr ps0 (pa_cons (pv 5) pa_nil)))))), ?_⟩
  have ok := dc.ok
  have n12 := ok.n12
  have m11 := ok.m11
  have hne : L ≠ [] := fun z => by
    rw [z] at hx
    simp at hx
  obtain ⟨lt0, lt1, ltd⟩ := later_dep dc hx hy
  have hdeep := dc.deep
  have hfirst : aliveAt bs ds 0 = (L.count ((ds.length : Nat) : Int) : Nat) := by rw [dc.first, ← dc.deep]
  have hnext : ∀ d, d + 1 < ds.length → aliveAt bs ds (d + 1) = aliveAt bs ds d / r + (L.count (((ds.length : Nat) : Int) - ((d + 1 : Nat) : Int)) : Nat) := fun d hd => by rw [dc.next d hd, ← dc.deep]
  refine ⟨_, rfl, a, L, rfl, ha.sq, hne, fun Dd hDd => ⟨(by show 2 ≤ sizeLine; decide), fun o H2 s2 ho => ⟨(by show 4 ≤ sizeLine; decide), fun u hu => ?_⟩⟩⟩
  have sD := Same.new (o := .dK []) hDd
  have su := Same.new (o := .tup [.int (maxL L), .ref Dd, .ref o, .int 0]) hu
  have s03 := (sD.trans s2).trans su
  have hD3 := su _ _ (s2 _ _ (show upd H Dd (.dK []) Dd = _ from upd_same))
  have ho3 := ho.same su
  refine ⟨u, _, rfl, SqT.of upd_same, rfl, _, _, rfl, _, _, rfl, _, _, rfl, _, _, rfl, rfl, ?_⟩
  generalize upd H2 u (.tup [.int (maxL L), .ref Dd, .ref o, .int 0]) = H3 at *
  rw [← hdeep] at *
  obtain ⟨lt, hlt⟩ := Int.eq_ofNat_of_zero_le lt0
  have hmeet : meetM bs ds x y = (daysM (lt : Int) (chancesR bs ds lt)).filter fun e => decide (e.2 ≠ 0) := by
    unfold meetM
    rw [hlt, Int.toNat_natCast]
  rw [hlt] at lt1 ltd
  rw [hmeet] at q
  have hcl : (chancesR bs ds lt).length = ds.length - lt := by simp [chancesR]
  have hcg : ∀ j, lt + j < ds.length → (chancesR bs ds lt).getD j 0 = meetR bs ds (lt + j) := fun j hj => by
    refine getD_of ?_
    unfold chancesR
    rw [List.getElem?_map, List.getElem?_range (by omega)]
    rfl
  have hcb : ∀ c ∈ chancesR bs ds lt, BitR 16 c := fun c hc => by
    unfold chancesR at hc
    obtain ⟨j, hj, rfl⟩ := List.mem_map.mp hc
    have := List.mem_range.mp hj
    exact meetR_bit ok (by omega)
  have hcn : ∀ c ∈ chancesR bs ds lt, 0 ≤ 1 - c := fun c hc => by
    unfold chancesR at hc
    obtain ⟨j, hj, rfl⟩ := List.mem_map.mp hc
    have := List.mem_range.mp hj
    exact (chance_nn r2 dc (by omega)).2
  generalize chancesR bs ds lt = cs at *
  have atL : ∀ z (hz : z < L.length), atI (L.map V.int) ((z : Nat) : Int) = some (.int L[z]) := fun z hz => at_of rfl (by simp)
  refine ⟨_, rfl, _, rfl, by omega, by omega, for_range (lo := 0) (n := _) (fun i σ H' => ∃ (ap : Addr) (l : Int) (M0 : DM) (x8 : Option V), σ = [some (.ref a), some (.int r), some (.int x), some (.int y), some (.int (ds.length : Nat)), some (.ref Dd), some (.ref ap), some (.int l), x8] ∧ Same H H' ∧ DictL H' Dd M0 ∧ alOf M0 = alS (dayL (lt : Int) cs (i - lt)) ∧ ShD H' ap (leftR cs (i - lt)) ∧ 0 ≤ l ∧ (i < ds.length → l + (L.count (((ds.length : Nat) : Int) - (i : Int)) : Nat) = aliveAt bs ds i)) ⟨o, 0, [], none, rfl, s03, ⟨hD3, fun e h => nomatch h⟩, by rw [Nat.zero_sub]; rfl, by rw [Nat.zero_sub]; exact ho3, Int.le_refl _, fun h => by
    rw [hfirst]
    simp⟩ ?_ ?_⟩
  · rintro i σ H4 hi ⟨ap, l, M0, x8, rfl, s4, hM, hal, hap, l0, hla⟩
    have hi' : i < ds.length := by omega
    have e0 : (0 : Int) + (i : Nat) = ((i : Nat) : Int) := by omega
    rw [e0]
    have hn := hla hi'
    obtain ⟨d1, d2, d3⟩ := dc.day i hi'
    have ha4 := ha.same s4
    refine ⟨_, rfl, _, rfl, ⟨a, _, rfl, ha4⟩, _, rfl, _, rfl, _, _, rfl, rfl, a, L, _, rfl, rfl, ha4.sq, _, _, rfl, rfl, ?_⟩
    generalize hna : aliveAt bs ds i = n at *
    generalize hcc : L.count (((ds.length : Nat) : Int) - (i : Int)) = cc at *
    have bn : Bit 16 (r - 1) ∧ Bit 16 (n - 1) ∧ Bit 16 (n - r) := by
      have h1 := alive_le ok.pre i
      rw [hna] at h1
      refine ⟨?_, ?_, ?_⟩ <;> (unfold Bit; omega)
    have hch := chance_of r2 dc hi'
    rw [hna] at hch
    have hnn := chance_nn r2 dc hi'
    refine ⟨fun σ' H' => ∃ (ap' : Addr) (M1 : DM) , σ' = [some (.ref a), some (.int r), some (.int x), some (.int y), some (.int (ds.length : Nat)), some (.ref Dd), some (.ref ap'), some (.int (l + (cc : Int))), some (.int (i : Nat))] ∧ Same H H' ∧ DictL H' Dd M1 ∧ alOf M1 = alS (dayL (lt : Int) cs (i + 1 - lt)) ∧ ShD H' ap' (leftR cs (i + 1 - lt)), ?_, ?_⟩
    · refine ⟨_, rfl, _, rfl, _, _, rfl, rfl, _, rfl, _, rfl, a, _, _, _, rfl, rfl, ha4.sq, atL x hx, _, rfl, _, rfl, a, _, _, _, rfl, rfl, ha4.sq, atL y hy, _, _, rfl, _, _, rfl, rfl, _, rfl, ?_⟩
      refine ite2 (fun h => ?_) (fun h => ?_)
      · have hle : lt ≤ i := by
          have h1 := of_decide_eq_true h
          have h2 := (ltd (i : Int)).mp (by
            constructor
            · split at h1 <;> omega
            · split at h1 <;> omega)
          omega
        obtain ⟨j, rfl⟩ : ∃ j, i = lt + j := ⟨i - lt, by omega⟩
        have ej : lt + j - lt = j := by omega
        have ej1 : lt + j + 1 - lt = j + 1 := by omega
        rw [ej] at hal hap
        rw [ej1]
        have hjc : j < cs.length := by omega
        have hgj := hcg j (by omega)
        have hden : l + (cc : Int) - 1 ≠ 0 := by omega
        have bl := left_bit hcb j
        have nl := num_nn (left_nn j (by omega) hcn)
        rw [← hn] at hch bn
        have b1 : BitR 16 (Rat.divInt (r - 1) (l + (cc : Int) - 1)) := BitR.of bn.1 bn.2.1 hden
        have b2 : BitR 16 (Rat.divInt (l + (cc : Int) - r) (l + (cc : Int) - 1)) := BitR.of bn.2.2 bn.2.1 hden
        have n1 : 0 ≤ (Rat.divInt (r - 1) (l + (cc : Int) - 1)).num := num_nn (by rw [← hch.1]; exact hnn.1)
        have n2 : 0 ≤ (Rat.divInt (l + (cc : Int) - r) (l + (cc : Int) - 1)).num := num_nn (by rw [← hch.2]; exact hnn.2)
        refine ⟨_, rfl, _, rfl, _, _, rfl, rfl, _, rfl, _, _, rfl, rfl, r - 1, l + (cc : Int) - 1, 16, rfl, by omega, by omega, bn.2.1, by decide, fun p1 H5 s5 hp1 => ?_⟩
        refine ⟨ap, p1, leftR cs j, _, 1 + 18 * j, 16, rfl, hap.same s5, hp1, bl, b1, nl, n1, by omega, fun p2 H6 s6 hp2 => ?_⟩
        have s56 := s5.trans s6
        have hM6 := hM.same s56
        have hkeys : M0.map Prod.fst = (dayL (lt : Int) cs j).map Prod.fst := by
          have := congrArg (List.map Prod.fst) hal
          simpa [alOf, alS, Function.comp_def] using this
        have hnew : ((lt + j : Nat) : Int) ∉ M0.map Prod.fst := fun hm => by
          rw [hkeys, dayL_keys] at hm
          obtain ⟨k, hk, e⟩ := List.mem_map.mp hm
          have := List.mem_range.mp hk
          omega
        have hMl : M0.length ≤ 12 := by
          have := congrArg List.length hkeys
          rw [List.length_map, List.length_map] at this
          unfold dayL at this
          rw [List.length_map, List.length_range] at this
          omega
        refine ⟨_, rfl, _, rfl, Dd, _, rfl, DPut.k (k := Sum.inl ((lt + j : Nat) : Int)) hM6.1 ?_, ?_⟩
        · unfold DL.kvsOf
          rw [List.length_map]
          exact Nat.lt_of_lt_of_le (show _ < 100 by omega) (by decide)
        have hp2' : TupD H6 p2 (([(leftR cs j * Rat.divInt (r - 1) (l + (cc : Int) - 1)).num, (((leftR cs j * Rat.divInt (r - 1) (l + (cc : Int) - 1)).den : Nat) : Int)] : List Int).map V.int) := hp2
        have hM7 := hM6.put hnew hp2'
        have tk : TK H6 (upd H6 Dd (.dK (putK (kvsOf M0) (Sum.inl ((lt + j : Nat) : Int)) (.ref p2)))) := TK.dk hM6.1
        have s7 : Same H (upd H6 Dd (.dK (putK (kvsOf M0) (Sum.inl ((lt + j : Nat) : Int)) (.ref p2)))) := Same.mut (s4.trans s56) hDd
        have hap7 : ShD (upd H6 Dd (.dK (putK (kvsOf M0) (Sum.inl ((lt + j : Nat) : Int)) (.ref p2)))) ap (leftR cs j) := TupD.tk (hap.same s56) tk
        generalize upd H6 Dd (.dK (putK (kvsOf M0) (Sum.inl ((lt + j : Nat) : Int)) (.ref p2))) = H7 at *
        refine ⟨_, rfl, _, rfl, _, rfl, _, _, rfl, rfl, _, rfl, _, _, rfl, rfl, l + (cc : Int) - r, l + (cc : Int) - 1, 16, rfl, by omega, by omega, bn.2.1, by decide, fun p3 H8 s8 hp3 => ?_⟩
        refine ⟨ap, p3, leftR cs j, _, 1 + 18 * j, 16, rfl, hap7.same s8, hp3, bl, b2, nl, n2, by omega, fun p4 H9 s9 hp4 => ?_⟩
        refine ⟨p4, _, rfl, s7.trans (s8.trans s9), hM7.same (s8.trans s9), ?_, ?_⟩
        · rw [dayL_succ, alS_app, ← hal, hgj, hch.1]
          unfold alOf alS
          rw [List.map_append]
          simp
        · show ShD H9 p4 (leftR cs j * (1 - cs.getD j 0))
          rw [hgj, hch.2]
          exact hp4
      · have hlt : i < lt := by
          by_cases hle : lt ≤ i
          · exfalso
            have h2 := (ltd (i : Int)).mpr (by omega)
            exact h (decide_eq_true (by split <;> omega))
          · omega
        have e1 : i - lt = 0 := by omega
        have e2 : i + 1 - lt = 0 := by omega
        rw [e1] at hal hap
        exact ⟨ap, M0, rfl, s4, hM, by rw [e2]; exact hal, by rw [e2]; exact hap⟩
    · rintro σ' H' ⟨ap', M1, rfl, s5, hM1, hal1, hap1⟩
      refine ⟨_, rfl, _, rfl, _, _, rfl, rfl, ⟨by omega, by omega⟩, ap', (l + (cc : Int)) / r, M1, _, rfl, s5, hM1, hal1, hap1, Int.ediv_nonneg (by omega) (by omega), fun h => ?_⟩
      rw [hnext i h, hna, hn]
  · rintro σ H4 ⟨ap, l, M0, x8, rfl, s4, hM, hal, hap, l0, hla⟩
    have e : (((ds.length : Nat) : Int) - 0).toNat = ds.length := by omega
    have e2 : ((ds.length : Nat) : Int).toNat = ds.length := by omega
    first | rw [e] at hal | rw [e2] at hal
    refine ⟨_, rfl, Dd, M0, _, rfl, hM, hal, ?_, ?_, fun e he => ?_, fun p H5 s5 hp => q p H5 (s4.trans s5) ?_⟩
    · rw [dayL_keys]
      exact List.Pairwise.map _ (fun a b h => by omega) (List.pairwise_lt_range (n := ds.length - lt))
    · unfold dayL
      rw [List.length_map, List.length_range]
      omega
    · unfold dayL at he
      obtain ⟨j, hj, rfl⟩ := List.mem_map.mp he
      have hj := List.mem_range.mp hj
      refine num_nn (Rat.mul_nonneg (left_nn j (by omega) hcn) ?_)
      rw [hcg j (by omega)]
      exact (chance_nn r2 dc (by omega)).1
    · have hz : leftR cs cs.length = 0 := by
        obtain ⟨k, hk⟩ : ∃ k, cs.length = k + 1 := ⟨cs.length - 1, by omega⟩
        rw [hk]
        show leftR cs k * (1 - cs.getD k 0) = 0
        rw [hcg k (by omega), show lt + k = ds.length - 1 by omega, left_none r2 dc, Rat.mul_zero]
      unfold daysM
      rw [List.filter_append, hz, hcl]
      simpa using hp
end
end DK
set_option Elab.async false
set_option linter.all false
set_option maxRecDepth 100000
set_option maxHeartbeats 1000000
namespace DK
open PySem PySem.Spec PyProof.Rows L2 RZ DL
theorem grown_cal {r : Int} {L : List Int} (g : Grown r L) (r2 : 2 ≤ r) (h2 : 2 ≤ L.length) : ∃ bs ds, depM L r = .inr (bs, ds) ∧ DepCal L r bs ds := by
  obtain ⟨⟨bs, ds⟩, h⟩ := (whole_iff r2 ⟨g.n1, g.n12⟩ g.all).mpr (grown_one r2 g)
  exact ⟨bs, ds, h, dep_cal g r2 h2 h⟩
theorem later_symm (bs : List Int) (x y : Int) : laterI bs x y = laterI bs y x := by
  unfold laterI
  split <;> split <;> omega
theorem meet_symm (bs : List Int) (ds : List (List Int)) (x y : Int) : meetM bs ds x y = meetM bs ds y x := by
  unfold meetM
  rw [later_symm]
/-- the shares of some days, put together -/
def sumP (t : Rat) (M : DS) : Rat := M.foldl (fun t e => t + e.2) t
theorem sumP_app (t : Rat) (A B : DS) : sumP t (A ++ B) = sumP (sumP t A) B := List.foldl_append
theorem sumP_filt : ∀ (M : DS) (t : Rat), sumP t (M.filter fun e => decide (e.2 ≠ 0)) = sumP t M
  | [], _ => rfl
  | e :: M, t => by
    by_cases h : e.2 = 0
    · rw [List.filter_cons_of_neg (by simpa using h)]
      show _ = sumP (t + e.2) M
      rw [h, Rat.add_zero]
      exact sumP_filt M t
    · rw [List.filter_cons_of_pos (by simpa using h)]
      exact sumP_filt M (t + e.2)
theorem sumP_day (s : Int) (cs : List Rat) : ∀ n : Nat, sumP 0 (dayL s cs n) = 1 - leftR cs n
  | 0 => by
    show (0 : Rat) = 1 - 1
    decide +kernel
  | n + 1 => by
    rw [dayL_succ, sumP_app, sumP_day s cs n, ← left_step]
    show 1 - leftR cs n + leftR cs n * cs.getD n 0 = _
    generalize leftR cs n = a
    generalize a * cs.getD n 0 = b
    rw [Rat.sub_eq_add_neg, Rat.sub_eq_add_neg, Rat.sub_eq_add_neg, Rat.neg_add, Rat.neg_neg, Rat.add_assoc]
/-- two lines of a calendar of depths meet for sure -/
theorem meet_sum {L : List Int} {r : Int} {bs : List Int} {ds : List (List Int)} (r2 : 2 ≤ r) (c : DepCal L r bs ds) {x y : Nat} (hx : x < L.length) (hy : y < L.length) :
    sumP 0 (meetM bs ds x y) = 1 ∧ meetM bs ds x y ≠ [] ∧ ∀ e ∈ meetM bs ds x y, laterI bs x y ≤ e.1 := by
  obtain ⟨lt0, lt1, _⟩ := later_dep c hx hy
  obtain ⟨lt, hlt⟩ := Int.eq_ofNat_of_zero_le lt0
  have hcl : (chancesR bs ds lt).length = ds.length - lt := by simp [chancesR]
  rw [hlt] at lt1
  have hz : leftR (chancesR bs ds lt) (chancesR bs ds lt).length = 0 := by
    obtain ⟨k, hk⟩ : ∃ k, (chancesR bs ds lt).length = k + 1 := ⟨(chancesR bs ds lt).length - 1, by omega⟩
    have hg : (chancesR bs ds lt).getD k 0 = meetR bs ds (lt + k) := by
      refine getD_of ?_
      unfold chancesR
      rw [List.getElem?_map, List.getElem?_range (by omega)]
      rfl
    rw [hk]
    show leftR _ k * (1 - (chancesR bs ds lt).getD k 0) = 0
    rw [hg, show lt + k = ds.length - 1 by omega, left_none r2 c, Rat.mul_zero]
  have hs : sumP 0 (meetM bs ds x y) = 1 := by
    unfold meetM
    rw [hlt, Int.toNat_natCast, sumP_filt]
    unfold daysM
    rw [sumP_app, sumP_day, hz]
    show (1 : Rat) - 0 + 0 = 1
    decide +kernel
  refine ⟨hs, fun z => ?_, fun e he => ?_⟩
  · rw [z] at hs
    have : (0 : Rat) = 1 := hs
    exact absurd this (by decide)
  · unfold meetM at he
    rw [hlt, Int.toNat_natCast] at he
    have he := (List.mem_filter.mp he).1
    unfold daysM dayL at he
    rw [hlt]
    rcases List.mem_append.mp he with h | h
    · obtain ⟨i, _, rfl⟩ := List.mem_map.mp h
      show (lt : Int) ≤ lt + i
      omega
    · rw [List.mem_singleton.mp h]
      show (lt : Int) ≤ lt + _
      omega
def partR (cs : List Rat) (i : Nat) : Rat := if i < cs.length then leftR cs i * cs.getD i 0 else leftR cs i
theorem days_range (s : Int) (cs : List Rat) : daysM s cs = (List.range (cs.length + 1)).map fun i : Nat => (s + (i : Int), partR cs i) := by
  unfold daysM dayL
  rw [List.range_succ, List.map_append]
  congr 1
  · apply List.map_congr_left
    intro i hi
    have := List.mem_range.mp hi
    unfold partR
    rw [if_pos this]
  · simp [partR]
theorem part_bit {bs : List Int} {ds : List (List Int)} (ok : CalOk bs ds) (x y : Int) : ∀ e ∈ meetM bs ds x y, BitR 215 e.2 := by
  intro e he
  unfold meetM at he
  have hm := (List.mem_filter.mp he).1
  generalize laterI bs x y = l at hm
  have m11 := ok.m11
  have hb : ∀ c ∈ chancesR bs ds l.toNat, BitR 16 c := fun c hc => by
    unfold chancesR at hc
    obtain ⟨i, hi, rfl⟩ := List.mem_map.mp hc
    have := List.mem_range.mp hi
    exact meetR_bit ok (by omega)
  have hlen : (chancesR bs ds l.toNat).length ≤ 11 := by
    simp [chancesR]
    omega
  rw [days_range] at hm
  obtain ⟨i, hi, rfl⟩ := List.mem_map.mp hm
  have hi2 := List.mem_range.mp hi
  have hl := left_bit hb i
  show BitR 215 (partR _ i)
  unfold partR
  split
  · rename_i hlt
    have hc := hb _ (List.getElem_mem hlt)
    rw [show (chancesR bs ds l.toNat).getD i 0 = (chancesR bs ds l.toNat)[i] from getD_of (by simp)]
    exact (hl.mul hc).up (by omega)
  · exact hl.up (by omega)
theorem meet_len {bs : List Int} {ds : List (List Int)} (ok : CalOk bs ds) (x y : Int) : (meetM bs ds x y).length ≤ 12 := by
  have m11 := ok.m11
  refine Nat.le_trans (List.length_filter_le _ _) ?_
  rw [days_range]
  simp [chancesR]
  omega
end DK
set_option Elab.async false
set_option linter.all false
set_option maxRecDepth 100000
set_option maxHeartbeats 4000000
namespace DK
open PySem PySem.Spec PyProof.Rows L2 RZ DL
section
variable {P : Program} {w : World} {K : PySem.W.Frag} {mg : Str → Option Value} {base : Heap} {C f0 fC CM fR CC : Addr}
/-- a pair (day, share) as data -/
def PE1 (e : Int × Rat) : PyData := .tuple [.int e.1, .tuple [.int e.2.num, .int (e.2.den : Nat)]]
theorem eqvE (a b : Int × Rat) : PyData.eqv (PE1 a) (PE1 b) = decide (a = b) := by
  obtain ⟨d, x⟩ := a
  obtain ⟨e, y⟩ := b
  have h : (d, x) = (e, y) ↔ d = e ∧ x.num = y.num ∧ ((x.den : Nat) : Int) = ((y.den : Nat) : Int) := by
    rw [Prod.mk.injEq]
    constructor
    · rintro ⟨h1, h2⟩
      rw [h1, h2]
      exact ⟨rfl, rfl, rfl⟩
    · rintro ⟨h1, h2, h3⟩
      exact ⟨h1, Rat.ext h2 (by omega)⟩
  have h2 : decide ((d, x) = (e, y)) = (decide (d = e) && (decide (x.num = y.num) && decide (((x.den : Nat) : Int) = ((y.den : Nat) : Int)))) := by
    by_cases h3 : (d, x) = (e, y)
    · obtain ⟨a1, a2, a3⟩ := h.mp h3
      rw [decide_eq_true h3, decide_eq_true a1, decide_eq_true a2, decide_eq_true a3]
      rfl
    · rw [decide_eq_false h3]
      by_cases a1 : d = e
      · by_cases a2 : x.num = y.num
        · have a3 : ¬ ((x.den : Nat) : Int) = ((y.den : Nat) : Int) := fun z => h3 (h.mpr ⟨a1, a2, z⟩)
          rw [decide_eq_false a3, Bool.and_false, Bool.and_false]
        · rw [decide_eq_false a2, Bool.false_and, Bool.and_false]
      · rw [decide_eq_false a1, Bool.false_and]
  rw [h2]
  simp only [PE1, PyData.eqv, PyData.eqvAll, Bool.and_true]
  rfl
theorem layE (a : Int × Rat) : (PE1 a).canLay0 = true := by simp [PE1, PyData.canLay0, PyData.canLayAll0]
theorem depthE (a : Int × Rat) : (PE1 a).depth ≤ 2 := by simp [PE1, PyData.depth, PyData.depthAll]
theorem eqvEs (a b : DS) : PyData.eqv (.tuple (a.map PE1)) (.tuple (b.map PE1)) = decide (a = b) := by
  simp only [PyData.eqv]
  exact eqv_map eqvE a b
theorem eqvEl (a b : DS) : PyData.eqv (.list (a.map PE1)) (.list (b.map PE1)) = decide (a = b) := by
  simp only [PyData.eqv]
  exact eqv_map eqvE a b
theorem shapedEs (a : DS) : SeqAt.shaped (.tuple (a.map PE1)) = true := by
  have := depth_map depthE a
  unfold SeqAt.shaped
  simp [PyData.canLay0, lay_map layE, PyData.depth]
  omega
theorem shapedEl (a : DS) : SeqAt.shaped (.list (a.map PE1)) = true := by
  have := depth_map depthE a
  unfold SeqAt.shaped
  simp [PyData.canLay0, lay_map layE, PyData.depth]
  omega
/-- the pairs that stand at us -/
def RowsE (H : Hp) (us : List Addr) (M : DS) : Prop := us.length = M.length ∧ ∀ (i : Nat) (q : Addr) (e : Int × Rat), us[i]? = some q → M[i]? = some e → ∃ u : Addr, TupD H q [.int e.1, .ref u] ∧ ShD H u e.2
theorem RowsE.same {H H' : Hp} {us : List Addr} {M : DS} (h : RowsE H us M) (s : Same H H') : RowsE H' us M := ⟨h.1, fun i q e a b => by
  obtain ⟨u, r1, r2⟩ := h.2 i q e a b
  exact ⟨u, r1.same s, r2.same s⟩⟩
theorem RowsE.tk {H H' : Hp} {us : List Addr} {M : DS} (h : RowsE H us M) (s : TK H H') : RowsE H' us M := ⟨h.1, fun i q e a b => by
  obtain ⟨u, r1, r2⟩ := h.2 i q e a b
  exact ⟨u, r1.tk s, TupD.tk r2 s⟩⟩
theorem dpE {H : Hp} {q u : Addr} {e : Int × Rat} (r1 : TupD H q [.int e.1, .ref u]) (r2 : ShD H u e.2) : Dp K H (.ref q) (PE1 e) := .tup r1.sq (.cons (.int _) (.cons (.tup (TupD.sq r2) (.cons (.int _) (.cons (.int _) .nil))) .nil))
theorem RowsE.dp {H : Hp} {us : List Addr} {M : DS} (h : RowsE H us M) : DpAll K H (us.map V.ref) (M.map PE1) := dp_map us M h.1 fun i q e a b => by
  obtain ⟨u, r1, r2⟩ := h.2 i q e a b
  exact dpE r1 r2
theorem RowsE.snoc {H : Hp} {us : List Addr} {M : DS} {q u : Addr} {e : Int × Rat} (h : RowsE H us M) (r1 : TupD H q [.int e.1, .ref u]) (r2 : ShD H u e.2) : RowsE H (us ++ [q]) (M ++ [e]) := by
  refine ⟨by simp [h.1], fun i v y a b => ?_⟩
  by_cases hi : i < us.length
  · rw [List.getElem?_append_left hi] at a
    rw [List.getElem?_append_left (by rw [← h.1]; exact hi)] at b
    exact h.2 i v y a b
  · have hi2 : i = us.length := by
      have := (List.getElem?_eq_some_iff.mp a).1
      simp at this
      omega
    subst hi2
    rw [List.getElem?_append_right (Nat.le_refl _), Nat.sub_self] at a
    rw [List.getElem?_append_right (by rw [h.1]; exact Nat.le_refl _), h.1, Nat.sub_self] at b
    cases a
    cases b
    exact ⟨u, r1, r2⟩
theorem of_len (s : String) : (Str.ofString s).length = s.length := by
  rw [Str.ofString_eq_toList]
  show ((s.toList.map Char.toNat).toArray).size = _
  rw [List.size_toArray, List.length_map, String.length_toList]
theorem showE {e : Int × Rat} (h1 : e.1.natAbs.log2 < 8) (h2 : BitR 500 e.2) : (PE1 e).showable = true ∧ (PE1 e).hasDict = false ∧ (PE1 e).shown.length ≤ 1100 := by
  have a1 := h2.1.log
  have a2 := h2.2.log
  have b1 := int_text_length_le (a := e.1) (k := 8) (by decide) h1
  have b2 := int_text_length_le (a := e.2.num) (k := 501) (by decide) (by omega)
  have b3 := int_text_length_le (a := ((e.2.den : Nat) : Int)) (k := 501) (by decide) (by omega)
  have c1 := tupleText_len_le [toString e.2.num, toString ((e.2.den : Nat) : Int)]
  have c2 := tupleText_len_le [toString e.1, tupleText [toString e.2.num, toString ((e.2.den : Nat) : Int)]]
  refine ⟨?_, rfl, ?_⟩
  · simp only [PE1, PyData.showable, PyData.showableAll, Bool.and_true, Bool.and_eq_true, decide_eq_true_eq]
    omega
  · show (tupleText [toString e.1, tupleText [toString e.2.num, toString ((e.2.den : Nat) : Int)]]).length ≤ 1100
    simp only [List.map_cons, List.map_nil, List.sum_cons, List.sum_nil, List.length_cons, List.length_nil, of_len] at c1 c2
    omega
theorem showEs : ∀ {M : DS}, (∀ e ∈ M, e.1.natAbs.log2 < 8 ∧ BitR 500 e.2) → PyData.showableAll (M.map PE1) = true ∧ PyData.hasDictAll (M.map PE1) = false ∧ ((PyData.shownAll (M.map PE1)).map (·.length)).sum ≤ 1100 * M.length ∧ (PyData.shownAll (M.map PE1)).length = M.length
  | [], _ => ⟨rfl, rfl, Nat.zero_le _, rfl⟩
  | e :: M, h => by
    obtain ⟨a1, a2, a3⟩ := showE (h e List.mem_cons_self).1 (h e List.mem_cons_self).2
    obtain ⟨b1, b2, b3, b4⟩ := showEs (M := M) fun x hx => h x (List.mem_cons_of_mem _ hx)
    refine ⟨?_, ?_, ?_, ?_⟩
    · show (PyData.showable (PE1 e) && PyData.showableAll (M.map PE1)) = true
      rw [a1, b1]
      rfl
    · show (PyData.hasDict (PE1 e) || PyData.hasDictAll (M.map PE1)) = false
      rw [a2, b2]
      rfl
    · show (PE1 e).shown.length + ((PyData.shownAll (M.map PE1)).map (·.length)).sum ≤ 1100 * (M.length + 1)
      omega
    · show (PyData.shownAll (M.map PE1)).length + 1 = M.length + 1
      omega
/-- the repr of what a meeting tells is no long text -/
theorem show_meet {M : DS} (h : ∀ e ∈ M, e.1.natAbs.log2 < 8 ∧ BitR 500 e.2) (hl : M.length ≤ 20) :
    (PyData.tuple (M.map PE1)).showable = true ∧ (PyData.tuple (M.map PE1)).hasDict = false ∧ (PyData.tuple (M.map PE1)).shown.length ≤ sizeLine ∧ (PyData.tuple (M.map PE1)).depth ≤ 60 := by
  obtain ⟨b1, b2, b3, b4⟩ := showEs h
  refine ⟨by simpa [PyData.showable] using b1, by simpa [PyData.hasDict] using b2, ?_, ?_⟩
  · have c := tupleText_len_le (PyData.shownAll (M.map PE1))
    rw [b4] at c
    show (tupleText (PyData.shownAll (M.map PE1))).length ≤ sizeLine
    exact Nat.le_trans (show _ ≤ 23000 by omega) (by decide)
  · have := depth_map depthE M
    simp only [PyData.depth]
    omega
end
end DK
set_option Elab.async false
set_option linter.all false
set_option maxRecDepth 100000
set_option maxHeartbeats 8000000
namespace DK
open PySem PySem.Spec PyProof.Rows L2 RZ DL
abbrev s_law : Stmt := topS 55
abbrev N_law : List Str := ["_law_script", "_law_source", "_law_r", "_law_depths_here", "_law_calendar", "_law_turn", "_law_x", "_law_y", "_law_told", "_law_whole", "_law_d", "_law_share"]
theorem sc_law : FnScope N_law ["_law_script"] (defScope s_law) := ⟨rfl, rfl, rfl, by decide +kernel, rfl, by decide +kernel, by decide +kernel⟩
theorem b_law : BindOk "law" s_law ["_law_script"] := fun _ _ _ _ _ _ us hl => match us, hl with | [_], _ => rfl

theorem kb_meeting_y_x_calendar : KwOk "meeting" s_meeting ["calendar", "x", "y"] ["y", "x", "calendar"] rev3 := fun _ _ _ _ _ _ ws hl => match ws, hl with | [_, _, _], _ => rfl
theorem kv_meeting_y_x_calendar : ∀ {zs : List V} {ws : List Value}, Vals zs ws → Vals (rev3 zs) (rev3 ws) := kv3
theorem kb_depth_calendar_r_depths : KwOk "depth_calendar" s_depth_calendar ["depths", "r"] ["r", "depths"] rev2 := fun _ _ _ _ _ _ ws hl => match ws, hl with | [_, _], _ => rfl
theorem kv_depth_calendar_r_depths : ∀ {zs : List V} {ws : List Value}, Vals zs ws → Vals (rev2 zs) (rev2 ws) := kv2
theorem meet_log {L : List Int} {r : Int} {bs : List Int} {ds : List (List Int)} (c : DepCal L r bs ds) {x y : Nat} (hx : x < L.length) (hy : y < L.length) : ∀ e ∈ meetM bs ds x y, e.1.natAbs.log2 < 8 := by
  intro e he
  obtain ⟨lt0, lt1, _⟩ := later_dep c hx hy
  have m11 := c.ok.m11
  unfold meetM at he
  have hm := (List.mem_filter.mp he).1
  rw [days_range] at hm
  obtain ⟨i, hi, rfl⟩ := List.mem_map.mp hm
  have hi2 := List.mem_range.mp hi
  have hcl : (chancesR bs ds (laterI bs x y).toNat).length = ds.length - (laterI bs x y).toNat := by simp [chancesR]
  show (laterI bs x y + (i : Int)).natAbs.log2 < 8
  by_cases h0 : (laterI bs x y + (i : Int)).natAbs = 0
  · rw [h0]
    decide
  · rw [Nat.log2_lt h0]
    omega
theorem part_nn {L : List Int} {r : Int} {bs : List Int} {ds : List (List Int)} (r2 : 2 ≤ r) (c : DepCal L r bs ds) {x y : Nat} (hx : x < L.length) (hy : y < L.length) : ∀ e ∈ meetM bs ds x y, 0 ≤ e.2 := by
  intro e he
  obtain ⟨lt0, lt1, _⟩ := later_dep c hx hy
  unfold meetM at he
  have hm := (List.mem_filter.mp he).1
  rw [days_range] at hm
  obtain ⟨i, hi, rfl⟩ := List.mem_map.mp hm
  have hi2 := List.mem_range.mp hi
  have hcl : (chancesR bs ds (laterI bs x y).toNat).length = ds.length - (laterI bs x y).toNat := by simp [chancesR]
  have hcg : ∀ c' ∈ chancesR bs ds (laterI bs x y).toNat, 0 ≤ c' ∧ 0 ≤ 1 - c' := fun c' hc => by
    unfold chancesR at hc
    obtain ⟨j, hj, rfl⟩ := List.mem_map.mp hc
    have := List.mem_range.mp hj
    exact chance_nn r2 c (by omega)
  have hl := left_nn i (show i ≤ (chancesR bs ds (laterI bs x y).toNat).length by omega) fun c' hc => (hcg c' hc).2
  show 0 ≤ partR _ i
  unfold partR
  split
  · rename_i hlt
    rw [show (chancesR bs ds (laterI bs x y).toNat).getD i 0 = (chancesR bs ds (laterI bs x y).toNat)[i] from getD_of (by simp)]
    exact Rat.mul_nonneg hl (hcg _ (List.getElem_mem _)).1
  · exact hl
theorem sumP_snoc {M : DS} {i : Nat} (h : i < M.length) : sumP 0 (M.take (i + 1)) = sumP 0 (M.take i) + M[i].2 := by
  rw [List.take_add_one, List.getElem?_eq_getElem h, sumP_app]
  rfl
theorem sumP_bit {M : DS} (h : ∀ e ∈ M, BitR 215 e.2) : ∀ i : Nat, i ≤ M.length → BitR (1 + 216 * i) (sumP 0 (M.take i))
  | 0, _ => ⟨by show (0 : Nat) < _; decide, by show (1 : Nat) < _; decide⟩
  | i + 1, hi => by
    rw [sumP_snoc (by omega)]
    exact ((sumP_bit h i (by omega)).add (h _ (List.getElem_mem (by omega)))).up (by omega)
theorem sumP_nn {M : DS} (h : ∀ e ∈ M, 0 ≤ e.2) : ∀ i : Nat, i ≤ M.length → 0 ≤ sumP 0 (M.take i)
  | 0, _ => by show (0 : Rat) ≤ 0; decide +kernel
  | i + 1, hi => by
    rw [sumP_snoc (by omega)]
    exact Rat.add_nonneg (sumP_nn h i (by omega)) (h _ (List.getElem_mem (by omega)))
section
variable {P : Program} {w : World} {K : PySem.W.Frag} {mg : Str → Option Value} {base : Heap} {C f0 fC CM fR CC CZ CD CN : Addr}
def spLaw (K : PySem.W.Frag) : Sp := fun vs H Q _ => ∃ (a : Addr) (ns : List Int), vs = [.ref a] ∧ SqL K H a (ns.map V.int) ∧ ns.length ≤ 63 ∧ ∀ H', Q (.bl true) H'
theorem ca_law (B : Bl mg) (Br : BlR mg) (c_law_pool : Ca P w K mg base 1 "_law_pool" s_law_pool ["_law_script", "_law_k"] (spPool K)) (c_law_take : Ca P w K mg base 1 "_law_take" s_law_take ["_law_source", "_law_top"] spTake) (c_law_one : Ca P w K mg base 2 "_law_one" s_law_one ["_law_source", "_law_things"] spOne)
    (c_law_depths : Ca P w K mg base 2 "_law_depths" s_law_depths ["_law_source", "_law_r"] spDepths) (c_depth_calendar : Ca P w K mg base 4 "depth_calendar" s_depth_calendar ["depths", "r"] (spDepthCal K C CZ CD CC CN)) (c_meeting : Ca P w K mg base 7 "meeting" s_meeting ["calendar", "x", "y"] (spMeeting K C))
    (c_law_meets : Ca P w K mg base 3 "_law_meets" s_law_meets ["_law_depths_here", "_law_r", "_law_x", "_law_y"] (spLawMeets K)) (c_law_plus : Ca P w K mg base 2 "_law_plus" s_law_plus ["_law_a", "_law_b"] (spBinN (· + ·)))
    {f : Addr} {fd : FuncData} (F : Fun K "law" "law" s_law f fd) : FnG P w K mg base 24 f fd ["_law_script"] (spLaw K) := by
  refine okG F sc_law (fun vs H Q E h => by obtain ⟨a, ns, rfl, _⟩ := h; rfl) fun cdv A outer s H vs Q E hr h => ?_
  obtain ⟨a, ns, rfl, hs, hl, q⟩ := h
  obtain ⟨hr, hfree⟩ := hr
  have hu64 := hr.units
  refine ⟨_, (pss_cons (ps_set (i := 1) sc_law.nd rfl (Or.inl rfl) (pe_ca c_law_pool b_law_pool hr ps0 (pa_cons (pv 0) (pa_cons pe_int pa_nil))))
      (pss_cons (ps_set (i := 2) sc_law.nd rfl (Or.inl rfl) (pe_ca c_law_one b_law_one hr ps0 (pa_cons (pv 1) (pa_cons (pe_lst (pa_cons pe_int (pa_cons pe_int (pa_cons pe_int (pa_cons pe_int (pa_cons pe_int pa_nil)))))) pa_nil))))
      (pss_cons (ps_set (i := 3) sc_law.nd rfl (Or.inl rfl) (pe_ca c_law_depths b_law_depths hr ps0 (pa_cons (pv 1) (pa_cons (pv 2) pa_nil))))
      (pss_cons (ps_set (i := 4) sc_law.nd rfl (Or.inl rfl) (pe_cak c_depth_calendar kb_depth_calendar_r_depths kv_depth_calendar_r_depths hr (pk_cons (pv 2) (pk_cons (pv 3) pk_nil))))
      (pss_cons (ps_for PassesOwn.never rfl (pi_range1 (by rfl) B.range (pa_cons pe_int pa_nil)) (pg_name (i := 5) sc_law.nd rfl (Or.inl rfl))
      (pss_cons (ps_set (i := 6) sc_law.nd rfl (Or.inl rfl) (pe_ca c_law_take b_law_take hr ps0 (pa_cons (pv 1) (pa_cons (pe_callB (call_lenK K rfl) (by rfl) B.len (by decide +kernel) (pa_cons (pv 3) pa_nil)) pa_nil))))
      (pss_cons (ps_set (i := 7) sc_law.nd rfl (Or.inl rfl) (pe_op op_mod (pe_callTy call_int1 (by rfl) B.int (by decide +kernel) (pa_cons (pe_op op_add (pe_op op_add (pv 6) pe_int) (pe_ca c_law_take b_law_take hr ps0 (pa_cons (pv 1) (pa_cons (pe_op op_sub (pe_callB (call_lenK K rfl) (by rfl) B.len (by decide +kernel) (pa_cons (pv 3) pa_nil)) pe_int) pa_nil)))) pa_nil)) (pe_callB (call_lenK K rfl) (by rfl) B.len (by decide +kernel) (pa_cons (pv 3) pa_nil))))
      (pss_cons (ps_par (i := 8) (j := 9) (by rfl) sc_law.nd rfl rfl (by decide) rfl rfl (pa_cons (pe_cak c_meeting kb_meeting_y_x_calendar kv_meeting_y_x_calendar hr (pk_cons (pv 7) (pk_cons (pv 6) (pk_cons (pv 4) pk_nil)))) (pa_cons (pe_tupD (pa_cons pe_int (pa_cons pe_int pa_nil))) pa_nil)) (by rfl))
      (pss_cons (ps_if (PW.pt (pw_or (pt_cmpR op_ne (pe_callB (call_reprD K rfl hfree hu64) (by rfl) Br.repr (by decide +kernel) (pa_cons (pv 8) pa_nil)) (pe_callB (call_reprD K rfl hfree hu64) (by rfl) Br.repr (by decide +kernel) (pa_cons (pe_ca c_law_meets b_law_meets hr ps0 (pa_cons (pv 3) (pa_cons (pv 2) (pa_cons (pv 6) (pa_cons (pv 7) pa_nil))))) pa_nil)) (nomark _)) (pw_or1 (pt_cmpR (op_neDK K rfl hu64) (pe_ca c_meeting b_meeting hr ps0 (pa_cons (pv 4) (pa_cons (pv 7) (pa_cons (pv 6) pa_nil)))) (pv 8) (nomark _))))) (pss_one (ps_ret pe_bl))
      pss_nil)
      (pss_cons (ps_for PassesOwn.never rfl (pi_tup (pv 8)) (pg_tup rfl (pgs_cons (pg_name (i := 10) sc_law.nd rfl (Or.inl rfl)) (pgs_cons (pg_name (i := 11) sc_law.nd rfl (Or.inl rfl)) pgs_nil)))
      (pss_one (ps_set (i := 9) sc_law.nd rfl (Or.inl rfl) (pe_ca c_law_plus b_law_plus hr ps0 (pa_cons (pv 9) (pa_cons (pv 11) pa_nil))))))
      (pss_one (ps_if (PW.pt (pw_or (pt_cmpR (op_neDK K rfl hu64) (pv 9) (pe_tupD (pa_cons pe_int (pa_cons pe_int pa_nil))) (nomark _)) (pw_or1 (pt_cmpR op_lt (pe_ix (ix_tupK K rfl) (pe_ix (ix_tupK K rfl) (pv 8) pe_int (fun _ _ => rfl)) pe_int (fun _ _ => rfl)) (pe_op op_sub (pe_callB (cr_maxT K rfl rfl hu64) (by rfl) B.max (by decide +kernel) (pa_cons (pv 3) pa_nil)) (pe_callB (call_min2 rfl) (by rfl) B.min (by decide +kernel) (pa_cons (pe_ix (ix_tupK K rfl) (pv 3) (pv 6) (fun _ _ => rfl)) (pa_cons (pe_ix (ix_tupK K rfl) (pv 3) (pv 7) (fun _ _ => rfl)) pa_nil)))) (nomark _))))) (pss_one (ps_ret pe_bl))
      pss_nil))))))))
      (pss_one (ps_ret pe_bl))))))), ?_⟩
  refine ⟨_, rfl, a, ns, 0, rfl, hs, hl, by decide, by decide, fun p H1 hp s1 src => ?_⟩
  refine ⟨_, rfl, (by show 5 ≤ sizeLine; decide), fun l hl => ?_⟩
  have sl := Same.new (o := .lst [.int 2, .int 2, .int 2, .int 3, .int 4]) hl
  refine ⟨p, l, _, rfl, src.same sl, upd_same, src.ne_none hl, by decide, by decide, fun v H2 hv st2 => ?_⟩
  obtain ⟨r, rfl, r2, r4⟩ : ∃ r : Int, v = .int r ∧ 2 ≤ r ∧ r ≤ 4 := by
    simp only [List.mem_cons, List.not_mem_nil, or_false] at hv
    rcases hv with rfl | rfl | rfl | rfl | rfl <;> exact ⟨_, rfl, by decide, by decide⟩
  refine ⟨_, rfl, _, rfl, p, r, rfl, st2.1, r2, by omega, fun dp F H3 st3 hdp g hF2 => ?_⟩
  obtain ⟨bs, ds, hdep, dc⟩ := grown_cal g r2 hF2
  have hLD : LenD F := ⟨g.n1, g.n12⟩
  refine ⟨_, rfl, _, rfl, rfl, dp, F, r, rfl, hdp, Nat.le_trans g.n12 (by decide), fun h => absurd hLD h, fun _ i hb => ?_, fun _ _ h => absurd (show 2 ≤ r ∧ r ≤ 12 by omega) h, fun _ _ _ _ h e => ?_, fun _ _ _ _ bs' ds' e c H4 s4 cal4 => ?_⟩
  · obtain ⟨⟨z, hz, hbad⟩, _⟩ := hb
    exact absurd (g.all z (List.mem_of_getElem? hz)) hbad
  · rw [hdep] at e
    cases e
  rw [hdep] at e
  cases e
  have src4 := st3.1.same s4
  have hdp4 := hdp.same s4
  have ok := dc.ok
  have n12 := ok.n12
  have m11 := ok.m11
  have hbl : bs.length = F.length := by rw [dc.born, List.length_map]
  have hFl : (F.map V.int).length = F.length := List.length_map _
  have hFn := g.n12
  refine ⟨6, rfl, by decide, by decide, for_range (lo := 0) (n := _) (fun i σ H' => ∃ (x5 x6 x7 x8 x9 x10 x11 : Option V), σ = [some (.ref a), some (.ref p), some (.int r), some (.ref dp), some (.ref c), x5, x6, x7, x8, x9, x10, x11] ∧ Stay p H4 H') ⟨none, none, none, none, none, none, none, rfl, Stay.refl src4⟩ ?_ ?_⟩
  · rintro i σ H5 hi ⟨x5, x6, x7, x8, x9, x10, x11, rfl, st5⟩
    have tk5 := TK.stay src4 st5
    have hdp5 := hdp4.tk tk5
    refine ⟨_, rfl, _, rfl, dp, _, rfl, .inr hdp5.sq, p, _, rfl, st5.1, by rw [hFl]; omega, by rw [hFl]; omega, fun x H6 x0 x1 st6 => ?_⟩
    rw [hFl] at x1
    obtain ⟨xn, rfl⟩ := Int.eq_ofNat_of_zero_le x0
    have hx : xn < F.length := by omega
    have tk6 := tk5.trans (TK.stay st5.1 st6)
    have hdp6 := hdp4.tk tk6
    refine ⟨_, rfl, _, _, rfl, rfl, _, rfl, _, rfl, dp, _, rfl, .inr hdp6.sq, _, _, rfl, rfl, p, _, rfl, st6.1, by rw [hFl]; omega, by rw [hFl]; omega, fun z H7 z0 z1 st7 => ⟨_, _, rfl, rfl, .inl ⟨_, rfl, _, rfl, dp, _, rfl, .inr (hdp6.tk (TK.stay st6.1 st7)).sq, _, _, rfl, rfl, by rw [hFl]; omega, ?_⟩⟩⟩
    rw [hFl] at z1 ⊢
    obtain ⟨zn, rfl⟩ := Int.eq_ofNat_of_zero_le z0
    have st47 := (st5.trans st6).trans st7
    have hdp7 := hdp6.tk (TK.stay st6.1 st7)
    have hy0 : 0 ≤ ((xn : Int) + 1 + (zn : Int)) % (F.length : Int) := Int.emod_nonneg _ (by omega)
    have hy1 : ((xn : Int) + 1 + (zn : Int)) % (F.length : Int) < (F.length : Int) := Int.emod_lt_of_pos _ (by omega)
    have hxy : ((xn : Int) + 1 + (zn : Int)) % (F.length : Int) ≠ (xn : Int) := by
      by_cases h : xn + 1 + zn < F.length
      · rw [Int.emod_eq_of_lt (by omega) (by omega)]
        omega
      · have e : (xn : Int) + 1 + (zn : Int) = ((xn : Int) + 1 + (zn : Int) - (F.length : Int)) + (F.length : Int) := by omega
        rw [e, Int.add_emod_right, Int.emod_eq_of_lt (by omega) (by omega)]
        omega
    obtain ⟨yn, ey⟩ := Int.eq_ofNat_of_zero_le hy0
    have hy : yn < F.length := by omega
    have hne : xn ≠ yn := by omega
    have cal7 := cal4.stay src4 st47
    refine ⟨_, rfl, _, rfl, _, rfl, rfl, c, bs, ds, (xn : Int), (yn : Int), congrArg (fun z => [V.ref c, V.int (xn : Int), V.int z]) ey, cal7, ok, by omega, by omega, by omega, fun p1 H8 s8 hp1 => ⟨(by show 2 ≤ sizeLine; decide), fun o H9 s9 ho => ?_⟩⟩
    refine ⟨_, _, rfl, ?_⟩
    have hp1' := hp1
    obtain ⟨qm, m1, m2, m3⟩ := hp1
    obtain ⟨hsum, hnon, hday⟩ := meet_sum r2 dc hx hy
    have hMb : ∀ e ∈ meetM bs ds xn yn, e.1.natAbs.log2 < 8 ∧ BitR 500 e.2 := fun e he => ⟨meet_log dc hx hy e he, (part_bit ok xn yn e he).up (by decide)⟩
    have hMl : (meetM bs ds xn yn).length ≤ 20 := Nat.le_trans (meet_len ok xn yn) (by decide)
    have hdp1 : ∀ {H' : Hp} {p' : Addr}, PairsD H' p' (meetM bs ds xn yn) → Dp K H' (.ref p') (.tuple ((meetM bs ds xn yn).map PE1)) := fun {H' p'} h => by
      obtain ⟨qm, m1, m2, m3⟩ := h
      exact .tup m1.sq (dp_map qm _ m2 fun i q e a b => by
        obtain ⟨u, r1, r2⟩ := m3 i q e a b
        exact dpE r1 r2)
    obtain ⟨w1, w2, w3, w4⟩ := show_meet hMb hMl
    have hp1s : ∀ {H' : Hp}, Same H8 H' → PairsD H' p1 (meetM bs ds xn yn) := fun {H'} s => ⟨qm, m1.same s, m2, fun i q e a b => by
      obtain ⟨u, r1, r2⟩ := m3 i q e a b
      exact ⟨u, r1.same s, ShD.same r2 s⟩⟩
    have hdp9 := (hdp7.same s8).same s9
    refine ⟨_, rfl, .ref p1, _, rfl, hdp1 (hp1s s9), w1, w2, w3, w4, _, rfl, _, rfl, _, rfl, _, rfl, dp, F, r, xn, yn, bs, ds, congrArg (fun z => [V.ref dp, V.int r, V.int (xn : Int), V.int z]) ey, hdp9, hLD, r2, by omega, dc, hx, hy, fun p2 H10 s10 hp2 => ⟨.ref p2, _, rfl, hdp1 hp2, w1, w2, w3, w4, rfl, _, rfl, ?_⟩⟩
    refine iteFd (by simp) ?_
    have s710 := (s8.trans s9).trans s10
    have cal10 := cal7.same s710
    have hdp10 := hdp9.same s10
    refine ⟨_, rfl, _, rfl, _, rfl, c, bs, ds, (yn : Int), (xn : Int), congrArg (fun z => [V.ref c, V.int z, V.int (xn : Int)]) ey, cal10, ok, by omega, by omega, by omega, fun p3 H11 s11 hp3 => ?_⟩
    rw [meet_symm] at hp3
    have s8_11 := (s9.trans s10).trans s11
    refine ⟨_, rfl, _, _, hdp1 hp3, hdp1 (hp1s s8_11), shapedEs _, shapedEs _, ?_⟩
    rw [eqvEs, decide_eq_true (rfl : meetM bs ds (xn : Int) (yn : Int) = meetM bs ds (xn : Int) (yn : Int))]
    refine ⟨_, rfl, iteFd rfl ?_⟩
    have hdp11 := hdp10.same s11
    have ho11 : ShD H11 o (sumP 0 ((meetM bs ds xn yn).take 0)) := (ho.same s10).same s11
    obtain ⟨qm', m1', m2', m3'⟩ := hp1s s8_11
    have hpb := part_bit ok (xn : Int) (yn : Int)
    have hpn := part_nn r2 dc hx hy
    obtain ⟨_, _, hlt3⟩ := later_dep dc hx hy
    have hst11 := st47.same (s8.trans s8_11)
    have hdeep := dc.deep
    generalize hMM : meetM bs ds (xn : Int) (yn : Int) = M at *
    refine ⟨_, rfl, p1, rfl, ⟨_, m1'.sq⟩, for_it (walk_tup (xs := qm'.map V.ref)) (fun k σ H' => ∃ (wf : Addr) (x10 x11 : Option V), σ = [some (.ref a), some (.ref p), some (.int r), some (.ref dp), some (.ref c), some (.int (0 + (i : Nat))), some (.int xn), some (.int (((xn : Int) + 1 + (zn : Int)) % (F.length : Int))), some (.ref p1), some (.ref wf), x10, x11] ∧ Same H11 H' ∧ ShD H' wf (sumP 0 (M.take k))) ⟨o, x10, x11, rfl, Same.refl _, ho11⟩ (fun k σ H' _ p => by obtain ⟨_, _, _, _, p, _⟩ := p; exact (m1'.same p).sq) ?_ ?_⟩
    · rintro k x σ H12 H13 hk ⟨wf, y10, y11, rfl, s12, hw⟩ ⟨rfl, hx'⟩
      obtain ⟨v, hv, rfl⟩ := map_of hx'
      have hkM : k < M.length := by
        have := (List.getElem?_eq_some_iff.mp hv).1
        rw [m2'] at this
        exact this
      obtain ⟨u, r1, r2'⟩ := m3' k v M[k] hv (by simp)
      refine ⟨v, _, rfl, (r1.same s12).sq, rfl, _, _, rfl, _, _, rfl, rfl, ?_⟩
      refine ⟨_, rfl, _, rfl, wf, u, sumP 0 (M.take k), M[k].2, 1 + 216 * k, 215, rfl, hw, ShD.same r2' s12, sumP_bit hpb k (by omega), hpb _ (List.getElem_mem _), num_nn (sumP_nn hpn k (by omega)), num_nn (hpn _ (List.getElem_mem _)), by omega, fun p5 H5 s5 hp5 => ⟨p5, _, _, rfl, s12.trans s5, ?_⟩⟩
      rw [sumP_snoc hkM]
      exact hp5
    · rintro σ H12 ⟨wf, y10, y11, rfl, s12, hw⟩
      have hlz : (qm'.map V.ref).length = M.length := by rw [List.length_map]; exact m2'
      rw [hlz, List.take_length, hsum] at hw
      refine ⟨_, rfl, (by show 2 ≤ sizeLine; decide), fun p6 H14 s14 hp6 => ?_⟩
      refine ⟨_, _, .tup (TupD.sq (ShD.same hw s14)) (.cons (.int _) (.cons (.int _) .nil)), .tup hp6.sq (.cons (.int _) (.cons (.int _) .nil)), rfl, rfl, ?_⟩
      refine ⟨_, rfl, iteFd rfl ?_⟩
      obtain ⟨e, M', hM'⟩ := List.exists_cons_of_ne_nil hnon
      have h0 : M[0]? = some e := by rw [hM']; rfl
      obtain ⟨q0, hq0⟩ : ∃ q0, qm'[0]? = some q0 := ⟨qm'[0]'(by rw [m2', hM']; simp), List.getElem?_eq_getElem _⟩
      obtain ⟨u, r1, r2'⟩ := m3' 0 q0 e hq0 h0
      have hle := hday e (by rw [hM']; exact List.mem_cons_self)
      have hl2 := (hlt3 e.1).mpr hle
      have hdp14 := (hdp11.same s12).same s14
      have atF : ∀ z (hz : z < F.length), atI (F.map V.int) ((z : Nat) : Int) = some (.int F[z]) := fun z hz => at_of rfl (by simp)
      have hF0 : F ≠ [] := fun z => by rw [z] at hx; simp at hx
      refine ⟨_, rfl, p1, _, 0, _, rfl, rfl, ((m1'.same s12).same s14).sq, at_of (j := 0) rfl (by rw [List.getElem?_map, hq0]; rfl), q0, _, 0, _, rfl, rfl, ((r1.same s12).same s14).sq, at0, ?_⟩
      refine ⟨_, rfl, dp, F, rfl, hdp14.sq, hF0, _, rfl, _, rfl, dp, _, _, _, rfl, rfl, hdp14.sq, atF xn hx, _, rfl, _, rfl, dp, _, _, _, rfl, rfl, hdp14.sq, by rw [ey]; exact atF yn hy, _, _, rfl, _, _, rfl, rfl, _, _, rfl, rfl, ?_⟩
      refine ⟨_, rfl, iteFd (decide_eq_false ?_) ?_⟩
      · rw [hdeep] at hl2
        split <;> omega
      · exact ⟨_, _, _, _, _, _, _, rfl, (hst11.same s12).same s14⟩
  · rintro σ H5 _
    exact q _
end
end DK
set_option Elab.async false
set_option linter.all false
set_option maxRecDepth 100000
set_option maxHeartbeats 4000000
namespace DK
open PySem PySem.Spec PyProof.Rows L2 RZ DL
abbrev s_Refused___init__ : Stmt := inClass (topS 2) 0
abbrev N_Refused___init__ : List Str := ["self", "what"]
theorem sc_Refused___init__ : FnScope N_Refused___init__ ["self", "what"] (defScope s_Refused___init__) := ⟨rfl, rfl, rfl, by decide +kernel, rfl, by decide +kernel, by decide +kernel⟩

section
variable {P : Program} {w : World} {K : PySem.W.Frag} {mg : Str → Option Value} {base : Heap}
theorem er_init {f : Addr} {fd : FuncData} (F : Fun K "__init__" "Refused.__init__" s_Refused___init__ f fd) : ErI P w K mg base f := by
  refine ⟨fd, fn_up (F.ok sc_Refused___init__ (fun vs H Q E h => by obtain ⟨a, C, v, rfl, _⟩ := h; rfl) fun cdv A outer s H vs Q E hr h => ?_), F.binds fun _ _ _ _ _ _ us hl => match us, hl with | [_, _], _ => rfl⟩
  obtain ⟨a, C, v, rfl, ox, nw, ha, q⟩ := h
  refine ⟨_, (pss_one (ps_ost (pv 0) (pv 1))), ?_⟩
  exact ⟨_, rfl, _, rfl, a, C, rfl, ox, nw, .inl ⟨ha, q⟩⟩
/-- from what the head tells to the promise of the law -/
theorem all_mk {h : Heap} {fa : Addr} (X : K.In h) (G : h.Ns mainGlobals mg) (hfa : mg "law" = some (.ref fa))
    (dB : DBl K) (dS1 : PySem.W.nsIn K mainGlobals "sorted" = some none) (dS2 : PySem.W.nsIn K mainGlobals "set" = some none) (dR : PySem.W.nsIn K mainGlobals "repr" = some none) (dK_MOST_LEAVES : DKn K "MOST_LEAVES" 12) (dK_GREATEST_DEPTH : DKn K "GREATEST_DEPTH" 11) (dK_LEAST_LINES : DKn K "LEAST_LINES" 2) (dK_MOST_LINES : DKn K "MOST_LINES" 12) (dC : DCal K s_Calendar___init__)
    (dM_gcd : PySem.W.nsIn K mainGlobals "gcd" = some (some (.builtin "math.gcd")))
    (dE_BadMoment : DEr K "BadMoment" "Refused.__init__" s_Refused___init__)
    (dE_BadCount : DEr K "BadCount" "Refused.__init__" s_Refused___init__)
    (dE_BadLeaf : DEr K "BadLeaf" "Refused.__init__" s_Refused___init__)
    (dE_BadSet : DEr K "BadSet" "Refused.__init__" s_Refused___init__)
    (dE_BadSize : DEr K "BadSize" "Refused.__init__" s_Refused___init__)
    (dE_BadDepth : DEr K "BadDepth" "Refused.__init__" s_Refused___init__)
    (dE_NotWhole : DEr K "NotWhole" "Refused.__init__" s_Refused___init__)
    (d_is_number : Df K "is_number" s_is_number)
    (d_is_from_to : Df K "is_from_to" s_is_from_to)
    (d_ask_moment : Df K "ask_moment" s_ask_moment)
    (d_law_take : Df K "_law_take" s_law_take)
    (d_law_one : Df K "_law_one" s_law_one)
    (d_law_pool : Df K "_law_pool" s_law_pool)
    (d_is_falling : Df K "is_falling" s_is_falling)
    (d_is_pattern : Df K "is_pattern" s_is_pattern)
    (d_ask_pattern : Df K "ask_pattern" s_ask_pattern)
    (d_less : Df K "less" s_less)
    (d_days_many : Df K "days_many" s_days_many)
    (d_alive : Df K "alive" s_alive)
    (d_share : Df K "share" s_share)
    (d_minus : Df K "minus" s_minus)
    (d_times : Df K "times" s_times)
    (d_pairs_of : Df K "pairs_of" s_pairs_of)
    (d_first_days : Df K "first_days" s_first_days)
    (d_meets : Df K "meets" s_meets)
    (d_ask_leaf : Df K "ask_leaf" s_ask_leaf)
    (d_ask_two_leaves : Df K "ask_two_leaves" s_ask_two_leaves)
    (d_meeting : Df K "meeting" s_meeting)
    (d_ask_depths : Df K "ask_depths" s_ask_depths)
    (d_ask_lines : Df K "ask_lines" s_ask_lines)
    (d_depth_calendar : Df K "depth_calendar" s_depth_calendar)
    (d_law_depths : Df K "_law_depths" s_law_depths)
    (d_law_low : Df K "_law_low" s_law_low)
    (d_law_times : Df K "_law_times" s_law_times)
    (d_law_plus : Df K "_law_plus" s_law_plus)
    (d_law_pairs : Df K "_law_pairs" s_law_pairs)
    (d_law_meets : Df K "_law_meets" s_law_meets)
    (d_law : Df K "law" s_law) :
    ∃ fd : FuncData, (∀ (s : Shared) (u : Value), BindsTo s fd ⟨[u], []⟩ [("_law_script", u)]) ∧ ∀ base : Heap, K.In base → base.Ns mainGlobals mg → FnG P w K mg base 24 fa fd ["_law_script"] (spLaw K) := by
  have B := dB.bl X G
  have Bs : BlS mg := ⟨PySem.W.mg_none_of X G dS1, PySem.W.mg_none_of X G dS2⟩
  have Br : BlR mg := ⟨PySem.W.mg_none_of X G dR⟩
  have Kc : Kn mg := ⟨dK_MOST_LEAVES.kn X G, dK_GREATEST_DEPTH.kn X G, dK_LEAST_LINES.kn X G, dK_MOST_LINES.kn X G⟩
  obtain ⟨C, fC, fdC, T, FC⟩ := dC.cl X G
  obtain ⟨C_BadMoment, f_BadMoment, fd_BadMoment, T_BadMoment, F_BadMoment⟩ := dE_BadMoment.er X G
  obtain ⟨C_BadCount, f_BadCount, fd_BadCount, T_BadCount, F_BadCount⟩ := dE_BadCount.er X G
  obtain ⟨C_BadLeaf, f_BadLeaf, fd_BadLeaf, T_BadLeaf, F_BadLeaf⟩ := dE_BadLeaf.er X G
  obtain ⟨C_BadSet, f_BadSet, fd_BadSet, T_BadSet, F_BadSet⟩ := dE_BadSet.er X G
  obtain ⟨C_BadSize, f_BadSize, fd_BadSize, T_BadSize, F_BadSize⟩ := dE_BadSize.er X G
  obtain ⟨C_BadDepth, f_BadDepth, fd_BadDepth, T_BadDepth, F_BadDepth⟩ := dE_BadDepth.er X G
  obtain ⟨C_NotWhole, f_NotWhole, fd_NotWhole, T_NotWhole, F_NotWhole⟩ := dE_NotWhole.er X G
  have g_gcd := PySem.W.mg_of X G dM_gcd
  obtain ⟨f, fd, F, hm⟩ := (d_law.up X G).ex
  rw [hfa] at hm
  cases hm
  refine ⟨fd, fun s u => ?_, fun base _ _ => ?_⟩
  · obtain ⟨oc, od, kV, doc, pm, an, cdv, ct, osl, rfl, lk, hcd⟩ := F.ex
    exact .of_eq rfl
  have G_Calendar := ok_init (P := P) (w := w) (base := base) T FC
  have Bi_Calendar : Binds K fdC ["self", "born", "days"] [] := FC.binds fun _ _ _ _ _ _ us hl => match us, hl with | [_, _, _], _ => rfl
  have c_is_number := ca_is_number (P := P) (w := w) (base := base) B (d_is_number.up X G)
  have c_is_from_to := ca_is_from_to (P := P) (w := w) (base := base) c_is_number (d_is_from_to.up X G)
  have c_ask_moment := ca_ask_moment (P := P) (w := w) (base := base) c_is_from_to T_BadMoment (er_init F_BadMoment) (d_ask_moment.up X G)
  have c_law_take := ca_take (P := P) (w := w) (base := base) B (d_law_take.up X G)
  have c_law_one := ca_one (P := P) (w := w) (base := base) B c_law_take (d_law_one.up X G)
  have c_law_pool := ca_pool (P := P) (w := w) (base := base) B (d_law_pool.up X G)
  have c_is_falling := ca_is_falling (P := P) (w := w) (base := base) B (d_is_falling.up X G)
  have c_is_pattern := ca_is_pattern (P := P) (w := w) (base := base) B c_is_number c_is_falling (d_is_pattern.up X G)
  have c_ask_pattern := ca_ask_pattern (P := P) (w := w) (base := base) c_is_pattern (d_ask_pattern.up X G)
  have c_less := ca_less (P := P) (w := w) (base := base) B c_ask_pattern (d_less.up X G)
  have c_days_many := ca_days_many (P := P) (w := w) (base := base) B T (d_days_many.up X G)
  have c_alive := ca_alive (P := P) (w := w) (base := base) B T c_ask_moment c_days_many c_less (d_alive.up X G)
  have c_share := ca_share (P := P) (w := w) (base := base) T_BadCount (er_init F_BadCount) g_gcd (d_share.up X G)
  have c_minus := ca_minus (P := P) (w := w) (base := base) c_share (d_minus.up X G)
  have c_times := ca_times (P := P) (w := w) (base := base) c_share (d_times.up X G)
  have c_pairs_of := ca_pairs_of (P := P) (w := w) (base := base) B Bs (d_pairs_of.up X G)
  have c_first_days := ca_first_days (P := P) (w := w) (base := base) B c_times c_minus c_pairs_of (d_first_days.up X G)
  have c_meets := ca_meets (P := P) (w := w) (base := base) B T c_alive c_share (d_meets.up X G)
  have c_ask_leaf := ca_ask_leaf (P := P) (w := w) (base := base) B T c_is_from_to T_BadLeaf (er_init F_BadLeaf) (d_ask_leaf.up X G)
  have c_ask_two_leaves := ca_ask_two (P := P) (w := w) (base := base) c_ask_leaf T_BadSet (er_init F_BadSet) (d_ask_two_leaves.up X G)
  have c_meeting := ca_meeting (P := P) (w := w) (base := base) B T c_ask_two_leaves c_days_many c_meets c_first_days (d_meeting.up X G)
  have c_ask_depths := ca_ask_depths (P := P) (w := w) (base := base) B Kc c_is_from_to T_BadSize (er_init F_BadSize) T_BadDepth (er_init F_BadDepth) (d_ask_depths.up X G)
  have c_ask_lines := ca_ask_lines (P := P) (w := w) (base := base) Kc c_is_from_to T_BadCount (er_init F_BadCount) (d_ask_lines.up X G)
  have c_depth_calendar := ca_depth_calendar (P := P) (w := w) (base := base) B T G_Calendar Bi_Calendar c_ask_depths c_ask_lines T_NotWhole (er_init F_NotWhole) (d_depth_calendar.up X G)
  have c_law_depths := ca_depths (P := P) (w := w) (base := base) B c_law_take (d_law_depths.up X G)
  have c_law_low := ca_low (P := P) (w := w) (base := base) B (d_law_low.up X G)
  have c_law_times := ca_law_times (P := P) (w := w) (base := base) c_law_low (d_law_times.up X G)
  have c_law_plus := ca_law_plus (P := P) (w := w) (base := base) c_law_low (d_law_plus.up X G)
  have c_law_pairs := ca_law_pairs (P := P) (w := w) (base := base) B Bs (d_law_pairs.up X G)
  have c_law_meets := ca_law_meets (P := P) (w := w) (base := base) B c_law_low c_law_times c_law_pairs (d_law_meets.up X G)
  exact ca_law B Br c_law_pool c_law_take c_law_one c_law_depths c_depth_calendar c_meeting c_law_meets c_law_plus F
end
theorem walk {l : PySem.W.OpenLaw} {q : Program} {loose : List Str} {XP : (Str → Option Value) → Heap → Prop} {YP : World → Heap → Prop} {d : DefRec} {K : Params → PySem.W.Frag} (hn : l.most = some 63) (hdf : d.params.defaults = [])
    (hY : ∀ (w : World) (h : Heap), YP w h → (K w.params).In h)
    (F : ∀ (w : World) (mg : Str → Option Value) (fa : Addr) (h : Heap), (K w.params).In h → h.Ns mainGlobals mg → mg d.name = some (.ref fa) →
      ∃ fd : FuncData, (∀ (s : Shared) (u : Value), BindsTo s fd ⟨[u], []⟩ [("_law_script", u)]) ∧ ∀ base : Heap, (K w.params).In base → base.Ns mainGlobals mg → FnG l.prog w (K w.params) mg base 24 fa fd ["_law_script"] (spLaw (K w.params))) :
    PySem.W.WalkO q loose XP YP l.row.toRowW d [] (fun f vs => PySem.call f vs) :=
  walkG (k := 24) (sp := fun K => spLaw K) hn ⟨rfl, by decide, by decide⟩ hdf hY F fun _ _ a ns hl hS => ⟨a, ns, rfl, hS, hl, fun _ => rfl⟩
end DK
open PySem PySem.W PyProof.Rows
set_option Elab.async false
local macro_rules | `(tactic| walk_at "df") => `(tactic| (refine' DL.Df.of ?h1 ?h2 ?h3 ?h4; (case h1 => k_is); (case h2 => k_is); (case h3 => k_is); (case h4 => k_is)))
local macro_rules | `(tactic| walk_at "der") => `(tactic| (refine' DL.DEr.of ?h1 ?h2 ?h3 ?h4 ?h5 ?h6 ?h7 ?h8 ?h9 ?h10 ?h11 ?h12 ?h13 ?h14 ?h15 ?h16 ?h17 ?h18; (case h1 => k_is); (case h2 => k_is); (case h3 => decide +kernel); (case h4 => k_is); (case h5 => k_is); (case h6 => k_is); (case h7 => k_is); (case h8 => k_is); (case h9 => k_is); (case h10 => k_is); (case h11 => k_is); (case h12 => k_is); (case h13 => k_is); (case h14 => k_is); (case h15 => (first | rfl | k_is)); (case h16 => k_is); (case h17 => k_is); (case h18 => k_is)))
local macro_rules | `(tactic| walk_at "dcal") => `(tactic| (refine' DL.DCal.of ?h1 ?h2 ?h3 ?h4 ?h5 ?h6 ?h7 ?h8 ?h9 ?h10 ?h11 ?h12 ?h13 ?h14; (case h1 => k_is); (case h2 => k_is); (case h3 => k_is); (case h4 => k_is); (case h5 => k_is); (case h6 => k_is); (case h7 => k_is); (case h8 => k_is); (case h9 => k_is); (case h10 => k_is); (case h11 => k_is); (case h12 => k_is); (case h13 => k_is); (case h14 => k_is)))
local macro_rules | `(tactic| walk_at "dkn") => `(tactic| (refine' DL.DKn.of ?h1; (case h1 => k_is)))
set_option maxRecDepth 100000 in
set_option maxHeartbeats 0 in
theorem PySem.Challenge.cw_datedlines_k72_leaves_of_depths_that_mee_holds : PySem.Challenge.rw_datedlines_k72_leaves_of_depths_that_mee.Holds := by
  w_on; o_law; k_head; (case hw => w_witness2)
  k_fill
  refine DK.walk (l := PySem.Challenge.rw_datedlines_k72_leaves_of_depths_that_mee) rfl rfl (fun w h Y => PySem.W.kIn_of Y) ?F
  case F =>
    intro w mg fa h KX G hmg
    refine' DK.all_mk KX G hmg ?dB ?dS1 ?dS2 ?dR ?dK_MOST_LEAVES ?dK_GREATEST_DEPTH ?dK_LEAST_LINES ?dK_MOST_LINES ?dC ?dM_gcd ?dE_BadMoment ?dE_BadCount ?dE_BadLeaf ?dE_BadSet ?dE_BadSize ?dE_BadDepth ?dE_NotWhole ?d_is_number ?d_is_from_to ?d_ask_moment ?d_law_take ?d_law_one ?d_law_pool ?d_is_falling ?d_is_pattern ?d_ask_pattern ?d_less ?d_days_many ?d_alive ?d_share ?d_minus ?d_times ?d_pairs_of ?d_first_days ?d_meets ?d_ask_leaf ?d_ask_two_leaves ?d_meeting ?d_ask_depths ?d_ask_lines ?d_depth_calendar ?d_law_depths ?d_law_low ?d_law_times ?d_law_plus ?d_law_pairs ?d_law_meets ?d_law
    (case dB => refine' ⟨⟨?xb1, ?xb2, ?xb3, ?xb4, ?xb5, ?xb6, ?xb7, ?xb8, ?xb9, ?xb10, ?xb11, ?xb12, ?xb13⟩⟩ <;> k_is)
    (case dS1 => k_is)
    (case dS2 => k_is)
    (case dR => k_is)
    (case dK_MOST_LEAVES => walk_at "dkn")
    (case dK_GREATEST_DEPTH => walk_at "dkn")
    (case dK_LEAST_LINES => walk_at "dkn")
    (case dK_MOST_LINES => walk_at "dkn")
    (case dC => walk_at "dcal")
    (case dM_gcd => k_is)
    (case dE_BadMoment => walk_at "der")
    (case dE_BadCount => walk_at "der")
    (case dE_BadLeaf => walk_at "der")
    (case dE_BadSet => walk_at "der")
    (case dE_BadSize => walk_at "der")
    (case dE_BadDepth => walk_at "der")
    (case dE_NotWhole => walk_at "der")
    all_goals walk_at "df"
#print axioms PySem.Challenge.cw_datedlines_k72_leaves_of_depths_that_mee_holds
