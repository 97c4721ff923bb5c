import PyProof.Rows.All
import Wide.All
import OpenK.AllK
import Wide.FinOn
import KE.KStateDown
import KE.SortData
import KE.KItemsList
import KE.GoesMore
import HandS.ForMost
import HandS.Evl
import HandS.Wide
import HandS.WideBits
import HandS.StrMore
import HandS.Style
import HandS.RevRange
import HandS.IsInst
import HandS.EndBits
import HandS.Defaults
import HandS.Exc
import HandS.TupLe
import HandS.Steps
import HandS.More
import HandS.ListItems
import HandS.Walk
import HandS.Head0
import HandS.Head1
import HandS.Head2
import HandS.HeadEnd
import HandS.HeadHook1
import HandS.HeadHook2
import HandS.Text
import HandS.TryMany
import HandS.ExcInit
import HandS.Lambda
import HandS.HeadHook4
import HandS.HeadWalk
import HandS.Iter
import PySem.Challenge.RW_scatteredpieces_k03_first_and_last_place
set_option Elab.async false
set_option linter.all false
set_option maxRecDepth 100000
set_option maxHeartbeats 4000000
--@defs is_text check_text reached_places is_piece holds first_places last_places _law_tape _law_pick _law_one_of _law_drawn_text _law_holds _law_refused _law_first law
--@free isinstance str all int bool range reversed len list min max repr enumerate
--@guard law
--@err BadText NoPiece
--@xdefs first_places last_places
--@lambdas
--@const ALPHABET:str
--@sig is_text(value:str) -> bool
--@sig check_text(value:str) -> none
--@sig reached_places(text:str, piece:str) -> list[int]
--@sig is_piece(text:str, piece:str) -> bool
--@sig holds(text:str, piece:str) -> bool
--@sig first_places(text:str, piece:str) -> list[int]
--@sig last_places(text:str, piece:str) -> list[int]
--@sig _law_tape(script:list[int], start:int) -> dict[str,int]
--@sig _law_pick(tape:dict[str,int], many:int) -> int
--@sig _law_one_of(tape:dict[str,int], things:seq) -> str
--@sig _law_drawn_text(tape:dict[str,int], letters:str, most:int) -> str
--@sig _law_holds(text_here:str, piece_here:str) -> bool
--@sig _law_first(text_here:str, piece_here:str) -> list[int]
--@local _law_first found:list[int]
--@level law 9
--@sig law(script:list[int]) -> bool
--@sig _law_refused(call:any) -> list[str]

namespace My
open PySem PySem.Spec PyProof.Rows L2
/-! ### own errors that keep a value -/
section
open PySem.W (findIn typeIn keepIn subIn exmOne)
/-- what the written part says of an error class whose own __init__ stands at fI -/
structure ErrC (K : PySem.W.Frag) (C fI : Addr) : Prop where
  ox : OexC K C
  ga : findIn K (.ref C) "__getattribute__" = some (some (.builtin "BaseException.__getattribute__"))
  gg : findIn K (.ref C) "__getattr__" = some none
  hd : PySem.W.hasDictIn K C = true
  noV : findIn K (.ref C) "value" = some none
  iC : findIn K (.ref C) "__init__" = some (some (.ref fI))
  tI : typeIn K (.ref fI) = some (.type "function")
def oexB (K : PySem.W.Frag) (C : Addr) : Bool := match K.lookup C with
  | some ⟨.type "type", _, .cls cd, sl⟩ => (match cd.mro, sl.toList with
    | .ref D :: bm, [_, _, _, _, some (.builtin n), _] => D == C && (n == "ValueError.__new__" && (!cd.hasDel && (cd.hasDict && PySem.HandSPX.refsVE bm)))
    | _, _ => false)
  | _ => false
theorem oexB_ok {K : PySem.W.Frag} {C : Addr} (h : oexB K C = true) : ∃ nm q N bs bm sn sub ab col dd k0 k1 k2 k3 k5, K.lookup C = some (excClassObj nm q C N bs bm true sn sub ab col dd k0 k1 k2 k3 k5 "ValueError.__new__") ∧ PySem.HandSPX.refsVE bm = true := by
  unfold oexB at h
  split at h
  · rename_i dd cd sl ho
    split at h
    · rename_i D bm k0 k1 k2 k3 n k5 hm hs
      simp only [Bool.and_eq_true, beq_iff_eq, Bool.not_eq_true'] at h
      obtain ⟨e1, e2, e3, e4, e5⟩ := h
      obtain ⟨nm, bs, mro, N, qn, hdct, sn, sub, ab, col, del⟩ := cd
      dsimp only at hm e3 e4
      subst hm e3 e4 e1 e2
      have esl : sl = #[k0, k1, k2, k3, some (.builtin "ValueError.__new__"), k5] := by
        apply Array.toList_inj.mp
        exact hs
      subst esl
      exact ⟨nm, qn, N, bs, bm, sn, sub, ab, col, dd, k0, k1, k2, k3, k5, ho, e5⟩
    · cases h
  · cases h
def errB (K : PySem.W.Frag) (C fI : Addr) : Bool :=
  oexB K C && (decide (findIn K (.ref C) "__setattr__" = some (some (.builtin "object.__setattr__"))) && (decide (subIn K (.ref C) (.type "BaseException") = some true) && (decide (typeIn K (.ref C) = some (.type "type")) && (keepIn K (.ref C) &&
    (decide (findIn K (.ref C) "__getattribute__" = some (some (.builtin "BaseException.__getattribute__"))) && (decide (findIn K (.ref C) "__getattr__" = some none) && (PySem.W.hasDictIn K C && (decide (findIn K (.ref C) "value" = some none) && (decide (findIn K (.ref C) "__init__" = some (some (.ref fI))) && decide (typeIn K (.ref fI) = some (.type "function")))))))))))
theorem errB_ok {K : PySem.W.Frag} {C fI : Addr} (h : errB K C fI = true) : ErrC K C fI := by
  unfold errB at h
  simp only [Bool.and_eq_true, decide_eq_true_eq] at h
  obtain ⟨h1, h2, h3, h4, h5, h6, h7, h8, h9, h10, h11⟩ := h
  exact ⟨⟨oexB_ok h1, h2, h3, h4, h5⟩, h6, h7, h8, h9, h10, h11⟩
end
section
variable {X : Cx}
/-- e.value, e the error that the suite holds -/
def tErrV (K : PySem.W.Frag) (a : Addr) (kl : Value) (d : Option Addr) (te : TE) : TE := fun σ H Q => te σ H fun x H1 => x = .ref a ∧ ∃ (C fI dd : Addr) (fs : List (Str × V)) (v : V), kl = .ref C ∧ ErrC K C fI ∧ d = some dd ∧ H1 dd = some (.xd fs) ∧ fs.lookup ("value" : Str) = some v ∧ Q v H1
theorem pe_errV {a : Addr} {oe : Obj} {kl : Value} {d : Option Addr} {pn : List (Addr × Obj)} {e : Expr} {te : TE} {pos : Pos} (hz : Zc kl d oe) (hf : ∃ vs, oe.data = .fields vs) (he : PE (X.suite a ((a, oe) :: pn)) e te)
    (hb : attributeBase e "value" X.env (eval e X.env) = eval e X.env := by rfl) : PE (X.suite a ((a, oe) :: pn)) (.Attribute e "value" pos) (tErrV X.K a kl d te) := by
  refine ⟨fun pins s σ H Q I hq => ?_⟩
  refine attr_of hb (thn (he.run pins s σ H _ I hq) fun u s1 ⟨x, H1, I1, rx, ex, C, fI, dd, fs, v, ekl, T, ed, hx, hl, q⟩ => ?_)
  subst ex
  obtain rfl : u = Value.ref a := rx
  subst ekl
  subst ed
  obtain ⟨at1, _⟩ := I1.pin (a, oe) (List.mem_append_left _ List.mem_cons_self)
  obtain ⟨vs, dat⟩ := hf
  have okx : ObjOk X.prog X.w H1 s1.heap dd (.xd fs) := I1.hok dd _ hx
  obtain ⟨mA, hns, rel⟩ := okx
  obtain ⟨od, ho, look⟩ := lookIn_ns hns
  obtain ⟨u, hu, ru⟩ := RelO.some_of (v := v) (o := mA "value") (by rw [← hl]; exact rel "value")
  have J : PySem.W.InstAt s1.heap a oe C (some od) := ⟨at1, hz.1, by unfold PySem.W.notCls; rw [dat] <;> rfl, by rw [hz.2]; exact ho⟩
  exact PySem.HandSPX.exc_get I1.kIn J T.ga T.gg T.ox.exC (PySem.W.findObj_own T.hd T.noV rfl (by rw [look, hu])) (handed_of ru) ⟨v, H1, I1.tok _, ru, q⟩
end

abbrev v_ALPHABET : Str := "abcdefghijklmnopqrstuvwxyz"
def top (i : Nat) : Stmt := PySem.Challenge.pw_scatteredpieces_k03_first_and_last_place.main.body.getD i (.Pass ⟨0, 0, 0, 0⟩)
abbrev FnP (K : PySem.W.Frag) (x : Str) (st : Stmt) (f : Addr) (fd : FuncData) : Prop := FunD K x x (defArgs st) (defBody st) (defScope st) [] [] f fd
abbrev s_is_text : Stmt := top 6
abbrev s_check_text : Stmt := top 7
abbrev s_reached_places : Stmt := top 8
abbrev s_is_piece : Stmt := top 9
abbrev s_holds : Stmt := top 10
abbrev s_first_places : Stmt := top 11
abbrev s_last_places : Stmt := top 12
abbrev s__law_tape : Stmt := top 14
abbrev s__law_pick : Stmt := top 15
abbrev s__law_one_of : Stmt := top 16
abbrev s__law_drawn_text : Stmt := top 17
abbrev s__law_holds : Stmt := top 18
abbrev s__law_refused : Stmt := top 19
abbrev s__law_first : Stmt := top 20
abbrev s_law : Stmt := top 21
abbrev si_BadText : Stmt := inClass (top 2) 0
abbrev si_NoPiece : Stmt := inClass (top 3) 0
/-- what the top has written -/
structure Txt (K : PySem.W.Frag) (mg : Str → Option Value) where
  a_is_text : Addr
  d_is_text : FuncData
  F_is_text : FnP K "is_text" s_is_text a_is_text d_is_text
  g_is_text : mg "is_text" = some (.ref a_is_text)
  a_check_text : Addr
  d_check_text : FuncData
  F_check_text : FnP K "check_text" s_check_text a_check_text d_check_text
  g_check_text : mg "check_text" = some (.ref a_check_text)
  a_reached_places : Addr
  d_reached_places : FuncData
  F_reached_places : FnP K "reached_places" s_reached_places a_reached_places d_reached_places
  g_reached_places : mg "reached_places" = some (.ref a_reached_places)
  a_is_piece : Addr
  d_is_piece : FuncData
  F_is_piece : FnP K "is_piece" s_is_piece a_is_piece d_is_piece
  g_is_piece : mg "is_piece" = some (.ref a_is_piece)
  a_holds : Addr
  d_holds : FuncData
  F_holds : FnP K "holds" s_holds a_holds d_holds
  g_holds : mg "holds" = some (.ref a_holds)
  a_first_places : Addr
  d_first_places : FuncData
  F_first_places : FnP K "first_places" s_first_places a_first_places d_first_places
  g_first_places : mg "first_places" = some (.ref a_first_places)
  a_last_places : Addr
  d_last_places : FuncData
  F_last_places : FnP K "last_places" s_last_places a_last_places d_last_places
  g_last_places : mg "last_places" = some (.ref a_last_places)
  a__law_tape : Addr
  d__law_tape : FuncData
  F__law_tape : FnP K "_law_tape" s__law_tape a__law_tape d__law_tape
  g__law_tape : mg "_law_tape" = some (.ref a__law_tape)
  a__law_pick : Addr
  d__law_pick : FuncData
  F__law_pick : FnP K "_law_pick" s__law_pick a__law_pick d__law_pick
  g__law_pick : mg "_law_pick" = some (.ref a__law_pick)
  a__law_one_of : Addr
  d__law_one_of : FuncData
  F__law_one_of : FnP K "_law_one_of" s__law_one_of a__law_one_of d__law_one_of
  g__law_one_of : mg "_law_one_of" = some (.ref a__law_one_of)
  a__law_drawn_text : Addr
  d__law_drawn_text : FuncData
  F__law_drawn_text : FnP K "_law_drawn_text" s__law_drawn_text a__law_drawn_text d__law_drawn_text
  g__law_drawn_text : mg "_law_drawn_text" = some (.ref a__law_drawn_text)
  a__law_holds : Addr
  d__law_holds : FuncData
  F__law_holds : FnP K "_law_holds" s__law_holds a__law_holds d__law_holds
  g__law_holds : mg "_law_holds" = some (.ref a__law_holds)
  a__law_refused : Addr
  d__law_refused : FuncData
  F__law_refused : FnP K "_law_refused" s__law_refused a__law_refused d__law_refused
  g__law_refused : mg "_law_refused" = some (.ref a__law_refused)
  a__law_first : Addr
  d__law_first : FuncData
  F__law_first : FnP K "_law_first" s__law_first a__law_first d__law_first
  g__law_first : mg "_law_first" = some (.ref a__law_first)
  a_law : Addr
  d_law : FuncData
  F_law : FnP K "law" s_law a_law d_law
  g_law : mg "law" = some (.ref a_law)
  C_BadText : Addr
  fI_BadText : Addr
  dI_BadText : FuncData
  I_BadText : FunD K "__init__" "BadText.__init__" (defArgs si_BadText) (defBody si_BadText) (defScope si_BadText) [] [] fI_BadText dI_BadText
  m_BadText : mg "BadText" = some (.ref C_BadText)
  E_BadText : ErrC K C_BadText fI_BadText
  C_NoPiece : Addr
  fI_NoPiece : Addr
  dI_NoPiece : FuncData
  I_NoPiece : FunD K "__init__" "NoPiece.__init__" (defArgs si_NoPiece) (defBody si_NoPiece) (defScope si_NoPiece) [] [] fI_NoPiece dI_NoPiece
  m_NoPiece : mg "NoPiece" = some (.ref C_NoPiece)
  E_NoPiece : ErrC K C_NoPiece fI_NoPiece
  x_BadText_BadText : PySem.W.exmOne K (.ref C_BadText) (.ref C_BadText) = some true
  x_BadText_NoPiece : PySem.W.exmOne K (.ref C_BadText) (.ref C_NoPiece) = some false
  x_NoPiece_BadText : PySem.W.exmOne K (.ref C_NoPiece) (.ref C_BadText) = some false
  x_NoPiece_NoPiece : PySem.W.exmOne K (.ref C_NoPiece) (.ref C_NoPiece) = some true
  n_isinstance : mg "isinstance" = none
  n_str : mg "str" = none
  n_all : mg "all" = none
  n_int : mg "int" = none
  n_bool : mg "bool" = none
  n_range : mg "range" = none
  n_reversed : mg "reversed" = none
  n_len : mg "len" = none
  n_list : mg "list" = none
  n_min : mg "min" = none
  n_max : mg "max" = none
  n_repr : mg "repr" = none
  n_enumerate : mg "enumerate" = none
  t_ALPHABET : Tok
  c_ALPHABET : mg "ALPHABET" = some (.str v_ALPHABET t_ALPHABET)
/-! ### errors made, raised -/
def spInit (K : PySem.W.Frag) : Sp := fun vs H Q _ => ∃ (a C : Addr) (v : V), vs = [.ref a, v] ∧ OexC K C ∧ PySem.W.findIn K (.ref C) "value" = some none ∧ H a = some (exo a C none) ∧
  ∀ dx, H dx = none → dx ≠ a → Q .non (upd (upd H dx (exd dx [("value", v)])) a (exo a C (some dx)))
theorem del_upd {H : Hp} {a d C : Addr} {u u2 : HO} (ha : H a = none) (hd : d ≠ a) : upd (del (upd (upd (upd H a u) d u2) a (exo a C (some d))) a) d (.xd [("value", (v : V))]) = upd H d (.xd [("value", v)]) := by
  funext b
  by_cases h1 : b = d
  · rw [h1, upd_same, upd_same]
  · rw [upd_ne h1, upd_ne h1]
    by_cases h2 : b = a
    · rw [h2, del_same, ha]
    · rw [del_ne h2, upd_ne h2, upd_ne h1, upd_ne h2]
abbrev nm_init_BadText : List Str := ["self", "value"]
theorem sc_init_BadText : FnScope nm_init_BadText ["self", "value"] (defScope si_BadText) := ⟨rfl, rfl, rfl, by decide +kernel, rfl, by decide +kernel, by decide +kernel⟩
theorem b_init_BadText {K : PySem.W.Frag} {mg : Str → Option Value} (T : Txt K mg) : Binds K T.dI_BadText ["self", "value"] [] := T.I_BadText.bindsN fun _ _ _ _ _ _ us hl => match us, hl with | [_, _], _ => rfl
theorem ok_init_BadText {P : Program} {w : World} {K : PySem.W.Frag} {mg : Str → Option Value} {base : Heap} (T : Txt K mg) : FnOk P w K mg base CX0 1 T.fI_BadText T.dI_BadText ["self", "value"] (spInit K) := by
  refine T.I_BadText.ok sc_init_BadText (fun vs H Q E h => ?_) (fun cdv A outer s H vs Q E hr h => ⟨_, PSs.nox (pss_one (ps_ost (pv 0) (pv 1))), ?_⟩)
  · obtain ⟨a, C, v, rfl, _⟩ := h
    rfl
  · obtain ⟨a, C, v, rfl, hC, hn, ha, k⟩ := h
    exact ⟨_, rfl, _, rfl, a, C, rfl, hC, hn, .inl ⟨ha, k⟩⟩
abbrev nm_init_NoPiece : List Str := ["self", "value"]
theorem sc_init_NoPiece : FnScope nm_init_NoPiece ["self", "value"] (defScope si_NoPiece) := ⟨rfl, rfl, rfl, by decide +kernel, rfl, by decide +kernel, by decide +kernel⟩
theorem b_init_NoPiece {K : PySem.W.Frag} {mg : Str → Option Value} (T : Txt K mg) : Binds K T.dI_NoPiece ["self", "value"] [] := T.I_NoPiece.bindsN fun _ _ _ _ _ _ us hl => match us, hl with | [_, _], _ => rfl
theorem ok_init_NoPiece {P : Program} {w : World} {K : PySem.W.Frag} {mg : Str → Option Value} {base : Heap} (T : Txt K mg) : FnOk P w K mg base CX0 1 T.fI_NoPiece T.dI_NoPiece ["self", "value"] (spInit K) := by
  refine T.I_NoPiece.ok sc_init_NoPiece (fun vs H Q E h => ?_) (fun cdv A outer s H vs Q E hr h => ⟨_, PSs.nox (pss_one (ps_ost (pv 0) (pv 1))), ?_⟩)
  · obtain ⟨a, C, v, rfl, _⟩ := h
    rfl
  · obtain ⟨a, C, v, rfl, hC, hn, ha, k⟩ := h
    exact ⟨_, rfl, _, rfl, a, C, rfl, hC, hn, .inl ⟨ha, k⟩⟩
theorem mk_err {K : PySem.W.Frag} {C fI : Addr} {te : TE} {σ : L2.St} {H : Hp} {Q : XK} {v : V} (T : ErrC K C fI) (h : Evl.Ev te σ H v) (k : ∀ H1, Evl.Ex H H1 → ∀ d, H1 d = none → Q (.ref C) (some d) (upd H1 d (.xd [("value", v)]))) : tMkO C (spInit K) [] (tCons te tNil) σ H Q :=
  h H (Evl.Ex.refl H) _ fun H1 e1 => ⟨by show 1 ≤ 1000; decide, fun a ha => ⟨a, C, v, rfl, T.ox, T.noV, upd_same, fun dx hdx hne => ⟨rfl, dx, [("value", v)], upd_same, by
    rw [upd_ne hne, upd_same], by
    rw [upd_ne hne] at hdx
    exact hdx, by
    rw [upd_ne hne] at hdx
    rw [del_upd ha hne]
    exact k H1 e1 dx hdx⟩⟩⟩
/-! ### several clauses, each with a name -/
section
open PySem.HandSPX
/-- what such clauses wish of what flies out of the body -/
def wNames (K : PySem.W.Frag) (Wo : WX) (D : Ends) : List (Value × Nat × (Addr → Value → Option Addr → TS)) → WX
  | [] => Wo
  | (c, i, ts) :: r => fun kl dd σ H => ∃ b, PySem.W.exmOne K kl c = some b ∧
      (b = true → ∀ a, H a = none → ts a kl dd { nx := fun σ9 H9 => D.nx (σ9.set i none) H9, rt := D.rt, bk := fun σ9 H9 => D.bk (σ9.set i none) H9, ct := fun σ9 H9 => D.ct (σ9.set i none) H9 } (σ.set i (some (.ref a))) H) ∧ (b = false → wNames K Wo D r kl dd σ H)
inductive HdsN (X : Cx) : List ExceptHandler → List (Value × Nat × (Addr → Value → Option Addr → TS)) → Prop
  | nil : HdsN X [] []
  | cons {x y : Str} {c : Value} {i : Nat} {ts : Addr → Value → Option Addr → TS} {st0 : Stmt} {sts : List Stmt} {p1 p2 : Pos} {hs : List ExceptHandler} {l : List (Value × Nat × (Addr → Value → Option Addr → TS))} (hc : Names X x c) (hi : X.N[i]? = some y) (hl : X.env.kindOf y = some .local)
      (su : ∀ (a : Addr) (oe : Obj) (kl : Value) (dd : Option Addr) (pn : List (Addr × Obj)), Zc kl dd oe → (∃ vs, oe.data = .fields vs) → PSs (X.suite a ((a, oe) :: pn)) (st0 :: sts) (ts a kl dd)) (r : HdsN X hs l) :
      HdsN X (.ExceptHandler (some (.Name x p1)) (some y) (st0 :: sts) p2 :: hs) ((c, i, ts) :: l)
variable {X : Cx} {bd : List Stmt} {hd0 : ExceptHandler} {hdl : List ExceptHandler} {l : List (Value × Nat × (Addr → Value → Option Addr → TS))} {pos : Pos} {tb : WX → TS} {Wo : WX}
theorem ps_try_names (hst : X.stack = X.env :: X.outer) (hfl : X.env.frame = some X.env.locals) (hN : X.N.Nodup) (tk : Takes X Wo)
    (hbd : ∀ (W : WX) (pn : List (Addr × Obj)) (xe : Value → Shared → Prop), Takes (X.tr pn xe) W → PassesOwn (model X.prog X.w) X.A X.env xe → PSs (X.tr pn xe) bd (tb W))
    (hh : HdsN X (hd0 :: hdl) l) : PS X (.Try bd (hd0 :: hdl) [] [] pos) (fun D σ H => tb (wNames X.K Wo D l) D σ H) := by
  refine ⟨fun pins s σ H D I hyp => ?_⟩
  have okX := I.ok
  have frX : X.A.frames = some (X.env :: X.outer) := okX.frames.trans (by rw [hst])
  refine wpAny_Try_except ?_
  refine wpAny_mono ((hbd (wNames X.K Wo D l) (X.pn ++ pins) (fun ev sa => wpAny (model X.prog X.w) X.A (noteFrame ev X.env) (fun _ sb => wpAny (model X.prog X.w) X.A (setFlight ev none) (fun _ sc =>
    wpAny (model X.prog X.w) X.A (handleBy ev X.env (hd0 :: hdl)) (SP X pins D) X.xe sc) X.xe sb) X.xe sa) (fun u sz xx => ?_) PassesOwn.looking).run [] s σ H D (I.toTry _) hyp) (fun fl sz hz => ?_) (fun ev sz he => he)
  · -- it is caught
    obtain ⟨a, B, sJ, pins9, σ9, H9, kl, dd, rfl, JT, nb, gr, air, n0, o0, g0, w⟩ := xx
    have J : Inv X pins σ9 H9 sJ := JT.ofTry okX
    have air2 : Sky B (X.env :: X.outer) a (Zc kl dd) X.env.locals sz.heap := by
      rw [← hst]
      exact air
    show wpAny (model X.prog X.w) X.A (noteFrame (.ref a) X.env) _ _ _
    refine Sky.land Zc.steady frX hfl air2 fun h3 fly3 gr3 => ?_
    have J3 : Inv X pins σ9 H9 { sz with heap := h3 } := J.landed nb fly3.1 (gr.trans gr3) o0 g0
    obtain ⟨ob3, vs3, at3, z3, dat3⟩ := fly3.there
    have offFr : ∀ {hp : Heap} {o : Obj} {vs : Array Value}, hp.FunFrames B (X.env :: X.outer) → hp.get? a = some o → o.data = .fields vs → a ∉ frs (X.env :: X.outer) := fun {hp o vs} ff e1 e2 hm => by
      obtain ⟨_, o2, e3, hnf⟩ := ff.mem hm
      rw [e1] at e3
      cases e3
      exact hnf _ e2
    have nfr := offFr fly3.2.2.1 at3 dat3
    have nL : a ≠ X.env.locals := fun z => nfr (List.mem_filterMap.mpr ⟨X.env, List.mem_cons_self, by rw [hfl, z]⟩)
    have nF : a ∉ X.fs := fun hm => by
      obtain ⟨en, hen, q⟩ := List.mem_filterMap.mp hm
      exact nfr (List.mem_filterMap.mpr ⟨en, List.mem_cons_of_mem _ hen, q⟩)
    have S3 := J3.suite at3 dat3 n0 nL nF
    have go : ∀ {hs2 : List ExceptHandler} {l2 : List (Value × Nat × (Addr → Value → Option Addr → TS))}, HdsN X hs2 l2 → wNames X.K Wo D l2 kl dd σ9 H9 →
        wpAny (model X.prog X.w) X.A (handleBy (.ref a) X.env hs2) (SP X pins D) X.xe { sz with heap := h3 } := by
      intro hs2 l2 hk
      induction hk with
      | nil =>
        intro w
        refine wpAny_handleBy_nil ?_
        obtain ⟨q1, q2, q3, oe, vs, Tb, oT, tsv, e1, e2, e3, e4, _⟩ := id fly3
        unfold PySem.passOn
        refine wpAny_bind (wpAny_field e1 e3 e4 ?_)
        rw [if_neg (show ¬ ((Value.ref Tb == Value.none) = true) from by simp)]
        have last : wpAny (model X.prog X.w) X.A (setFlight (.ref a) X.env.frame) (fun _ s4 => wpAny (model X.prog X.w) X.A (throw (.ref a) : Sem Flow) (SP X pins D) X.xe s4) X.xe { sz with heap := h3 } := by
          rw [hfl]
          refine HandSPX.setFlight_upZ fly3 fun h4 held4 gr4 => wpAny_throw (tk _ _ ?_)
          exact ⟨a, B, sJ, pins, σ9, H9, kl, dd, rfl, J, nb, (gr.trans gr3).trans gr4, .inr (.inr (by rw [hst]; exact held4)), n0, o0, g0, w⟩
        first
          | exact wpAny_bind (wpAny_pure (wpAny_bind last))
          | exact wpAny_bind last
      | @cons x y c i ts st0 sts p1 p2 hs3 l3 hc hi hl su r ih =>
        intro w
        obtain ⟨b, hb1, yes, no⟩ := w
        refine wpAny_handleBy_cons (codeAny_handlers_test ?_) (by intro q; cases q)
        have LT : PySem.W.Looks (model X.prog X.w) h3 (typeOf (.ref a)) kl := fun A Q E s kp q => wpAny_typeOf_ref (kp _ _ at3) (by rw [z3.1]; exact q)
        have LM := PySem.W.exm_one (M := model X.prog X.w) (J3.kIn) LT hb1
        have asks : ∀ {Q : Value → Shared → Prop} {E : Value → Shared → Prop}, Q c { sz with heap := h3 } → wpAny (model X.prog X.w) (X.A.mark (some (.ref a))) (eval (.Name x p1) X.env) Q E { sz with heap := h3 } := fun {Q E} q => by
          obtain ⟨hg, nd, hm | ⟨hm, hv, hnn⟩⟩ := hc
          · exact ld_glob (X := X.suite a ((a, ob3) :: (X.pn ++ pins))) S3 hg hm q nd
          · exact ld_blt (X := X.suite a ((a, ob3) :: (X.pn ++ pins))) S3 hg hm hv q hnn nd
        refine asks (LM.here ?_)
        cases b with
        | true =>
          refine codeAny_handlers_suite_as ?_
          refine HandSPX.lands_againZ fly3 fun h4 fly4 gr4 => ?_
          have J4 : Inv X pins σ9 H9 { sz with heap := h4 } := J.landed nb fly4.1 ((gr.trans gr3).trans gr4) o0 g0
          obtain ⟨ob4, vs4, at4, z4, dat4⟩ := fly4.there
          have S4 := J4.suite at4 dat4 n0 nL nF
          refine store_ok (X := X.suite a ((a, ob4) :: (X.pn ++ pins))) (v := .ref a) S4 hN hi (.inl hl) rfl (fun s5 S5 => ?_) (.inr hl)
          refine wpAny_mono ((su a ob4 kl dd (X.pn ++ pins) z4 ⟨_, dat4⟩).run [] s5 _ H9 _ S5 (yes rfl a n0)) (fun f s6 sp6 => ?_) (fun _ _ z => False.elim z)
          have gone : ∀ {σ6 : L2.St} {H6 : Hp} {Q : Shared → Prop}, Inv (X.suite a ((a, ob4) :: (X.pn ++ pins))) [] σ6 H6 s6 → (∀ s7, Inv X pins (σ6.set i none) H6 s7 → Q s7) →
              wpAny (model X.prog X.w) X.A (do bindName X.env y .none; unbindBehindTheSuite X.env y p2) (fun _ s7 => Q s7) X.xe s6 := fun {σ6 H6 Q} S6 hq => gone_ok (S6.unsuite okX) hN hi hl hq
          cases f with
          | next =>
            obtain ⟨σ6, H6, S6, q6⟩ := sp6
            exact gone S6 fun s7 J7 => ⟨_, _, J7, q6⟩
          | brk =>
            obtain ⟨σ6, H6, S6, q6⟩ := sp6
            exact gone S6 fun s7 J7 => ⟨_, _, J7, q6⟩
          | cont =>
            obtain ⟨σ6, H6, S6, q6⟩ := sp6
            exact gone S6 fun s7 J7 => ⟨_, _, J7, q6⟩
          | ret u =>
            obtain ⟨v6, σ6, H6, S6, r6, q6⟩ := sp6
            exact gone S6 fun s7 J7 => ⟨_, _, _, J7, r6, q6⟩
        | false =>
          show wpAny _ X.A (handleBy (.ref a) X.env hs3) _ _ _
          exact ih (no rfl)
    exact go hh w
  · cases fl with
    | next =>
      obtain ⟨σ9, H9, JT, q⟩ := hz
      exact wpAny_execs_nil ⟨σ9, H9, JT.ofTry okX, q⟩
    | brk =>
      obtain ⟨σ9, H9, JT, q⟩ := hz
      exact ⟨σ9, H9, JT.ofTry okX, q⟩
    | cont =>
      obtain ⟨σ9, H9, JT, q⟩ := hz
      exact ⟨σ9, H9, JT.ofTry okX, q⟩
    | ret u =>
      obtain ⟨v, σ9, H9, JT, r, q⟩ := hz
      exact ⟨v, σ9, H9, JT.ofTry okX, r, q⟩
end
section
variable {X : Cx}
def CPowX (i j : Int) : Prop := 0 ≤ j ∧ ((Builtin.Int.intBits i : Nat) : Int) * j ≤ 2 ^ 27
theorem op_powX : OpR X (binaryOp .Pow) (rI CPowX fun i j => .int (i ^ j.toNat)) := opI fun _ _ _ _ _ _ _ hc q => pow_int hc.1 hc.2 q
def ipS : TIp := fun x y H Q => ∃ a b, x = .str a ∧ y = .str b ∧ a.length + b.length ≤ sizeLine ∧ Q (.str (a ++ b)) H
theorem ip_add_str : PIp X .Add ipS := fun pins s σ H x y v u Q I rx ry h => iop_add_str pins s σ H x y v u Q I rx ry h
def rMulS : R2 := fun x y H Q => ∃ (a : Str) (n : Int), x = .str a ∧ y = .int n ∧ a.length ≤ 4000 ∧ 0 ≤ n ∧ n ≤ 4000 ∧ Q (.str (Txt.mul a n)) H
theorem op_mul_str : OpR X (binaryOp .Mult) rMulS := by
  intro pins s σ H x y v u Q I rx ry h
  obtain ⟨a, n, rfl, rfl, ha, h0, h1, q⟩ := h
  obtain ⟨t, rfl⟩ := rx
  obtain ⟨t2, rfl⟩ := ry
  exact SB.mul (mulOk_of 4000 4000 ha h1 (by omega) (by decide) (by decide)) fun t3 k => ⟨.str _, H, I.tok _, ⟨_, rfl⟩, q⟩
/-! the written part by its own name -/
variable {K0 : PySem.W.Frag}
theorem ixk (r : PySem.W.Frag → R2) (h : IxR X (r X.K)) (e : X.K = K0) : IxR X (r K0) := e ▸ h
theorem opk {f : Value → Value → Sem Value} (r : PySem.W.Frag → R2) (h : OpR X f (r X.K)) (e : X.K = K0) : OpR X f (r K0) := e ▸ h
theorem callk {f : Value} (r : PySem.W.Frag → List V → Hp → VK → Prop) (h : CallR X f (r X.K)) (e : X.K = K0) : CallR X f (r K0) := e ▸ h
theorem slk (r : PySem.W.Frag → V → Option Int → Option Int → Hp → VK → Prop) (h : SlR X (r X.K)) (e : X.K = K0) : SlR X (r K0) := e ▸ h
theorem pilk {tg ex : Expr} {te : TE} (h : PI X tg ex (iList X.K te)) (e : X.K = K0) : PI X tg ex (iList K0 te) := e ▸ h
theorem pitk {tg ex : Expr} {te : TE} (h : PI X tg ex (iTup X.K te)) (e : X.K = K0) : PI X tg ex (iTup K0 te) := e ▸ h
theorem tbmk {ex : Expr} {n : String} {r : V → List V → Hp → VK → Prop} {to : TE} {t : TA} (h : PE X ex (tBM X.K n r to t)) (e : X.K = K0) : PE X ex (tBM K0 n r to t) := e ▸ h
theorem tbmk0 {ex : Expr} {n : String} {r : V → List V → Hp → VK → Prop} {to : TE} (h : PE X ex (tBM0 X.K n r to)) (e : X.K = K0) : PE X ex (tBM0 K0 n r to) := e ▸ h
theorem revk {ex : Expr} {te : TE} (h : PE X ex (tRevL X.K te)) (e : X.K = K0) : PE X ex (tRevL K0 te) := e ▸ h
def rLenQ (K : PySem.W.Frag) : List V → Hp → VK → Prop := fun xs H Q => ∃ p ys, xs = [.ref p] ∧ (SqL K H p ys ∨ SqT K H p ys) ∧ Q (.int ys.length) H
def rLenT : List V → Hp → VK → Prop := fun xs H Q => ∃ z : Str, xs = [.str z] ∧ z.length ≤ sizeLine ∧ Q (.int z.length) H
def rListQ (K : PySem.W.Frag) : List V → Hp → VK → Prop := fun xs H Q => ∃ p ys, xs = [.ref p] ∧ (SqL K H p ys ∨ SqT K H p ys) ∧ ∀ l, H l = none → Q (.ref l) (upd H l (.lst ys))
theorem call_len_q : CallR X (.builtin "len") (rLenQ X.K) := call_len_seq
theorem call_len_t : CallR X (.builtin "len") rLenT := call_len_str
theorem call_list_q : CallR X (.type "list") (rListQ X.K) := call_list_of
def rIntQ : List V → Hp → VK → Prop := fun xs H Q => (∃ i, xs = [.int i] ∧ Q (.int i) H) ∨ ∃ k, xs = [.bl k] ∧ Q (.int (if k then 1 else 0)) H
theorem call_int_q : CallR X (.type "int") rIntQ := call_int1
def rMaxQ : List V → Hp → VK → Prop := fun xs H Q => ∃ i j, xs = [.int i, .int j] ∧ Q (.int (if j > i then j else i)) H
theorem call_max_q (hc : X.calm = true) : CallR X (.builtin "max") rMaxQ := call_max2 hc
def rMinQ : List V → Hp → VK → Prop := fun xs H Q => ∃ i j, xs = [.int i, .int j] ∧ Q (.int (if j < i then j else i)) H
theorem call_min_q (hc : X.calm = true) : CallR X (.builtin "min") rMinQ := call_min2 hc
def rDictQ : List V → Hp → VK → Prop := fun xs H Q => ∃ (a : Addr) (kvs : List (Key × V)), xs = [.ref a] ∧ Rd H a (.dK kvs) ∧ ∀ p, H p = none → Q (.ref p) (upd H p (.dK kvs))
theorem call_dict_q : CallR X (.type "dict") rDictQ := call_dictD
def rFind3 : V → List V → Hp → VK → Prop := fun x xs H Q => ∃ (a b : Str) (i : Int), x = .str a ∧ xs = [.str b, .int i] ∧ Q (.int (Txt.find3 a b i)) H
theorem mt_find_q : MtR X "str.find" rFind3 := mt_find3
end
theorem bits_le {i : Int} {n : Nat} (h : i.natAbs < 2 ^ n) (h0 : 0 < n) : Builtin.Int.intBits i ≤ n := by
  have x := PySem.Flt.log2_lt_of h0 h
  unfold Builtin.Int.intBits
  split <;> omega
theorem of_bits {i : Int} {n : Nat} (h : Builtin.Int.intBits i ≤ n) : i.natAbs < 2 ^ n := by
  unfold Builtin.Int.intBits at h
  split at h
  · rename_i e
    have e2 : i.natAbs = 0 := by
      first
        | exact e
        | omega
        | simp_all
    rw [e2]
    exact Nat.two_pow_pos n
  · rename_i e
    have hz : i.natAbs ≠ 0 := by
      first
        | exact e
        | omega
        | (intro z; simp_all)
    exact (Nat.log2_lt hz).mp (by omega)
/-! ### walks and comprehensions, by what their items are worth -/
section
open Evl
variable {K : PySem.W.Frag} {σ : L2.St} {H H' : Hp} {te : TE} {tt : TT} {x y z v : V} {D : Ends} {tu tz : TS}
/-- what is walked gives n items, item 0, item 1, .., and the heap may grow meanwhile -/
def EvW (wi : TI) (σ : L2.St) (H : Hp) (n : Nat) (item : Nat → V) : Prop := ∀ H1, Ex H H1 → ∀ R : It → Hp → Prop, (∀ H2, Ex H1 H2 → ∀ (J : It) (G : Hp → Prop) (Y : Nat → Hp → V → Hp → Prop), Walk J n G Y → (∀ i H3 w H4, i < n → Y i H3 w H4 → H4 = H3 ∧ w = item i) → (∀ H3, Ex H2 H3 → G H3) → R J H2) → wi σ H1 R
theorem ew_str {w : Str} (h : Ev te σ H (.str w)) : EvW (iStr te) σ H w.cps.size (fun i => .str ⟨#[w.cps.getD i 0]⟩) := fun H1 e R k =>
  h H1 e _ fun H2 e2 => ⟨w, rfl, k H2 e2 _ _ _ walk_str (fun i H3 v H4 hi ⟨h1, c, h2, h3⟩ => ⟨h1, by
    have e3 : w.cps.getD i 0 = c := by
      rw [Array.getD_eq_getD_getElem?, h2]
      rfl
    show v = V.str ⟨#[w.cps.getD i 0]⟩
    rw [h3, e3]⟩) (fun _ _ => trivial)⟩
theorem ew_list {a : Addr} {xs : List V} (h : Ev te σ H (.ref a)) (hx : SqL K H a xs) : EvW (iList K te) σ H xs.length (fun i => xs.getD i .non) := fun H1 e R k =>
  h H1 e _ fun H2 e2 => ⟨a, rfl, ⟨xs, ex_l (e.trans e2) hx⟩, k H2 e2 _ _ _ (walk_list (K := K) (a := a) (xs := xs)) (fun i H3 v H4 hi ⟨h1, h2⟩ => ⟨h1, by
    show v = xs.getD i V.non
    rw [List.getD_eq_getElem?_getD, h2]
    rfl⟩) (fun H3 e3 => ex_l ((e.trans e2).trans e3) hx)⟩
theorem ew_listN {xs : List V} (h : EvL te σ H xs) : EvW (iList K te) σ H xs.length (fun i => xs.getD i .non) := fun H1 e R k =>
  h H1 e _ fun p H2 hp e2 hx => ⟨p, rfl, ⟨xs, sq_of hx⟩, k H2 e2 _ _ _ (walk_list (K := K) (a := p) (xs := xs)) (fun i H3 v H4 hi ⟨h1, h2⟩ => ⟨h1, by
    show v = xs.getD i V.non
    rw [List.getD_eq_getElem?_getD, h2]
    rfl⟩) (fun H3 e3 => sq_of (e3 p _ hx))⟩
theorem ew_rng1 {ta : TA} {n : Int} (h : EvA ta σ H [.int n]) (hn : -100000 ≤ n ∧ n ≤ 100000) : EvW (iRng1 ta) σ H n.toNat (fun i => .int (i : Nat)) := fun H1 e R k =>
  h H1 e _ fun H2 e2 => ⟨n, rfl, by omega, by omega, k H2 e2 _ _ _ (walk_range (lo := 0) (n := n.toNat)) (fun i H3 v H4 hi ⟨h1, h2⟩ => ⟨h1, by
    show v = V.int (i : Nat)
    rw [← Int.zero_add ((i : Nat) : Int)]
    exact h2⟩) (fun _ _ => trivial)⟩
theorem ew_rng2 {ta : TA} {lo hi : Int} (h : EvA ta σ H [.int lo, .int hi]) (hn : -100000 ≤ lo ∧ lo ≤ 100000 ∧ -100000 ≤ hi ∧ hi ≤ 100000) : EvW (iRng2 ta) σ H (hi - lo).toNat (fun i => .int (lo + (i : Nat))) := fun H1 e R k =>
  h H1 e _ fun H2 e2 => ⟨lo, hi, rfl, ⟨by omega, by omega, by omega, by omega⟩, k H2 e2 _ _ _ (walk_range (lo := lo) (n := (hi - lo).toNat)) (fun i H3 v H4 hi ⟨h1, h2⟩ => ⟨h1, h2⟩) (fun _ _ => trivial)⟩
/-- a comprehension, its target a name, whose items and tests are worth what f and v say -/
theorem el_lcW {wi : TI} {n : Nat} {item : Nat → V} {j : Nat} {vs : List Nat} (f : Nat → Bool) (v : Nat → V) (h : EvW wi σ H n item) (hz : n ≤ 40000) (hw : ∀ x, wipe ((wipe σ vs).set j (some x)) vs = wipe σ vs)
    (ht : ∀ (i : Nat) H1, Ex H H1 → i < n → EvT tt ((wipe σ vs).set j (some (item i))) H1 (f i)) (he : ∀ (i : Nat) H1, Ex H H1 → i < n → f i = true → Ev te ((wipe σ vs).set j (some (item i))) H1 (v i)) :
    EvL (tLc wi (gName j) tt te vs) σ H (given n f v) := fun H0 e Q q => h H0 e _ fun H1 e1 J G Y w hy hG Dl hD => by
  refine lc_it w (Cw H1 f v Dl) ⟨hD, Ex.new hD, upd_same⟩ (fun i H3 _ p => hG H3 p.2.1) (fun i x H3 H4 hi p y => ?_) (fun H3 p => q Dl H3 (fresh_back e1 p.1) (e1.trans p.2.1) p.2.2)
  obtain ⟨rfl, rfl⟩ := hy i H3 x H4 hi y
  exact ⟨hw _, cw_turn p (by omega) (ht i H1 (e.trans e1) hi) (fun hf => he i H1 (e.trans e1) hi hf)⟩
/-- a built-in's call upon a new list -/
theorem ev_cbL {r : List V → Hp → VK → Prop} {xs : List V} (h : EvL te σ H xs) (hr : ∀ p H1, Ex H H1 → H1 p = some (.lst xs) → ∀ Q : VK, (∀ H2, Ex H1 H2 → Q z H2) → r [.ref p] H1 Q) : Ev (tCB r (tCons te tNil)) σ H z := fun H1 e Q q =>
  h H1 e _ fun p H2 hp e2 hx => hr p H2 (e.trans e2) hx Q fun H3 e3 => q H3 (e2.trans e3)
theorem et_yes {H1 : Hp} : EvT tYes σ H1 true := fun H2 _ _ q => q H2 (Ex.refl H2)
/-- without a test -/
theorem el_lcY {wi : TI} {n : Nat} {item : Nat → V} {j : Nat} {vs : List Nat} (v : Nat → V) (h : EvW wi σ H n item) (hz : n ≤ 40000) (hw : ∀ x, wipe ((wipe σ vs).set j (some x)) vs = wipe σ vs)
    (he : ∀ (i : Nat) H1, Ex H H1 → i < n → Ev te ((wipe σ vs).set j (some (item i))) H1 (v i)) : EvL (tLc wi (gName j) tYes te vs) σ H ((List.range n).map v) := by
  have e : (List.range n).map v = given n (fun _ => true) v := by
    unfold given
    rw [List.filter_eq_self.mpr fun _ _ => rfl]
  rw [e]
  exact el_lcW (fun _ => true) v h hz hw (fun i H1 e1 hi => et_yes) (fun i H1 e1 hi _ => he i H1 e1 hi)
/-- the same where nothing that is walked can change -/
def EvWT (wi : TI) (σ : L2.St) (H : Hp) (n : Nat) (item : Nat → V) : Prop := ∀ H1, Ex H H1 → ∀ R : It → Hp → Prop, (∀ H2, Ex H1 H2 → ∀ (J : It) (Y : Nat → Hp → V → Hp → Prop), Walk J n (fun _ => True) Y → (∀ i H3 w H4, i < n → Y i H3 w H4 → H4 = H3 ∧ w = item i) → R J H2) → wi σ H1 R
theorem et_str {w : Str} (h : Ev te σ H (.str w)) : EvWT (iStr te) σ H w.cps.size (fun i => .str ⟨#[w.cps.getD i 0]⟩) := fun H1 e R k =>
  h H1 e _ fun H2 e2 => ⟨w, rfl, k H2 e2 _ _ walk_str (fun i H3 v H4 hi ⟨h1, c, h2, h3⟩ => ⟨h1, by
    have e3 : w.cps.getD i 0 = c := by
      rw [Array.getD_eq_getD_getElem?, h2]
      rfl
    show v = V.str ⟨#[w.cps.getD i 0]⟩
    rw [h3, e3]⟩)⟩
theorem et_rng1 {ta : TA} {n : Int} (h : EvA ta σ H [.int n]) (hn : -100000 ≤ n ∧ n ≤ 100000) : EvWT (iRng1 ta) σ H n.toNat (fun i => .int (i : Nat)) := fun H1 e R k =>
  h H1 e _ fun H2 e2 => ⟨n, rfl, by omega, by omega, k H2 e2 _ _ (walk_range (lo := 0) (n := n.toNat)) (fun i H3 v H4 hi ⟨h1, h2⟩ => ⟨h1, by
    show v = V.int (i : Nat)
    rw [← Int.zero_add ((i : Nat) : Int)]
    exact h2⟩)⟩
theorem et_rng2 {ta : TA} {lo hi : Int} (h : EvA ta σ H [.int lo, .int hi]) (hn : -100000 ≤ lo ∧ lo ≤ 100000 ∧ -100000 ≤ hi ∧ hi ≤ 100000) : EvWT (iRng2 ta) σ H (hi - lo).toNat (fun i => .int (lo + (i : Nat))) := fun H1 e R k =>
  h H1 e _ fun H2 e2 => ⟨lo, hi, rfl, ⟨by omega, by omega, by omega, by omega⟩, k H2 e2 _ _ (walk_range (lo := lo) (n := (hi - lo).toNat)) (fun i H3 v H4 hi ⟨h1, h2⟩ => ⟨h1, h2⟩)⟩
/-- reversed(range(n)) -/
theorem et_rev1 {n : Int} (h : Ev te σ H (.int n)) (hn : 0 ≤ n ∧ n ≤ 100000) : EvWT (iRevR (tRg1 te)) σ H n.toNat (fun i => .int (n - 1 - (i : Nat))) := fun H1 e R k =>
  h H1 e _ fun H2 e2 => ⟨n, rfl, by omega, by omega, by omega, by omega, by
    have en : (n - 0).toNat = n.toNat := by omega
    rw [en]
    exact k H2 e2 _ _ (walk_rangeC (n := n.toNat)) (fun i H3 v H4 hi ⟨h1, h2⟩ => ⟨h1, by
      show v = V.int (n - 1 - (i : Nat))
      have e4 : n - 1 - ((i : Nat) : Int) = 0 + (((n.toNat : Nat) : Int)) - 1 + ((i : Nat) : Int) * -1 := by omega
      rw [e4]
      exact h2⟩)⟩
/-- a for whose target is a name -/
theorem s_forN {wi : TI} {n : Nat} {item : Nat → V} {j : Nat} (h : EvWT wi σ H n item) (Pv : Nat → L2.St → Hp → Prop) (h0 : ∀ H1, Ex H H1 → Pv 0 σ H1)
    (hs : ∀ i σ' H', i < n → Pv i σ' H' → tu { D with nx := Pv (i + 1), ct := Pv (i + 1), bk := D.nx } (σ'.set j (some (item i))) H') (hd : ∀ σ' H', Pv n σ' H' → D.nx σ' H') : tFor wi (gName j) tu D σ H :=
  h H (Ex.refl H) _ fun H2 e2 J Y w hy => for_it w Pv (h0 H2 e2) (fun _ _ _ _ _ => trivial) (fun i x σ' H3 H4 hi p y => by
    obtain ⟨rfl, rfl⟩ := hy i H3 x H4 hi y
    exact hs i σ' _ hi p) hd
theorem q_forN {wi : TI} {n : Nat} {item : Nat → V} {j : Nat} (h : EvWT wi σ H n item) (Pv : Nat → L2.St → Hp → Prop) (h0 : ∀ H1, Ex H H1 → Pv 0 σ H1)
    (hs : ∀ i σ' H', i < n → Pv i σ' H' → tu { D with nx := Pv (i + 1), ct := Pv (i + 1), bk := tz D } (σ'.set j (some (item i))) H') (hd : ∀ σ' H', Pv n σ' H' → tz D σ' H') : tSeq (tFor wi (gName j) tu) tz D σ H :=
  s_forN (D := { D with nx := tz D }) h Pv h0 hs hd
end
/-! ### the draws -/
def tapeO (d m : Int) : HO := .dK [((Sum.inr "digits" : Key), V.int d), ((Sum.inr "mixed" : Key), V.int m)]
structure TapeOk (d m : Int) : Prop where
  d0 : 0 ≤ d
  dB : d.natAbs < 2 ^ 1048576
  m0 : 0 ≤ m
  mB : m < 4294967296
def spTape (K : PySem.W.Frag) : Sp := fun vs H Q _ => ∃ (a : Addr) (ns : List Int) (st : Int), vs = [.ref a, .int st] ∧ SqL K H a (ns.map V.int) ∧ ns.length ≤ 63 ∧ (∀ z ∈ ns, Builtin.Int.intBits z ≤ 1048576) ∧ 0 ≤ st ∧ st ≤ 100 ∧
  ∀ p d m, H p = none → TapeOk d m → Q (.ref p) (upd H p (tapeO d m))
def spPick : Sp := fun vs H Q _ => ∃ (tp : Addr) (d m many : Int), vs = [.ref tp, .int many] ∧ H tp = some (tapeO d m) ∧ TapeOk d m ∧ 1 ≤ many ∧ many.natAbs < 2 ^ 1000 ∧
  ∀ r d' m', 0 ≤ r → r < many → TapeOk d' m' → Q (.int r) (upd H tp (tapeO d' m'))
theorem small_bits {i : Int} (h : i.natAbs < 2 ^ 64) : Builtin.Int.intBits i ≤ 64 := bits_le h (by decide)
theorem sDM : ¬ (("mixed" : Str) = "digits") := by decide +kernel
theorem kDM : ¬ ((Sum.inr ("mixed" : Str) : Key) = Sum.inr ("digits" : Str)) := fun h => sDM (Sum.inr.inj h)
theorem kMD : ¬ ((Sum.inr ("digits" : Str) : Key) = Sum.inr ("mixed" : Str)) := fun h => sDM (Sum.inr.inj h).symm
theorem tape_d {H : Hp} {tp : Addr} {d m : Int} (h : H tp = some (tapeO d m)) : DGet H tp (.str "digits") (some (.int d)) := by
  have e := DGet.k (k := (Sum.inr "digits" : Key)) h
  rw [valV_pos rfl] at e
  exact e
theorem tape_m {H : Hp} {tp : Addr} {d m : Int} (h : H tp = some (tapeO d m)) : DGet H tp (.str "mixed") (some (.int m)) := by
  have e := DGet.k (k := (Sum.inr "mixed" : Key)) h
  rw [valV_neg kMD, valV_pos rfl] at e
  exact e
theorem tape_pd {H : Hp} {tp : Addr} {d m x : Int} (h : H tp = some (tapeO d m)) : DPut H tp (.str "digits") (.int x) (upd H tp (tapeO x m)) := by
  have e := DPut.k (k := (Sum.inr "digits" : Key)) (v := V.int x) h (by show 2 < sizeLine; decide)
  have ep : putK [((Sum.inr "digits" : Key), V.int d), ((Sum.inr "mixed" : Key), V.int m)] (Sum.inr "digits") (V.int x) = [((Sum.inr "digits" : Key), V.int x), ((Sum.inr "mixed" : Key), V.int m)] := by
    simp [putK, sDM]
  rw [ep] at e
  exact e
theorem tape_pm {H : Hp} {tp : Addr} {d m x : Int} (h : H tp = some (tapeO d m)) : DPut H tp (.str "mixed") (.int x) (upd H tp (tapeO d x)) := by
  have e := DPut.k (k := (Sum.inr "mixed" : Key)) (v := V.int x) h (by show 2 < sizeLine; decide)
  have ep : putK [((Sum.inr "digits" : Key), V.int d), ((Sum.inr "mixed" : Key), V.int m)] (Sum.inr "mixed") (V.int x) = [((Sum.inr "digits" : Key), V.int d), ((Sum.inr "mixed" : Key), V.int x)] := by
    simp [putK, Ne.symm sDM]
  rw [ep] at e
  exact e
theorem pow_small {i j : Int} (hi : i.natAbs < 2 ^ 64) (h0 : 0 ≤ j) (h1 : j ≤ 100) : CPowX i j := by
  refine ⟨h0, ?_⟩
  have h := small_bits hi
  have e27 : (2 : Int) ^ 27 = 134217728 := by decide
  rw [e27]
  have h2 : ((Builtin.Int.intBits i : Nat) : Int) * j ≤ 64 * 100 := Int.mul_le_mul (by omega) h1 h0 (by decide)
  omega
theorem mul_small {i j : Int} (hi : i.natAbs < 2 ^ 64) (hj : j.natAbs < 2 ^ 64) : CMulX i j := by
  have h1 := small_bits hi
  have h2 := small_bits hj
  show ((Builtin.Int.intBits i : Nat) : Int) + ((Builtin.Int.intBits j : Nat) : Int) ≤ 134217728
  omega
theorem div_ok {i j : Int} (h : 1 ≤ j) (hB : j.natAbs < 2 ^ 1000) : CDivW i j := wide_div (by omega) hB (by decide) (by decide)
theorem sq_bound {c : Int} {n : Nat} (h : c.natAbs < 2 ^ n) : (c * c).natAbs < 2 ^ (n + n) := wide_lt h h
theorem two_mono {a b : Nat} (h : a ≤ b) : 2 ^ a ≤ 2 ^ b := Nat.pow_le_pow_right (by decide) h
theorem mix_bound {m c : Int} {n : Nat} (hn : 64 ≤ n + n) (h0 : 0 ≤ m) (h1 : m < 4294967296) (hc : c.natAbs < 2 ^ n) : (m * 30029 + c * c + 13).natAbs < 2 ^ (n + n + 2) := by
  have h2 := sq_bound hc
  have e3 : 2 ^ (n + n + 2) = 2 ^ (n + n) * 4 := Nat.pow_add 2 (n + n) 2
  have h4 : (2 : Nat) ^ 64 ≤ 2 ^ (n + n) := two_mono hn
  have h5 : (2 : Nat) ^ 64 = 18446744073709551616 := by decide
  rw [h5] at h4
  rw [e3]
  generalize 2 ^ (n + n) = B at *
  generalize c * c = q at *
  omega
section
variable {P : Program} {w : World} {K : PySem.W.Frag} {mg : Str → Option Value} {base : Heap}
abbrev nm__law_tape : List Str := ["script", "start", "mixed", "cell", "digits"]
theorem sc__law_tape : FnScope nm__law_tape ["script", "start"] (defScope s__law_tape) := ⟨rfl, rfl, rfl, by decide +kernel, rfl, by decide +kernel, by decide +kernel⟩
theorem b__law_tape {K : PySem.W.Frag} {mg : Str → Option Value} (T : Txt K mg) : Binds K T.d__law_tape ["script", "start"] [] := T.F__law_tape.bindsN fun _ _ _ _ _ _ us hl => match us, hl with | [_, _], _ => rfl
theorem ok__law_tape (T : Txt K mg) : FnOk P w K mg base CX0 1 T.a__law_tape T.d__law_tape ["script", "start"] (spTape K) := by
  refine T.F__law_tape.ok sc__law_tape (fun vs H Q E h => ?_) (fun cdv A outer s H vs Q E hr h => ⟨_, PSs.nox (pss_cons (ps_set (i := 2) sc__law_tape.nd rfl (by first | exact Or.inl rfl | exact Or.inr rfl) (pe_op op_add pe_int (pe_op op_mulX (pv 1) pe_int)))
      (pss_cons (ps_for PassesOwn.never rfl (pilk (K0 := K) (pi_list (pv 0)) rfl) (pg_name (i := 3) sc__law_tape.nd rfl (by first | exact Or.inl rfl | exact Or.inr rfl))
      (pss_one (ps_set (i := 2) sc__law_tape.nd rfl (by first | exact Or.inl rfl | exact Or.inr rfl) (pe_op op_add (pe_op op_mod (pe_callTy call_int_q (by rfl) T.n_int (by decide +kernel) (pa_cons (pe_op op_powX (pe_op op_add (pe_op op_add (pe_op op_mulX (pv 2) pe_int) (pe_op op_mulX (pv 3) (pv 3))) pe_int) pe_int) pa_nil)) pe_int) pe_int))))
      (pss_cons (ps_set (i := 4) sc__law_tape.nd rfl (by first | exact Or.inl rfl | exact Or.inr rfl) (pe_ifExp (PW.pt (pw_and (pt_cmpR op_lt (pv 1) (pe_callB (callk (K0 := K) rLenQ call_len_q rfl) (by rfl) T.n_len (by decide +kernel) (pa_cons (pv 0) pa_nil)) (nomark _)) (pw_and1 (pt_cmpR op_ge1 (pe_ix (ixk (K0 := K) rIxL ix_list rfl) (pv 0) (pv 1) (fun _ _ => rfl)) (pe_op op_powX pe_int pe_int) (nomark _))))) (pe_op op_sub (pe_ix (ixk (K0 := K) rIxL ix_list rfl) (pv 0) (pv 1) (fun _ _ => rfl)) (pe_op op_powX pe_int pe_int)) pe_int))
      (pss_one (ps_ret (pe_disp (pps_cons pe_str (pv 4) (pps_cons pe_str (pv 2) pps_nil)) (by rfl) (by rfl) (fun z => by cases z) (by decide))))))), ?_⟩)
  · obtain ⟨a, ns, st, rfl, _⟩ := h
    rfl
  · obtain ⟨a, ns, st, rfl, hS, hl, hb, h0, h1, k⟩ := h
    refine ⟨_, rfl, _, _, rfl, rfl, (by
      have e1 : Builtin.Int.intBits st ≤ 64 := small_bits (by omega)
      have e2 : Builtin.Int.intBits 53 ≤ 64 := small_bits (by decide)
      show ((Builtin.Int.intBits st : Nat) : Int) + ((Builtin.Int.intBits 53 : Nat) : Int) ≤ 134217728
      omega), _, _, rfl, rfl, ?_⟩
    refine ⟨_, rfl, a, rfl, ⟨_, hS⟩, for_list (K := K) (a := a) (xs := ns.map V.int) (fun i σ H2 => H2 = H ∧ ∃ (m : Int) (c : Option V), σ = [some (.ref a), some (.int st), some (.int m), c, none] ∧ 0 ≤ m ∧ m < 4294967296)
      ⟨rfl, 101 + st * 53, none, rfl, by omega, by omega⟩ (fun i σ H2 _ ⟨e, _⟩ => by rw [e]; exact hS) ?_ ?_⟩
    · rintro i y σ H2 hi ⟨rfl, m, c, rfl, hm0, hm1⟩
      obtain ⟨z, hz, rfl⟩ : ∃ z, z ∈ ns ∧ y = V.int z := by
        rw [List.getElem?_map] at hi
        cases e : ns[i]? with
        | none =>
          rw [e] at hi
          cases hi
        | some z =>
          rw [e] at hi
          exact ⟨z, List.mem_of_getElem? e, (Option.some.inj hi).symm⟩
      have hzb := hb z hz
      have hzn := of_bits hzb
      have hmB : Builtin.Int.intBits m ≤ 64 := small_bits (by omega)
      refine ⟨_, rfl, _, _, rfl, rfl, (by
        have e2 : Builtin.Int.intBits 30029 ≤ 64 := small_bits (by decide)
        show ((Builtin.Int.intBits m : Nat) : Int) + ((Builtin.Int.intBits 30029 : Nat) : Int) ≤ 134217728
        omega), _, rfl, _, rfl, _, _, rfl, rfl, (by
        show ((Builtin.Int.intBits z : Nat) : Int) + ((Builtin.Int.intBits z : Nat) : Int) ≤ 134217728
        omega), _, _, rfl, rfl, _, _, rfl, rfl, _, _, rfl, rfl, ⟨by decide, ?_⟩, .inl ⟨_, rfl, _, _, rfl, rfl, (by show (0 : Int) < 2147483563; decide), _, _, rfl, rfl, ?_⟩⟩
      · have hq := bits_le (mix_bound (by decide) hm0 hm1 hzn) (by decide)
        have e27 : (2 : Int) ^ 27 = 134217728 := by decide
        rw [e27]
        omega
      · refine ⟨rfl, _, _, rfl, ?_, ?_⟩
        · have := Int.emod_nonneg ((m * 30029 + z * z + 13) ^ (2 : Int).toNat) (show (2147483563 : Int) ≠ 0 by decide)
          omega
        · have := Int.emod_lt_of_pos ((m * 30029 + z * z + 13) ^ (2 : Int).toNat) (show (0 : Int) < 2147483563 by decide)
          omega
    · rintro σ H2 ⟨rfl, m, c, rfl, hm0, hm1⟩
      have fin : ∀ d : Int, 0 ≤ d → d.natAbs < 2 ^ 1048576 → tSeq (tAsg (tC (.int d)) (gName 4)) (tRet (tDisp [(tC (V.str (Str.ofString "digits")), tVar 4), (tC (V.str (Str.ofString "mixed")), tVar 2)])) { nx := fun x H' => Q V.non H', rt := Q } [some (V.ref a), some (V.int st), some (V.int m), c, none] H2 := by
        intro d hd0 hdB
        refine fun p hp => ⟨_, rfl, _, rfl, upd_same, [((Sum.inr "digits" : Key), V.int d), ((Sum.inr "mixed" : Key), V.int m)], rfl, (by show 2 ≤ 15; decide), ?_⟩
        rw [upd_upd]
        exact k p d m hp ⟨hd0, hdB, hm0, hm1⟩
      have z0 : (0 : Int).natAbs < 2 ^ 1048576 := Nat.two_pow_pos _
      refine ⟨_, rfl, _, rfl, _, _, rfl, .inl hS, _, _, rfl, rfl, _, rfl, ?_⟩
      refine ite2 (fun c1 => ?_) (fun c1 => iteF (fin 0 (by decide) z0))
      have hlt := of_decide_eq_true c1
      rw [List.length_map] at hlt
      obtain ⟨j, rfl⟩ := Int.eq_ofNat_of_zero_le h0
      have hj : j < ns.length := by omega
      have hat : atI (ns.map V.int) (j : Int) = some (V.int ns[j]) := by
        refine atI_nat ?_
        rw [List.getElem?_map, List.getElem?_eq_getElem hj]
        rfl
      have hpow : CPowX 10 18 := ⟨by decide, by decide +kernel⟩
      have e18 : (10 : Int) ^ (18 : Int).toNat = 1000000000000000000 := by decide +kernel
      refine ⟨_, rfl, _, rfl, a, _, _, _, rfl, rfl, hS, hat, _, _, rfl, rfl, hpow, _, _, rfl, rfl, _, rfl, ?_⟩
      rw [e18]
      refine ite2 (fun c2 => ?_) (fun c2 => fin 0 (by decide) z0)
      have hge := of_decide_eq_true c2
      refine ⟨_, rfl, _, rfl, a, _, _, _, rfl, rfl, hS, hat, _, _, rfl, rfl, hpow, _, _, rfl, rfl, ?_⟩
      rw [e18]
      have hzn := of_bits (hb _ (List.getElem_mem hj))
      refine fin _ (by omega) ?_
      exact Nat.lt_of_le_of_lt (by omega) hzn
abbrev nm__law_pick : List Str := ["tape", "many", "found", "once"]
theorem sc__law_pick : FnScope nm__law_pick ["tape", "many"] (defScope s__law_pick) := ⟨rfl, rfl, rfl, by decide +kernel, rfl, by decide +kernel, by decide +kernel⟩
theorem b__law_pick {K : PySem.W.Frag} {mg : Str → Option Value} (T : Txt K mg) : Binds K T.d__law_pick ["tape", "many"] [] := T.F__law_pick.bindsN fun _ _ _ _ _ _ us hl => match us, hl with | [_, _], _ => rfl
theorem ok__law_pick (T : Txt K mg) : FnOk P w K mg base CX0 1 T.a__law_pick T.d__law_pick ["tape", "many"] spPick := by
  refine T.F__law_pick.ok sc__law_pick (fun vs H Q E h => ?_) (fun cdv A outer s H vs Q E hr h => ⟨_, PSs.nox (pss_cons (ps_if (pt_cmpR op_ge1 (pe_dget (hu_of hr) (pv 0) pe_str (fun _ _ => rfl)) (pv 1) (nomark _)) (pss_cons (ps_set (i := 2) sc__law_pick.nd rfl (by first | exact Or.inl rfl | exact Or.inr rfl) (pe_op op_mod (pe_callTy call_int_q (by rfl) T.n_int (by decide +kernel) (pa_cons (pe_dget (hu_of hr) (pv 0) pe_str (fun _ _ => rfl)) pa_nil)) (pv 1)))
      (pss_cons (ps_dput (hu_of hr) (pv 0) pe_str (pe_op op_fdivW (pe_dget (hu_of hr) (pv 0) pe_str (fun _ _ => rfl)) (pv 1)) rfl)
      (pss_one (ps_ret (pv 2))))) pss_nil)
      (pss_cons (ps_dput (hu_of hr) (pv 0) pe_str (pe_op op_mod (pe_callTy call_int_q (by rfl) T.n_int (by decide +kernel) (pa_cons (pe_op op_add (pe_op op_mulX (pe_dget (hu_of hr) (pv 0) pe_str (fun _ _ => rfl)) pe_int) pe_int) pa_nil)) pe_int) rfl)
      (pss_cons (ps_set (i := 3) sc__law_pick.nd rfl (by first | exact Or.inl rfl | exact Or.inr rfl) (pe_op op_mod (pe_callTy call_int_q (by rfl) T.n_int (by decide +kernel) (pa_cons (pe_op op_powX (pe_dget (hu_of hr) (pv 0) pe_str (fun _ _ => rfl)) pe_int) pa_nil)) pe_int))
      (pss_one (ps_ret (pe_op op_mod (pe_callTy call_int_q (by rfl) T.n_int (by decide +kernel) (pa_cons (pe_op op_fdivW (pe_op op_mod (pe_callTy call_int_q (by rfl) T.n_int (by decide +kernel) (pa_cons (pe_op op_powX (pv 3) pe_int) pa_nil)) pe_int) pe_int) pa_nil)) (pv 1))))))), ?_⟩)
  · obtain ⟨tp, d, m, many, rfl, _⟩ := h
    rfl
  · obtain ⟨tp, d, m, many, rfl, ht, ok, h1, hB, k⟩ := h
    have d0 := ok.d0
    have m0 := ok.m0
    have mB := ok.mB
    refine ⟨_, rfl, tp, _, rfl, tape_d ht, _, rfl, _, _, rfl, rfl, _, rfl, ?_⟩
    refine ite2 (fun _ => ?_) (fun _ => ?_)
    · refine ⟨_, rfl, tp, _, rfl, tape_d ht, .inl ⟨_, rfl, _, rfl, _, _, rfl, rfl, (by show (0 : Int) < many; omega), ?_⟩⟩
      refine ⟨_, rfl, tp, _, rfl, tape_d ht, _, rfl, _, _, rfl, rfl, div_ok h1 hB, _, rfl, tp, _, rfl, tape_pd ht, _, rfl, ?_⟩
      have q0 : 0 ≤ d / many := Int.ediv_nonneg d0 (by omega)
      have q1 : d / many ≤ d := Int.ediv_le_self _ d0
      exact k _ _ _ (Int.emod_nonneg _ (by omega)) (Int.emod_lt_of_pos _ (by omega)) ⟨q0, Nat.lt_of_le_of_lt (by omega) ok.dB, m0, mB⟩
    · have s1 : CMulX m 40014 := mul_small (by omega) (by decide)
      refine ⟨_, rfl, tp, _, rfl, tape_m ht, _, _, rfl, rfl, s1, _, _, rfl, rfl, .inl ⟨_, rfl, _, _, rfl, rfl, (by show (0 : Int) < 2147483563; decide), _, rfl, tp, _, rfl, tape_pm ht, ?_⟩⟩
      have n0 := Int.emod_nonneg (m * 40014 + 1031) (show (2147483563 : Int) ≠ 0 by decide)
      have n1 := Int.emod_lt_of_pos (m * 40014 + 1031) (show (0 : Int) < 2147483563 by decide)
      generalize (m * 40014 + 1031) % 2147483563 = m2 at *
      refine ⟨_, rfl, tp, _, rfl, tape_m upd_same, _, _, rfl, rfl, pow_small (by omega) (by decide) (by decide), .inl ⟨_, rfl, _, _, rfl, rfl, (by show (0 : Int) < 2147483399; decide), ?_⟩⟩
      have o0 := Int.emod_nonneg (m2 ^ (2 : Int).toNat) (show (2147483399 : Int) ≠ 0 by decide)
      have o1 := Int.emod_lt_of_pos (m2 ^ (2 : Int).toNat) (show (0 : Int) < 2147483399 by decide)
      generalize m2 ^ (2 : Int).toNat % 2147483399 = o at *
      refine ⟨_, rfl, _, _, rfl, rfl, pow_small (by omega) (by decide) (by decide), .inl ⟨_, rfl, _, _, rfl, rfl, (by show (0 : Int) < 998244353; decide), _, _, rfl, rfl, div_ok (by decide) (by decide), .inl ⟨_, rfl, _, rfl, _, _, rfl, rfl, (by show (0 : Int) < many; omega), ?_⟩⟩⟩
      exact k _ _ _ (Int.emod_nonneg _ (by omega)) (Int.emod_lt_of_pos _ (by omega)) ⟨d0, ok.dB, n0, by omega⟩
end
/-! ### texts as lists of codes -/
def mkS (l : List Nat) : Str := ⟨l.toArray⟩
abbrev vS (l : List Nat) : V := .str (mkS l)
def sg (c : Nat) : Str := ⟨#[c]⟩
theorem mkS_len (l : List Nat) : (mkS l).length = l.length := by
  show l.toArray.size = l.length
  simp
theorem mkS_list (l : List Nat) : (mkS l).cps.toList = l := rfl
theorem mkS_size (l : List Nat) : (mkS l).cps.size = l.length := by
  show l.toArray.size = l.length
  simp
theorem mkS_getD (l : List Nat) (i : Nat) : (mkS l).cps.getD i 0 = l.getD i 0 := by
  show l.toArray.getD i 0 = l.getD i 0
  simp [List.getD_eq_getElem?_getD, Array.getD_eq_getD_getElem?]
theorem mkS_inj {l m : List Nat} (h : mkS l = mkS m) : l = m := by
  have e : (mkS l).cps.toList = (mkS m).cps.toList := by rw [h]
  exact e
theorem str_mk (z : Str) : z = mkS z.cps.toList := rfl
def letterB (c : Nat) : Bool := decide (97 ≤ c ∧ c ≤ 122)
def txtB (l : List Nat) : Bool := l.all letterB
theorem alpha_mem (c : Nat) : decide (c ∈ v_ALPHABET.cps.toList) = letterB c := by
  have e : v_ALPHABET.cps.toList = (List.range 26).map (· + 97) := by decide +kernel
  rw [e]
  unfold letterB
  apply decide_eq_decide.mpr
  simp only [List.mem_map, List.mem_range]
  constructor
  · rintro ⟨a, h1, h2⟩
    omega
  · intro h
    exact ⟨c - 97, by omega, by omega⟩
section
open Evl
theorem range_map_getD {α : Type} (d : α) : ∀ l : List α, (List.range l.length).map (fun i => l.getD i d) = l := fun l => by
  apply List.ext_getElem
  · simp
  · intro i h1 h2
    simp at h1
    simp [List.getD_eq_getElem?_getD, List.getElem?_eq_getElem h2]
def spIsText : Sp := fun vs H Q _ => ∃ l : List Nat, vs = [vS l] ∧ l.length ≤ 30000 ∧ ∀ H', Ex H H' → Q (.bl (txtB l)) H'
def spCheckT : Sp := fun vs H Q _ => ∃ l : List Nat, vs = [vS l] ∧ l.length ≤ 30000 ∧ txtB l = true ∧ ∀ H', Ex H H' → Q .non H'
def spIsZero : Sp := fun vs H Q _ => ∃ n : Int, vs = [.int n] ∧ ∀ H', Ex H H' → Q (.bl (decide (0 ≤ n))) H'
def spCheckL : Sp := fun vs H Q _ => ∃ n : Int, vs = [.int n] ∧ 0 ≤ n ∧ ∀ H', Ex H H' → Q .non H'
section
variable {P : Program} {w : World} {K : PySem.W.Frag} {mg : Str → Option Value} {base : Heap}
theorem rc_isi {K : PySem.W.Frag} {H : Hp} {v : V} {a b : String} {r : Bool} (ht : ∀ H1, Ex H H1 → TyX K H1 v (.type a)) (h : kitB a b = some r) : RC (rIsi K) [v, .ty b] H (.bl r) :=
  fun H1 e Q q => ⟨v, .ty b, .type a, .type b, r, rfl, .ty b, ht H1 e, kit_ty h, q H1 (Ex.refl H1)⟩
theorem ty_int {K : PySem.W.Frag} {H : Hp} (n : Int) : TyX K H (.int n) (.type "int") := .base (.int n)
theorem ty_str {K : PySem.W.Frag} {H : Hp} (z : Str) : TyX K H (.str z) (.type "str") := .base (.str z)
abbrev nm_is_text : List Str := ["value", "sign"]
theorem sc_is_text : FnScope nm_is_text ["value"] (defScope s_is_text) := ⟨rfl, rfl, rfl, by decide +kernel, rfl, by decide +kernel, by decide +kernel⟩
theorem b_is_text {K : PySem.W.Frag} {mg : Str → Option Value} (T : Txt K mg) : Binds K T.d_is_text ["value"] [] := T.F_is_text.bindsN fun _ _ _ _ _ _ us hl => match us, hl with | [_], _ => rfl
theorem ok_is_text (T : Txt K mg) : FnOk P w K mg base CX0 1 T.a_is_text T.d_is_text ["value"] spIsText := by
  refine T.F_is_text.ok sc_is_text (fun vs H Q E h => ?_) (fun cdv A outer s H vs Q E hr h => ⟨_, PSs.nox (pss_one (ps_ret (pe_and (pe_callB (callk (K0 := K) rIsi call_isi rfl) (by rfl) T.n_isinstance (by decide +kernel) (pa_cons (pv 0) (pa_cons (pe_bltn (v := .ty "str") (by rfl) T.n_str (by decide +kernel) rfl) pa_nil))) (pe_one (pe_callB (callk (K0 := K) rAll (cr_all rfl) rfl) (by rfl) T.n_all (by decide +kernel) (pa_cons (pe_lc (own := [("sign", 1)]) (g := (gName 1)) (tt := tYes)  rfl sc_is_text.nd (pi_str (pv 0)) (blkOk_by (own := [("sign", 1)]) (N := nm_is_text) (sc := defScope s_is_text) (by decide +kernel)) (fun _ _ _ _ _ => (pg_name (i := 1) sc_is_text.nd rfl (by first | exact Or.inl rfl | exact Or.inr rfl))) (fun _ _ _ _ _ => pts_nil) (fun _ _ _ _ _ => (pe_cmpR op_inS (pv 1) (pe_glob (v := .str v_ALPHABET) rfl T.c_ALPHABET ⟨_, rfl⟩) rfl))) pa_nil)))))), ?_⟩)
  · obtain ⟨l, rfl, _⟩ := h
    rfl
  · obtain ⟨l, rfl, hl, k⟩ := h
    refine s_ret (v := .bl (true && txtB l)) (ev_andV (ev_cb (ea_cons (ev_var rfl) (ea_cons ev_c ea_nil)) (rc_isi (fun _ _ => ty_str _) (by decide +kernel))) fun _ => ?_) (fun H1 e => by
      rw [Bool.true_and]
      exact k H1 e)
    have hz : l.length ≤ 40000 := by omega
    refine ev_cbL (el_lcY (σ := [some (vS l), none]) (j := 1) (vs := [1]) (fun i => .bl (letterB (l.getD i 0))) (ew_str (ev_var (i := 0) rfl)) (by rw [mkS_size]; exact hz) (fun x => rfl) (fun i H2 e2 hi => ?_)) (fun p H2 e2 hx Q2 q => ?_)
    · refine ev_op (ev_var rfl) ev_c (rv_val fun H3 e3 Q2 q2 => ⟨_, _, rfl, rfl, ?_⟩)
      rw [alpha_mem, mkS_getD]
      exact q2
    · rw [mkS_size] at hx
      have em : (List.range l.length).map (fun i => V.bl (letterB (l.getD i 0))) = (l.map letterB).map V.bl := by
        have e3 := congrArg (fun m => (m.map letterB).map V.bl) (range_map_getD 0 l)
        rw [← e3, List.map_map, List.map_map]
        rfl
      rw [em] at hx
      refine ⟨p, _, rfl, sq_of hx, ?_⟩
      have ea : (l.map letterB).all id = txtB l := by
        unfold txtB
        rw [List.all_map]
        rfl
      rw [ea]
      exact q H2 (Ex.refl H2)
abbrev nm_check_text : List Str := ["value"]
theorem sc_check_text : FnScope nm_check_text ["value"] (defScope s_check_text) := ⟨rfl, rfl, rfl, by decide +kernel, rfl, by decide +kernel, by decide +kernel⟩
theorem b_check_text {K : PySem.W.Frag} {mg : Str → Option Value} (T : Txt K mg) : Binds K T.d_check_text ["value"] [] := T.F_check_text.bindsN fun _ _ _ _ _ _ us hl => match us, hl with | [_], _ => rfl
theorem ok_check_text (T : Txt K mg) : FnOk P w K mg base CX0 2 T.a_check_text T.d_check_text ["value"] spCheckT := by
  refine T.F_check_text.ok sc_check_text (fun vs H Q E h => ?_) (fun cdv A outer s H vs Q E hr h => ⟨_, PSs.nox (pss_one (ps_if (pt_not (pt_val (pe_call (ok_is_text T) (hr.mono (by decide)) (by rfl) T.g_is_text T.F_is_text.kp (b_is_text T) .nil pass0 (pa_cons (pv 0) pa_nil)))) (pss_one ps_never) pss_nil)), ?_⟩)
  · obtain ⟨l, rfl, _⟩ := h
    rfl
  · obtain ⟨l, rfl, hl, ht, k⟩ := h
    refine s_when (b := false) (et_is (et_not (et_B (b := txtB l) (ev_call (vs := [vS l]) (ea_cons (ev_var rfl) ea_nil) fun H1 e Q1 q E1 => ⟨l, rfl, hl, q⟩))) (by rw [ht] <;> rfl)) (fun z => by cases z) (fun _ H1 e => k H1 e)
end
end
/-! ### the first places -/
/-- the first place from s on that bears c -/
def nxt (l : List Nat) (s c : Nat) : Option Nat := ((l.drop s).findIdx? (· == c)).map (· + s)
def reach (l : List Nat) : Nat → List Nat → List Nat
  | _, [] => []
  | s, c :: p => match nxt l s c with
    | none => []
    | some k => k :: reach l (k + 1) p
theorem reach_no {l : List Nat} {s c : Nat} {p : List Nat} (h : nxt l s c = none) : reach l s (c :: p) = [] := by
  show (match nxt l s c with
    | none => []
    | some k => k :: reach l (k + 1) p) = []
  rw [h]
theorem reach_go {l : List Nat} {s c k : Nat} {p : List Nat} (h : nxt l s c = some k) : reach l s (c :: p) = k :: reach l (k + 1) p := by
  show (match nxt l s c with
    | none => []
    | some k => k :: reach l (k + 1) p) = _
  rw [h]
theorem nxt_none {l : List Nat} {s c : Nat} (h : ∀ v, s ≤ v → v < l.length → l.getD v 0 ≠ c) : nxt l s c = none := by
  unfold nxt
  have e : (l.drop s).findIdx? (· == c) = none := by
    rw [List.findIdx?_eq_none_iff]
    intro x hx
    obtain ⟨i, hi, e⟩ := List.mem_iff_getElem.mp hx
    rw [List.getElem_drop] at e
    rw [List.length_drop] at hi
    have h2 := h (s + i) (by omega) (by omega)
    rw [List.getD_eq_getElem?_getD, List.getElem?_eq_getElem (by omega)] at h2
    have h3 : l[s + i] ≠ c := h2
    rw [e] at h3
    exact beq_eq_false_iff_ne.mpr h3
  rw [e]
  rfl
theorem nxt_some {l : List Nat} {s c k : Nat} (h1 : s ≤ k) (h2 : k < l.length) (h3 : l.getD k 0 = c) (h : ∀ v, s ≤ v → v < k → l.getD v 0 ≠ c) : nxt l s c = some k := by
  unfold nxt
  have e : (l.drop s).findIdx? (· == c) = some (k - s) := by
    rw [List.findIdx?_eq_some_iff_getElem]
    refine ⟨by rw [List.length_drop]; omega, ?_, ?_⟩
    · rw [List.getElem_drop]
      rw [List.getD_eq_getElem?_getD, List.getElem?_eq_getElem h2] at h3
      have h4 : l[k] = c := h3
      have e2 : s + (k - s) = k := by omega
      simp only [e2, h4, beq_self_eq_true]
    · intro j hj
      rw [List.getElem_drop]
      have h5 := h (s + j) (by omega) (by omega)
      rw [List.getD_eq_getElem?_getD, List.getElem?_eq_getElem (by omega)] at h5
      have h6 : l[s + j] ≠ c := h5
      simp [h6]
  rw [e]
  show some (k - s + s) = some k
  rw [Nat.sub_add_cancel h1]
theorem find3_nxt (l : List Nat) (c s : Nat) : Txt.find3 (mkS l) ⟨#[c]⟩ (s : Int) = match nxt l s c with
    | none => -1
    | some k => (k : Int) := by
  have ef : fromIndex (mkS l).length (s : Int) = s := by
    unfold fromIndex
    rw [if_neg (by omega)]
    omega
  rcases StrLaws.find3_spec (mkS l) c (s : Int) with ⟨h1, h2⟩ | ⟨k, h1, h2, h3, h4, h5⟩
  · rw [ef, mkS_len] at h2
    rw [h1, nxt_none (l := l) (s := s) (c := c) fun v a b => by
      have h3 := h2 v a b
      rw [mkS_getD] at h3
      exact h3]
  · rw [ef] at h2 h5
    rw [mkS_len] at h3
    rw [mkS_getD] at h4
    rw [h1, nxt_some h2 h3 h4 fun v a b => by
      have h6 := h5 v a b
      rw [mkS_getD] at h6
      exact h6]
theorem nxt_lt {l : List Nat} {s c k : Nat} (h : nxt l s c = some k) : s ≤ k ∧ k < l.length ∧ l.getD k 0 = c := by
  unfold nxt at h
  rw [Option.map_eq_some_iff] at h
  obtain ⟨j, h1, h2⟩ := h
  rw [List.findIdx?_eq_some_iff_getElem] at h1
  obtain ⟨h3, h4, _⟩ := h1
  rw [List.length_drop] at h3
  rw [List.getElem_drop] at h4
  have e : l[s + j] = c := eq_of_beq h4
  refine ⟨by omega, by omega, ?_⟩
  rw [List.getD_eq_getElem?_getD, List.getElem?_eq_getElem (by omega)]
  have e2 : k = s + j := by omega
  subst e2
  exact e
theorem small1000k {n : Nat} (h : n ≤ 1000000) : n < sizeLine := Nat.lt_of_le_of_lt h (by decide)
theorem reach_len (l : List Nat) : ∀ (p : List Nat) (s : Nat), (reach l s p).length ≤ p.length
  | [], _ => Nat.le_refl _
  | c :: p, s => by
    unfold reach
    cases nxt l s c with
    | none => exact Nat.zero_le _
    | some k => exact Nat.succ_le_succ (reach_len l p (k + 1))
def natV (l : List Nat) : List V := l.map fun (k : Nat) => V.int (k : Int)
def holdsB (l p : List Nat) : Bool := decide ((reach l 0 p).length = p.length)
theorem int_eqB (a b : Nat) : decide (V.int (a : Int) = V.int (b : Int)) = decide (a = b) := by
  apply decide_eq_decide.mpr
  constructor
  · intro h
    injection h with h1
    omega
  · intro h
    rw [h]
theorem natV_len (l : List Nat) : (natV l).length = l.length := by
  unfold natV
  rw [List.length_map]
section
open Evl
theorem rc_lenS {H : Hp} {l : List Nat} (hl : l.length ≤ 30000) : RC rLenT [vS l] H (.int (l.length : Int)) := fun H1 e Q q => ⟨mkS l, rfl, by
  rw [mkS_len]
  exact sz_of (by omega), by
  rw [mkS_len]
  exact q H1 (Ex.refl H1)⟩
end
section
open Evl
variable {P : Program} {w : World} {K : PySem.W.Frag} {mg : Str → Option Value} {base : Heap}
def spReach : Sp := fun vs H Q _ => ∃ l p : List Nat, vs = [vS l, vS p] ∧ l.length ≤ 30000 ∧ p.length ≤ 30000 ∧ ∀ q H', H q = none → Ex H H' → H' q = some (.lst (natV (reach l 0 p))) → Q (.ref q) H'
abbrev nm_reached_places : List Str := ["text", "piece", "places", "place", "letter"]
theorem sc_reached_places : FnScope nm_reached_places ["text", "piece"] (defScope s_reached_places) := ⟨rfl, rfl, rfl, by decide +kernel, rfl, by decide +kernel, by decide +kernel⟩
theorem b_reached_places {K : PySem.W.Frag} {mg : Str → Option Value} (T : Txt K mg) : Binds K T.d_reached_places ["text", "piece"] [] := T.F_reached_places.bindsN fun _ _ _ _ _ _ us hl => match us, hl with | [_, _], _ => rfl
theorem ok_reached_places (T : Txt K mg) : FnOk P w K mg base CX0 1 T.a_reached_places T.d_reached_places ["text", "piece"] spReach := by
  refine T.F_reached_places.ok sc_reached_places (fun vs H Q E h => ?_) (fun cdv A outer s H vs Q E hr h => ⟨_, PSs.nox (pss_cons (ps_set (i := 2) sc_reached_places.nd rfl (by first | exact Or.inl rfl | exact Or.inr rfl) (pe_lst pa_nil))
      (pss_cons (ps_set (i := 3) sc_reached_places.nd rfl (by first | exact Or.inl rfl | exact Or.inr rfl) (pe_un un_neg pe_int))
      (pss_cons (ps_for PassesOwn.never rfl (pi_str (pv 1)) (pg_name (i := 4) sc_reached_places.nd rfl (by first | exact Or.inl rfl | exact Or.inr rfl))
      (pss_cons (ps_set (i := 3) sc_reached_places.nd rfl (by first | exact Or.inl rfl | exact Or.inr rfl) (tbmk (K0 := K) (pe_bm PySem.F.plainAttrs_str PySem.F.slot_str_find PySem.F.type_str_find mt_find_q (pv 0) (pa_cons (pv 4) (pa_cons (pe_op op_add (pv 3) pe_int) pa_nil))) rfl))
      (pss_cons (ps_if (pt_cmpR op_lt (pv 3) pe_int (nomark _)) (pss_one ps_break) pss_nil)
      (pss_one (ps_expr (tbmk (K0 := K) (pe_bm PySem.F.plainAttrs_list PySem.F.slot_list_append PySem.F.type_list_append mt_append (pv 2) (pa_cons (pv 3) pa_nil)) rfl))))))
      (pss_one (ps_ret (pv 2)))))), ?_⟩)
  · obtain ⟨l, p, rfl, _⟩ := h
    rfl
  · obtain ⟨l, p, rfl, hl, hp, k⟩ := h
    refine q_asgL (el_lst ea_nil (by decide)) fun q H1 hq e1 h1 => ?_
    refine q_asg (v := .int (-1)) (ev_un ev_c ru_neg) fun H2 e2 => ?_
    refine q_forN (et_str (w := mkS p) (ev_var (i := 1) rfl)) (fun i σ H' => ∃ (done : List Nat) (st : Nat) (c : Option V), σ = [some (vS l), some (vS p), some (.ref q), some (.int ((st : Int) - 1)), c] ∧ done.length = i ∧ reach l 0 p = done ++ reach l st (p.drop i) ∧ Ex H H' ∧ H' q = some (.lst (natV done)))
      (fun H3 e3 => ⟨[], 0, none, rfl, rfl, rfl, (e1.trans e2).trans e3, (e2.trans e3) q _ h1⟩) ?_ ?_
    · rintro i σ H' hi ⟨done, st, c, rfl, hd, hre, ex, hq'⟩
      rw [mkS_size] at hi
      have ed : p.drop i = p.getD i 0 :: p.drop (i + 1) := by
        rw [List.drop_eq_getElem_cons hi, List.getD_eq_getElem?_getD, List.getElem?_eq_getElem hi]
        rfl
      have est : ((st : Int) - 1 + 1) = ((st : Nat) : Int) := by omega
      rw [mkS_getD]
      refine ⟨_, rfl, rfl, _, rfl, _, rfl, _, _, rfl, rfl, _, _, _, rfl, rfl, ?_⟩
      rw [est, find3_nxt]
      rw [ed] at hre
      cases hn : nxt l st (p.getD i 0) with
      | none =>
        refine ⟨_, rfl, _, _, rfl, rfl, _, rfl, iteT ?_⟩
        refine ⟨_, rfl, k q H' hq ex ?_⟩
        rw [reach_no hn, List.append_nil] at hre
        rw [hre]
        exact hq'
      | some kk =>
        have hdl : done.length < 30000 := by omega
        refine ⟨_, rfl, _, _, rfl, rfl, _, rfl, ?_⟩
        have c0 : decide (((kk : Nat) : Int) < 0) = false := decide_eq_false (by omega)
        show (if decide (((kk : Nat) : Int) < 0) = true then _ else _)
        rw [c0]
        refine iteF ?_
        refine ⟨_, rfl, .inl ⟨rfl, _, sq_of hq'⟩, _, rfl, q, _, _, rfl, rfl, hq', ?_, ?_⟩
        · unfold natV
          rw [List.length_map]
          exact small1000k (by omega)
        · rw [reach_go hn] at hre
          refine ⟨done ++ [kk], kk + 1, some (.str ⟨#[p.getD i 0]⟩), ?_, by rw [List.length_append, hd]; rfl, by rw [hre, List.append_assoc]; rfl, Ex.mut ex hq, ?_⟩
          · have e3 : (((kk + 1 : Nat) : Int) - 1) = (kk : Int) := by omega
            rw [e3]
            rfl
          · have e4 : natV (done ++ [kk]) = natV done ++ [V.int (kk : Int)] := by
              unfold natV
              rw [List.map_append]
              rfl
            rw [e4]
            exact upd_same
    · rintro σ H' ⟨done, st, c, rfl, hd, hre, ex, hq'⟩
      rw [mkS_size, List.drop_length] at hre
      refine ⟨_, rfl, k q H' hq ex ?_⟩
      have hre2 : reach l 0 p = done ++ [] := hre
      rw [List.append_nil] at hre2
      rw [hre2]
      exact hq'
def spHolds : Sp := fun vs H Q _ => ∃ l p : List Nat, vs = [vS l, vS p] ∧ l.length ≤ 30000 ∧ p.length ≤ 30000 ∧ txtB l = true ∧ txtB p = true ∧ ∀ H', Ex H H' → Q (.bl (holdsB l p)) H'
def spFirst : Sp := fun vs H Q _ => ∃ l p : List Nat, vs = [vS l, vS p] ∧ l.length ≤ 30000 ∧ p.length ≤ 30000 ∧ txtB l = true ∧ txtB p = true ∧ holdsB l p = true ∧ ∀ q H', H q = none → Ex H H' → H' q = some (.lst (natV (reach l 0 p))) → Q (.ref q) H'
theorem spl_reach {l p : List Nat} {H : Hp} (hl : l.length ≤ 30000) (hp : p.length ≤ 30000) : SpL spReach [vS l, vS p] H (natV (reach l 0 p)) := fun H1 e Q q E => ⟨l, p, rfl, hl, hp, q⟩
def spPieceB : Sp := fun vs H Q _ => ∃ l p : List Nat, vs = [vS l, vS p] ∧ l.length ≤ 30000 ∧ p.length ≤ 30000 ∧ ∀ H', Ex H H' → Q (.bl (holdsB l p)) H'
abbrev nm_is_piece : List Str := ["text", "piece"]
theorem sc_is_piece : FnScope nm_is_piece ["text", "piece"] (defScope s_is_piece) := ⟨rfl, rfl, rfl, by decide +kernel, rfl, by decide +kernel, by decide +kernel⟩
theorem b_is_piece {K : PySem.W.Frag} {mg : Str → Option Value} (T : Txt K mg) : Binds K T.d_is_piece ["text", "piece"] [] := T.F_is_piece.bindsN fun _ _ _ _ _ _ us hl => match us, hl with | [_, _], _ => rfl
theorem ok_is_piece (T : Txt K mg) : FnOk P w K mg base CX0 2 T.a_is_piece T.d_is_piece ["text", "piece"] spPieceB := by
  refine T.F_is_piece.ok sc_is_piece (fun vs H Q E h => ?_) (fun cdv A outer s H vs Q E hr h => ⟨_, PSs.nox (pss_one (ps_ret (pe_cmpR op_eq (pe_callB (callk (K0 := K) rLenQ call_len_q rfl) (by rfl) T.n_len (by decide +kernel) (pa_cons (pe_call (ok_reached_places T) (hr.mono (by decide)) (by rfl) T.g_reached_places T.F_reached_places.kp (b_reached_places T) .nil pass0 (pa_cons (pv 0) (pa_cons (pv 1) pa_nil))) pa_nil)) (pe_callB call_len_t (by rfl) T.n_len (by decide +kernel) (pa_cons (pv 1) pa_nil)) (nomark _)))), ?_⟩)
  · obtain ⟨l, p, rfl, _⟩ := h
    rfl
  · obtain ⟨l, p, rfl, hl, hp, k⟩ := h
    refine s_ret (v := .bl (holdsB l p)) (ev_is (ev_op (x := .int ((natV (reach l 0 p)).length : Int)) (y := .int (p.length : Int)) (ev_cbL (el_call (vs := [vS l, vS p]) (ea_cons (ev_var rfl) (ea_cons (ev_var rfl) ea_nil)) (spl_reach hl hp)) (fun q H3 e3 hx Q3 q3 => ⟨q, _, rfl, .inl (sq_of hx), q3 H3 (Ex.refl H3)⟩)) (ev_cb (ea_cons (ev_var rfl) ea_nil) (rc_lenS hp)) (rv_eq rfl)) ?_) (fun H3 e3 => k H3 e3)
    rw [natV_len, int_eqB]
    rfl
abbrev nm_holds : List Str := ["text", "piece"]
theorem sc_holds : FnScope nm_holds ["text", "piece"] (defScope s_holds) := ⟨rfl, rfl, rfl, by decide +kernel, rfl, by decide +kernel, by decide +kernel⟩
theorem b_holds {K : PySem.W.Frag} {mg : Str → Option Value} (T : Txt K mg) : Binds K T.d_holds ["text", "piece"] [] := T.F_holds.bindsN fun _ _ _ _ _ _ us hl => match us, hl with | [_, _], _ => rfl
theorem ok_holds (T : Txt K mg) : FnOk P w K mg base CX0 3 T.a_holds T.d_holds ["text", "piece"] spHolds := by
  refine T.F_holds.ok sc_holds (fun vs H Q E h => ?_) (fun cdv A outer s H vs Q E hr h => ⟨_, PSs.nox (pss_cons (ps_expr (pe_call (ok_check_text T) (hr.mono (by decide)) (by rfl) T.g_check_text T.F_check_text.kp (b_check_text T) .nil pass0 (pa_cons (pv 0) pa_nil)))
      (pss_cons (ps_expr (pe_call (ok_check_text T) (hr.mono (by decide)) (by rfl) T.g_check_text T.F_check_text.kp (b_check_text T) .nil pass0 (pa_cons (pv 1) pa_nil)))
      (pss_one (ps_ret (pe_call (ok_is_piece T) (hr.mono (by decide)) (by rfl) T.g_is_piece T.F_is_piece.kp (b_is_piece T) .nil pass0 (pa_cons (pv 0) (pa_cons (pv 1) pa_nil))))))), ?_⟩)
  · obtain ⟨l, p, rfl, _⟩ := h
    rfl
  · obtain ⟨l, p, rfl, hl, hp, tl, tp, k⟩ := h
    refine q_drop (v := .non) (ev_call (vs := [vS l]) (ea_cons (ev_var rfl) ea_nil) fun H1 e Q1 q E1 => ⟨l, rfl, hl, tl, q⟩) fun H1 e1 => ?_
    refine q_drop (v := .non) (ev_call (vs := [vS p]) (ea_cons (ev_var rfl) ea_nil) fun H2 e Q1 q E1 => ⟨p, rfl, hp, tp, q⟩) fun H2 e2 => ?_
    exact s_ret (v := .bl (holdsB l p)) (ev_call (vs := [vS l, vS p]) (ea_cons (ev_var rfl) (ea_cons (ev_var rfl) ea_nil)) fun H3 e Q1 q E1 => ⟨l, p, rfl, hl, hp, q⟩) (fun H3 e3 => k H3 ((e1.trans e2).trans e3))
abbrev nm_first_places : List Str := ["text", "piece"]
theorem sc_first_places : FnScope nm_first_places ["text", "piece"] (defScope s_first_places) := ⟨rfl, rfl, rfl, by decide +kernel, rfl, by decide +kernel, by decide +kernel⟩
theorem b_first_places {K : PySem.W.Frag} {mg : Str → Option Value} (T : Txt K mg) : Binds K T.d_first_places ["text", "piece"] [] := T.F_first_places.bindsN fun _ _ _ _ _ _ us hl => match us, hl with | [_, _], _ => rfl
theorem ok_first_places (T : Txt K mg) : FnOk P w K mg base CX0 4 T.a_first_places T.d_first_places ["text", "piece"] spFirst := by
  refine T.F_first_places.ok sc_first_places (fun vs H Q E h => ?_) (fun cdv A outer s H vs Q E hr h => ⟨_, PSs.nox (pss_cons (ps_if (pt_not (pt_val (pe_call (ok_holds T) (hr.mono (by decide)) (by rfl) T.g_holds T.F_holds.kp (b_holds T) .nil pass0 (pa_cons (pv 0) (pa_cons (pv 1) pa_nil))))) (pss_one ps_never) pss_nil)
      (pss_one (ps_ret (pe_call (ok_reached_places T) (hr.mono (by decide)) (by rfl) T.g_reached_places T.F_reached_places.kp (b_reached_places T) .nil pass0 (pa_cons (pv 0) (pa_cons (pv 1) pa_nil)))))), ?_⟩)
  · obtain ⟨l, p, rfl, _⟩ := h
    rfl
  · obtain ⟨l, p, rfl, hl, hp, tl, tp, hh, k⟩ := h
    refine q_when (b := false) (et_is (et_not (et_B (b := holdsB l p) (ev_call (vs := [vS l, vS p]) (ea_cons (ev_var rfl) (ea_cons (ev_var rfl) ea_nil)) fun H1 e Q1 q E1 => ⟨l, p, rfl, hl, hp, tl, tp, q⟩))) (by rw [hh] <;> rfl)) (fun z => by cases z) (fun _ H1 e1 => ?_)
    exact s_retL (el_call (vs := [vS l, vS p]) (ea_cons (ev_var rfl) (ea_cons (ev_var rfl) ea_nil)) (spl_reach hl hp)) fun q H2 hq e2 h2 => k q H2 (fresh_back e1 hq) (e1.trans e2) h2
end
/-! ### the rows of followers -/
theorem sg_inj {a b : Nat} (h : sg a = sg b) : a = b := by
  have e : (sg a).cps.toList = (sg b).cps.toList := by rw [h]
  have e2 : [a] = [b] := e
  injection e2
theorem key_sg {a b : Nat} : ((Sum.inr (sg a) : Key) = Sum.inr (sg b)) ↔ a = b := ⟨fun h => sg_inj (Sum.inr.inj h), fun h => by rw [h]⟩
def embK (kvs : List (Nat × Nat)) : List (Key × V) := kvs.map fun e => ((Sum.inr (sg e.1) : Key), V.int (e.2 : Int))
def putA (kvs : List (Nat × Nat)) (c b : Nat) : List (Nat × Nat) := if (kvs.any fun e => decide (e.1 = c)) = true then kvs.map (fun e => if e.1 = c then (e.1, b) else e) else kvs ++ [(c, b)]
def valA (kvs : List (Nat × Nat)) (c : Nat) : Option Nat := (kvs.find? fun e => decide (e.1 = c)).map (·.2)
theorem any_emb (c : Nat) : ∀ kvs : List (Nat × Nat), ((embK kvs).any fun kv => decide (kv.1 = (Sum.inr (sg c) : Key))) = kvs.any fun e => decide (e.1 = c)
  | [] => rfl
  | e :: r => by
    have ih := any_emb c r
    show (decide ((Sum.inr (sg e.1) : Key) = Sum.inr (sg c)) || (embK r).any _) = (decide (e.1 = c) || r.any _)
    rw [ih, decide_eq_decide.mpr (key_sg (a := e.1) (b := c))]
theorem putK_emb (kvs : List (Nat × Nat)) (c b : Nat) : putK (embK kvs) (Sum.inr (sg c)) (V.int (b : Int)) = embK (putA kvs c b) := by
  unfold putK putA
  rw [any_emb]
  by_cases h : (kvs.any fun e => decide (e.1 = c)) = true
  · rw [if_pos h, if_pos h]
    unfold embK
    rw [List.map_map, List.map_map]
    apply List.map_congr_left
    intro e _
    show (if (Sum.inr (sg e.1) : Key) = Sum.inr (sg c) then _ else _) = _
    by_cases h2 : e.1 = c
    · rw [if_pos (key_sg.mpr h2)]
      show ((Sum.inr (sg e.1) : Key), V.int (b : Int)) = ((Sum.inr (sg (if e.1 = c then (e.1, b) else e).1) : Key), V.int ((if e.1 = c then (e.1, b) else e).2 : Nat))
      rw [if_pos h2]
    · rw [if_neg (fun z => h2 (key_sg.mp z))]
      show _ = ((Sum.inr (sg (if e.1 = c then (e.1, b) else e).1) : Key), V.int ((if e.1 = c then (e.1, b) else e).2 : Nat))
      rw [if_neg h2]
  · rw [if_neg h, if_neg h]
    unfold embK
    rw [List.map_append]
    rfl
theorem valV_emb (c : Nat) : ∀ kvs : List (Nat × Nat), valV (embK kvs) (Sum.inr (sg c)) = (valA kvs c).map fun b => V.int (b : Int)
  | [] => rfl
  | e :: r => by
    have ih := valV_emb c r
    by_cases h : e.1 = c
    · have e1 : valV (embK (e :: r)) (Sum.inr (sg c)) = some (V.int (e.2 : Int)) := valV_pos (key_sg.mpr h)
      have e2 : valA (e :: r) c = some e.2 := by
        unfold valA
        rw [List.find?_cons_of_pos (by simp [h])]
        rfl
      rw [e1, e2]
      rfl
    · have e1 : valV (embK (e :: r)) (Sum.inr (sg c)) = valV (embK r) (Sum.inr (sg c)) := valV_neg (fun z => h (key_sg.mp z))
      have e2 : valA (e :: r) c = valA r c := by
        unfold valA
        rw [List.find?_cons_of_neg (by simp [h])]
      rw [e1, e2, ih]
theorem embK_len (kvs : List (Nat × Nat)) : (embK kvs).length = kvs.length := List.length_map _
theorem putA_len (kvs : List (Nat × Nat)) (c b : Nat) : (putA kvs c b).length ≤ kvs.length + 1 := by
  unfold putA
  split
  · rw [List.length_map]
    omega
  · rw [List.length_append]
    exact Nat.le_refl _
/-- for each letter from here on, the place behind its first place -/
def rowF : Nat → List Nat → List (Nat × Nat)
  | _, [] => []
  | o, c :: r => putA (rowF (o + 1) r) c (o + 1)
theorem rowF_len : ∀ (l : List Nat) (o : Nat), (rowF o l).length ≤ l.length
  | [], _ => Nat.le_refl _
  | c :: r, o => Nat.le_trans (putA_len _ _ _) (Nat.succ_le_succ (rowF_len r (o + 1)))
/-- the rows of l stand at p -/
def FolAt (H : Hp) (l : List Nat) (p : Addr) : Prop := ∃ ds : List Addr, ds.length = l.length + 1 ∧ H p = some (.lst (ds.map V.ref)) ∧ ∀ j d, ds[j]? = some d → H d = some (.dK (embK (rowF j (l.drop j))))
section
open Evl
theorem FolAt.mono {H H' : Hp} {l : List Nat} {p : Addr} (h : FolAt H l p) (e : Ex H H') : FolAt H' l p := by
  obtain ⟨ds, h1, h2, h3⟩ := h
  exact ⟨ds, h1, e _ _ h2, fun j d hj => e _ _ (h3 j d hj)⟩
def spFol : Sp := fun vs H Q _ => ∃ l : List Nat, vs = [vS l] ∧ l.length ≤ 30000 ∧ ∀ p H', H p = none → Ex H H' → FolAt H' l p → Q (.ref p) H'
variable {P : Program} {w : World} {K : PySem.W.Frag} {mg : Str → Option Value} {base : Heap}
theorem atI_end {α : Type} {xs : List α} {v : α} (h : xs[xs.length - 1]? = some v) : atI xs (-1) = some v := by
  have h1 := (List.getElem?_eq_some_iff.mp h)
  obtain ⟨h2, h3⟩ := h1
  have e : xs = xs.dropLast ++ [v] := by
    rw [← h3, ← List.getLast_eq_getElem (by intro z; rw [z] at h2; cases h2)]
    exact (List.dropLast_concat_getLast _).symm
  rw [e]
  exact atI_last _ _
theorem drop_at {l : List Nat} {k : Nat} (h : k < l.length) : l.drop k = l.getD k 0 :: l.drop (k + 1) := by
  rw [List.drop_eq_getElem_cons h, List.getD_eq_getElem?_getD, List.getElem?_eq_getElem h]
  rfl
theorem atI_ch {l : List Nat} {k : Nat} (h : k < l.length) : atI (mkS l).cps.toList (k : Int) = some (l.getD k 0) := by
  rw [mkS_list]
  refine atI_nat ?_
  rw [List.getElem?_eq_getElem h, List.getD_eq_getElem?_getD, List.getElem?_eq_getElem h]
  rfl
end
/-! ### the numbers of pieces -/
theorem putK_length_le {κ : Type} [DecidableEq κ] (kvs : List (κ × V)) (k : κ) (v : V) : (putK kvs k v).length ≤ kvs.length + 1 := by
  unfold putK
  split
  · rw [List.length_map]
    omega
  · rw [List.length_append]
    exact Nat.le_refl _
def newRow (n : Nat) (sh tw : List Int) : List Int := 1 :: (List.range n).map fun m => sh.getD (m + 1) 0 + sh.getD m 0 - tw.getD m 0
def zeroRow (n : Nat) : List Int := List.replicate (n + 1) 0
def allC (n : Nat) : Nat → List Nat → List (List Int)
  | _, [] => [1 :: List.replicate n 0]
  | o, c :: r => newRow n ((allC n (o + 1) r).getD 0 []) (match valA (rowF (o + 1) r) c with
    | none => zeroRow n
    | some b => (allC n (o + 1) r).getD (b - (o + 1)) []) :: allC n (o + 1) r
def cR (l : List Nat) (i : Nat) : List Int := (allC l.length i (l.drop i)).getD 0 []
theorem allC_at {l : List Nat} {i : Nat} (h : i < l.length) : allC l.length i (l.drop i) = newRow l.length ((allC l.length (i + 1) (l.drop (i + 1))).getD 0 []) (match valA (rowF (i + 1) (l.drop (i + 1))) (l.getD i 0) with
    | none => zeroRow l.length
    | some b => (allC l.length (i + 1) (l.drop (i + 1))).getD (b - (i + 1)) []) :: allC l.length (i + 1) (l.drop (i + 1)) := by
  rw [drop_at h]
  rfl
theorem allC_getD (l : List Nat) : ∀ (j i : Nat), i + j ≤ l.length → (allC l.length i (l.drop i)).getD j [] = cR l (i + j)
  | 0, i, _ => rfl
  | j + 1, i, h => by
    rw [allC_at (show i < l.length by omega)]
    have ih := allC_getD l j (i + 1) (by omega)
    have e : i + 1 + j = i + (j + 1) := by omega
    rw [← e, ← ih]
    rfl
theorem putA_any {kvs : List (Nat × Nat)} {c b : Nat} {x : Nat × Nat} (h : x ∈ putA kvs c b) : x ∈ kvs ∨ x = (c, b) := by
  unfold putA at h
  split at h
  · obtain ⟨e, he, h2⟩ := List.mem_map.mp h
    split at h2
    · rename_i h3
      right
      rw [← h2, h3]
    · left
      rw [← h2]
      exact he
  · rcases List.mem_append.mp h with h2 | h2
    · exact .inl h2
    · exact .inr (List.mem_singleton.mp h2)
theorem rowF_bd : ∀ (l : List Nat) (o : Nat) (x : Nat × Nat), x ∈ rowF o l → o + 1 ≤ x.2 ∧ x.2 ≤ o + l.length
  | [], _, _, h => by cases h
  | c :: r, o, x, h => by
    rcases putA_any (show x ∈ putA (rowF (o + 1) r) c (o + 1) from h) with h2 | h2
    · have ih := rowF_bd r (o + 1) x h2
      have e : (c :: r).length = r.length + 1 := rfl
      omega
    · rw [h2]
      have e : (c :: r).length = r.length + 1 := rfl
      exact ⟨Nat.le_refl _, by show o + 1 ≤ _; omega⟩
theorem valA_mem {kvs : List (Nat × Nat)} {c b : Nat} (h : valA kvs c = some b) : (c, b) ∈ kvs := by
  unfold valA at h
  rw [Option.map_eq_some_iff] at h
  obtain ⟨e, h1, h2⟩ := h
  have h3 := List.find?_some h1
  have h4 : e.1 = c := by simpa using h3
  have h5 := List.mem_of_find?_eq_some h1
  rw [← h2, ← h4]
  exact h5
theorem valA_bd {l : List Nat} {i c b : Nat} (hi : i ≤ l.length) (h : valA (rowF i (l.drop i)) c = some b) : i + 1 ≤ b ∧ b ≤ l.length := by
  have h2 := rowF_bd _ _ _ (valA_mem h)
  rw [List.length_drop] at h2
  have h3 : i + 1 ≤ b ∧ b ≤ i + (l.length - i) := h2
  omega
theorem cR_end (l : List Nat) : cR l l.length = 1 :: List.replicate l.length 0 := by
  unfold cR
  rw [List.drop_length]
  rfl
theorem cR_step {l : List Nat} {i : Nat} (h : i < l.length) : cR l i = newRow l.length (cR l (i + 1)) (match valA (rowF (i + 1) (l.drop (i + 1))) (l.getD i 0) with
    | none => zeroRow l.length
    | some b => cR l b) := by
  have e : cR l i = newRow l.length ((allC l.length (i + 1) (l.drop (i + 1))).getD 0 []) (match valA (rowF (i + 1) (l.drop (i + 1))) (l.getD i 0) with
    | none => zeroRow l.length
    | some b => (allC l.length (i + 1) (l.drop (i + 1))).getD (b - (i + 1)) []) := by
    unfold cR
    rw [allC_at h]
    rfl
  rw [e]
  cases hv : valA (rowF (i + 1) (l.drop (i + 1))) (l.getD i 0) with
  | none => rfl
  | some b =>
    have hb := valA_bd (by omega) hv
    have e2 := allC_getD l (b - (i + 1)) (i + 1) (by omega)
    have e3 : i + 1 + (b - (i + 1)) = b := by omega
    rw [e3] at e2
    show newRow l.length _ ((allC l.length (i + 1) (l.drop (i + 1))).getD (b - (i + 1)) []) = newRow l.length _ (cR l b)
    rw [e2]
    rfl
theorem newRow_len (n : Nat) (a b : List Int) : (newRow n a b).length = n + 1 := by
  unfold newRow
  rw [List.length_cons, List.length_map, List.length_range]
theorem cR_len {l : List Nat} {i : Nat} (h : i ≤ l.length) : (cR l i).length = l.length + 1 := by
  by_cases e : i = l.length
  · rw [e, cR_end, List.length_cons, List.length_replicate]
  · rw [cR_step (by omega), newRow_len]
def intV (l : List Int) : List V := l.map V.int
theorem intV_len (l : List Int) : (intV l).length = l.length := List.length_map _
theorem intV_at {l : List Int} {j : Nat} (h : j < l.length) : atI (intV l) (j : Int) = some (V.int (l.getD j 0)) := by
  refine atI_nat ?_
  unfold intV
  rw [List.getElem?_map, List.getElem?_eq_getElem h, List.getD_eq_getElem?_getD, List.getElem?_eq_getElem h]
  rfl
/-- the numbers of l stand at a -/
def NumAt (H0 H : Hp) (l : List Nat) (a : Addr) : Prop := ∃ kvs : List (Key × V), H a = some (.dK kvs) ∧ ∀ i, i ≤ l.length → ∃ r, valV kvs (Sum.inl (i : Int)) = some (.ref r) ∧ H0 r = none ∧ H r = some (.lst (intV (cR l i)))
section
open Evl
variable {P : Program} {w : World} {K : PySem.W.Frag} {mg : Str → Option Value} {base : Heap} {σ : L2.St} {H : Hp} {ta tb td ty : TE} {v : V}
theorem el_cat {xs ys : List V} (ha : EvL ta σ H xs) (hb : EvL tb σ H ys) (hz : xs.length + ys.length ≤ 100000) : EvL (tOp rCat ta tb) σ H (xs ++ ys) := fun H1 e Q k =>
  ha H1 e _ fun p H2 hp e2 h2 => hb H2 (e.trans e2) _ fun q H3 hq e3 h3 => ⟨p, q, xs, ys, rfl, rfl, e3 p _ h2, h3, sz_of hz, fun t ht => k t _ (fresh_back (e2.trans e3) ht) ((e2.trans e3).trans (Ex.new ht)) upd_same⟩
theorem el_rep {xs : List V} {n : Int} (ha : EvL ta σ H xs) (hb : ∀ H1, Ex H H1 → Ev tb σ H1 (.int n)) (h0 : 0 ≤ n) (hz : (xs.length : Int) * n ≤ 100000) (hn : n ≤ 100000) : EvL (tOp rRep ta tb) σ H (List.replicate n.toNat xs).flatten := fun H1 e Q k =>
  ha H1 e _ fun p H2 hp e2 h2 => hb H2 (e.trans e2) H2 (Ex.refl H2) _ fun H3 e3 => ⟨p, n, xs, rfl, rfl, e3 p _ h2, by omega, by omega, sz_of (by
    have e4 : ((xs.length * n.toNat : Nat) : Int) = (xs.length : Int) * n := by
      rw [Int.natCast_mul, Int.toNat_of_nonneg h0]
    omega), fun t ht => k t _ (fresh_back (e2.trans e3) ht) ((e2.trans e3).trans (Ex.new ht)) upd_same⟩
theorem flat_rep (n : Nat) (x : V) : (List.replicate n [x]).flatten = List.replicate n x := by
  induction n with
  | zero => rfl
  | succ n ih =>
    rw [List.replicate_succ, List.flatten_cons, ih, List.replicate_succ]
    rfl
theorem ev_dget {a : Addr} {kvs : List (Key × V)} {k : Key} (hd : Ev td σ H (.ref a)) (hy : Ev ty σ H (kV k)) (ha : H a = some (.dK kvs)) (hv : valV kvs k = some v) : Ev (tDGet td ty) σ H v := fun H1 e Q q =>
  hd H1 e _ fun H2 e2 => hy H2 (e.trans e2) _ fun H3 e3 => ⟨a, v, rfl, by
    have g := DGet.k (k := k) (((e.trans e2).trans e3) a _ ha)
    rw [hv] at g
    exact g, q H3 (e2.trans e3)⟩
theorem ev_dget1 {a : Addr} {kvs : List (Key × V)} {k : Key} (hd : Ev td σ H (.ref a)) (hy : Ev ty σ H (kV k)) (ha : H a = some (.dK kvs)) (hv : (valV kvs k).getD .non = v) : Ev (tDGet1 td ty) σ H v := fun H1 e Q q =>
  hd H1 e _ fun H2 e2 => ⟨a, rfl, .inl ⟨kvs, .inl ((e.trans e2) a _ ha)⟩, hy H2 (e.trans e2) _ fun H3 e3 => ⟨valV kvs k, DGet.k (((e.trans e2).trans e3) a _ ha), by
    rw [hv]
    exact q H3 (e2.trans e3)⟩⟩
theorem rv_isN {x : V} : RV rIsN x .non H (.bl (decide (x = .non))) := fun H1 _ _ q => ⟨rfl, q H1 (Ex.refl H1)⟩
theorem natV_eq (n : Nat) : List.replicate n (V.int 0) = intV (List.replicate n 0) := by
  unfold intV
  rw [List.map_replicate]
theorem ev_lenS {i : Nat} {l : List Nat} (hi : σ[i]? = some (some (vS l))) (hl : l.length ≤ 30000) : Ev (tCB rLenT (tCons (tVar i) tNil)) σ H (.int (l.length : Int)) :=
  ev_cb (ea_cons (ev_var hi) ea_nil) (rc_lenS hl)
end
/-! ### sorted(d.items()) of a dict from signs to ints -/
def leP (p q : Nat × Nat) : Bool := decide (p.1 < q.1 ∨ (p.1 = q.1 ∧ p.2 ≤ q.2))
def encP (b : Nat × Nat) : PyData := .tuple [.str (sg b.1), .int (b.2 : Int)]
def insA (x : Nat × Nat) : List (Nat × Nat) → List (Nat × Nat)
  | [] => [x]
  | y :: r => if leP x y = true then x :: y :: r else y :: insA x r
def sortA : List (Nat × Nat) → List (Nat × Nat)
  | [] => []
  | x :: r => insA x (sortA r)
theorem leP_trans {a b c : Nat × Nat} (h1 : leP a b = true) (h2 : leP b c = true) : leP a c = true := by
  have h3 := of_decide_eq_true h1
  have h4 := of_decide_eq_true h2
  exact decide_eq_true (by omega)
theorem leP_total (a b : Nat × Nat) : leP a b = true ∨ leP b a = true := by
  by_cases h : a.1 < b.1 ∨ (a.1 = b.1 ∧ a.2 ≤ b.2)
  · exact .inl (decide_eq_true h)
  · exact .inr (decide_eq_true (by omega))
theorem leP_anti {a b : Nat × Nat} (h1 : leP a b = true) (h2 : leP b a = true) : a = b := by
  have h3 := of_decide_eq_true h1
  have h4 := of_decide_eq_true h2
  exact Prod.ext (by omega) (by omega)
theorem insA_perm (x : Nat × Nat) : ∀ l : List (Nat × Nat), (insA x l).Perm (x :: l)
  | [] => List.Perm.refl _
  | y :: r => by
    show (if leP x y = true then x :: y :: r else y :: insA x r).Perm (x :: y :: r)
    split
    · exact List.Perm.refl _
    · exact ((insA_perm x r).cons y).trans (List.Perm.swap x y r)
theorem sortA_perm : ∀ l : List (Nat × Nat), (sortA l).Perm l
  | [] => List.Perm.refl _
  | x :: r => (insA_perm x (sortA r)).trans ((sortA_perm r).cons x)
theorem insA_sorted (x : Nat × Nat) : ∀ l : List (Nat × Nat), l.Pairwise (fun a b => leP a b = true) → (insA x l).Pairwise (fun a b => leP a b = true)
  | [], _ => List.pairwise_singleton _ _
  | y :: r, h => by
    show (if leP x y = true then x :: y :: r else y :: insA x r).Pairwise _
    rw [List.pairwise_cons] at h
    split
    · rename_i hxy
      rw [List.pairwise_cons]
      refine ⟨fun z hz => ?_, List.pairwise_cons.mpr h⟩
      rcases List.mem_cons.mp hz with e | e
      · rw [e]
        exact hxy
      · exact leP_trans hxy (h.1 z e)
    · rename_i hxy
      rw [List.pairwise_cons]
      refine ⟨fun z hz => ?_, insA_sorted x r h.2⟩
      rcases List.mem_cons.mp ((insA_perm x r).mem_iff.mp hz) with e | e
      · rw [e]
        exact (leP_total x y).resolve_left hxy
      · exact h.1 z e
theorem sortA_sorted : ∀ l : List (Nat × Nat), (sortA l).Pairwise (fun a b => leP a b = true)
  | [] => List.Pairwise.nil
  | x :: r => insA_sorted x _ (sortA_sorted r)
theorem merge_eq (kvs : List (Nat × Nat)) : kvs.mergeSort leP = sortA kvs := by
  have h1 : (kvs.mergeSort leP).Pairwise (fun a b => leP a b = true) := List.pairwise_mergeSort (le := leP) (fun a b c => leP_trans) (fun a b => by
    rcases leP_total a b with h | h <;> simp [h]) kvs
  exact List.Perm.eq_of_pairwise (fun a b _ _ h2 h3 => leP_anti h2 h3) h1 (sortA_sorted kvs) ((List.mergeSort_perm kvs leP).trans (sortA_perm kvs).symm)
theorem sg_lt (a b : Nat) : decide ((sg a).cps.toList < (sg b).cps.toList) = decide (a < b) := by
  have e1 : (sg a).cps.toList = [a] := rfl
  have e2 : (sg b).cps.toList = [b] := rfl
  rw [e1, e2]
  apply decide_eq_decide.mpr
  constructor
  · intro h
    cases h with
    | rel h => exact h
    | cons h => cases h
  · intro h
    exact List.Lex.rel h
theorem le_item : PySem.W.dataLe false encP = leP := by
  funext p q
  show (!PySem.W.dataLt (.tuple [.str (sg q.1), .int (q.2 : Int)]) (.tuple [.str (sg p.1), .int (p.2 : Int)])) = leP p q
  rw [PySem.W.dataLt_pair rfl rfl, PySem.W.dataLt_str, PySem.W.dataLt_int, sg_lt]
  have e1 : PyData.eqv (.str (sg q.1)) (.str (sg p.1)) = decide (q.1 = p.1) := by
    show decide (sg q.1 = sg p.1) = _
    exact decide_eq_decide.mpr ⟨sg_inj, fun h => by rw [h]⟩
  have e2 : PyData.eqv (.int (q.2 : Int)) (.int (p.2 : Int)) = decide (q.2 = p.2) := by
    show decide ((q.2 : Int) = (p.2 : Int)) = _
    apply decide_eq_decide.mpr
    omega
  rw [e1, e2]
  unfold leP
  by_cases h1 : q.1 = p.1 <;> by_cases h2 : q.2 = p.2 <;> by_cases h3 : q.1 < p.1 <;> by_cases h4 : (q.2 : Int) < p.2 <;> simp [h1, h2, h3, h4] <;> omega
section
open Evl PySem.W LiI
variable {X : Cx} {e : Expr} {te : TE} {p apos cpos pos : Pos}
def tSortIt (te : TE) : TE := fun σ H Q => te σ H fun x H1 => ∃ (d : Addr) (kvs : List (Nat × Nat)), x = .ref d ∧ H1 d = some (.dK (embK kvs)) ∧ kvs.length ≤ 1000 ∧
  ∀ (H' : Hp) (p : Addr) (ts : List Addr), Ex H1 H' → H1 p = none → H' p = some (.lst (ts.map V.ref)) → Paired (fun (t : Addr) (q : Nat × Nat) => H' t = some (.tup [.str (sg q.1), .int (q.2 : Int)])) ts (sortA kvs) → Q (.ref p) H'
theorem emb_at {kvs : List (Nat × Nat)} {j : Nat} {q : Key × V} (h : (embK kvs)[j]? = some q) : ∃ b, kvs[j]? = some b ∧ q = ((Sum.inr (sg b.1) : Key), V.int (b.2 : Int)) := by
  unfold embK at h
  rw [List.getElem?_map] at h
  cases e : kvs[j]? with
  | none =>
    rw [e] at h
    cases h
  | some b =>
    rw [e] at h
    exact ⟨b, rfl, (Option.some.inj h).symm⟩
theorem each_of {α β : Type} {R : α → β → Prop} : ∀ {as : List α} {bs : List β}, as.length = bs.length → (∀ (j : Nat) (a : α) (b : β), as[j]? = some a → bs[j]? = some b → R a b) → EachIs R as bs
  | [], [], _, _ => .nil
  | [], _ :: _, h, _ => by cases h
  | _ :: _, [], h, _ => by cases h
  | a :: as, b :: bs, h, k => .cons (k 0 a b rfl rfl) (each_of (Nat.succ.inj h) fun j x y h1 h2 => k (j + 1) x y h1 h2)
theorem each_refs {F : Addr → Nat × Nat → Prop} : ∀ {out : List Value} {bs : List (Nat × Nat)}, EachIs (fun v b => ∃ a, v = Value.ref a ∧ F a b) out bs → ∃ ts : List Addr, out = ts.map Value.ref ∧ Paired F ts bs
  | _, _, .nil => ⟨[], rfl, .nil⟩
  | _, _, .cons ⟨a, e, f⟩ t => by
    obtain ⟨ts, e1, e2⟩ := each_refs t
    exact ⟨a :: ts, by rw [e, e1]; rfl, .cons f e2⟩
theorem pair_get {α β : Type} {F : α → β → Prop} : ∀ {xs : List α} {ys : List β}, Paired F xs ys → ∀ {i : Nat} {x : α} {y : β}, xs[i]? = some x → ys[i]? = some y → F x y
  | _, _, .nil, i, x, y, h, _ => by cases h
  | _, _, .cons r t, 0, x, y, h, h2 => by
    cases h
    cases h2
    exact r
  | _, _, .cons r t, i + 1, x, y, h, h2 => pair_get t (i := i) h h2
theorem pair_to {α β : Type} {F G : α → β → Prop} : ∀ {xs : List α} {ys : List β}, Paired F xs ys → (∀ x y, F x y → G x y) → Paired G xs ys
  | _, _, .nil, _ => .nil
  | _, _, .cons r t, k => .cons (k _ _ r) (pair_to t k)
/-- a new list at B and new pairs at as are tracked -/
theorem laid_pairs {pins : List (Addr × Obj)} {σ : L2.St} {H : Hp} {s : Shared} {h2 : Heap} {tk : Nat} {kvs : List (Nat × Nat)} {as ts : List Addr} {B : Addr} (I : Inv X pins σ H s) (hk : ∀ b o, s.heap.get? b = some o → h2.get? b = some o)
    (hB : s.heap.objs.size ≤ B) (hA : ∀ t ∈ as, s.heap.objs.size ≤ t) (nd : as.Nodup) (nB : B ∉ as) (hl : as.length = kvs.length) (hz : ts.length ≤ sizeLine)
    (oB : ∃ c, h2.get? B = some { cls := .type "list", data := .seq (ts.map Value.ref).toArray c })
    (oT : ∀ (j : Nat) (t : Addr) (q : Nat × Nat), as[j]? = some t → kvs[j]? = some q → ∃ u v, h2.get? t = some { cls := .type "tuple", data := .seq #[Value.str (sg q.1) u, Value.int (q.2 : Int) v] }) :
    ∃ H' : Hp, Ex H H' ∧ H B = none ∧ H' B = some (.lst (ts.map V.ref)) ∧ (∀ (j : Nat) (t : Addr) (q : Nat × Nat), as[j]? = some t → kvs[j]? = some q → H' t = some (.tup [.str (sg q.1), .int (q.2 : Int)])) ∧ Inv X pins σ H' { s with heap := h2, toks := tk } := by
  have newA : ∀ t ∈ as, H t = none := fun t ht => I.hok.fresh (hA t ht)
  have newB : H B = none := I.hok.fresh hB
  have hl2 : as.length = (embK kvs).length := by rw [embK_len, hl]
  have paired := putT_at as (embK kvs) (upd H B (.lst (ts.map V.ref))) hl2 nd
  have away : ∀ b, b ∉ as → b ≠ B → putT (upd H B (.lst (ts.map V.ref))) as (embK kvs) b = H b := fun b n1 n2 => by rw [putT_off as (embK kvs) _ n1, upd_ne n2]
  have grow : ∀ b u, H b = some u → putT (upd H B (.lst (ts.map V.ref))) as (embK kvs) b = some u := fun b u e => by
    rw [away b (fun z => by rw [newA b z] at e; cases e) (fun z => by rw [z, newB] at e; cases e)]
    exact e
  have atB : putT (upd H B (.lst (ts.map V.ref))) as (embK kvs) B = some (.lst (ts.map V.ref)) := by rw [putT_off as (embK kvs) _ nB, upd_same]
  have atT : ∀ (j : Nat) (t : Addr) (q : Nat × Nat), as[j]? = some t → kvs[j]? = some q → putT (upd H B (.lst (ts.map V.ref))) as (embK kvs) t = some (.tup [.str (sg q.1), .int (q.2 : Int)]) := fun j t q h1 h3 => by
    have e2 : (embK kvs)[j]? = some ((Sum.inr (sg q.1) : Key), V.int (q.2 : Int)) := by
      unfold embK
      rw [List.getElem?_map, h3]
      rfl
    exact pair_get paired h1 e2
  have old : ∀ b o, s.heap.get? b = some o → b ∉ as ∧ b ≠ B := fun b o e => ⟨fun z => absurd (Heap.lt_size e) (Nat.not_lt.mpr (hA b z)), fun z => absurd (Heap.lt_size e) (Nat.not_lt.mpr (by rw [z]; exact hB))⟩
  refine ⟨putT (upd H B (.lst (ts.map V.ref))) as (embK kvs), grow, newB, atB, atT, ?_⟩
  refine I.call' (ch := []) rfl ⟨fun b o x _ _ _ => hk b o x, fun b o x _ _ _ => ⟨o.slots, hk b o x⟩, fun b o x n _ => ?_, fun b o x _ => ⟨o, hk b o x⟩, fun b xs x => grow b _ x, fun b o u x => grow b _ x, fun b ps x => ⟨#[], by rw [grow b _ x]; simp⟩⟩ (fun b u x => ?_) I.bare fun b z => by simp at z
  · obtain ⟨z1, z2⟩ := old b o x
    rw [away b z1 z2]
    exact n
  · by_cases hb : b ∈ as
    · obtain ⟨j, hj, ej⟩ := List.mem_iff_getElem.mp hb
      have e1 : as[j]? = some b := by rw [List.getElem?_eq_getElem hj, ej]
      have hj2 : j < kvs.length := by omega
      have e2 : kvs[j]? = some kvs[j] := List.getElem?_eq_getElem hj2
      rw [atT j b _ e1 e2] at x
      cases x
      obtain ⟨u1, v1, g⟩ := oT j b _ e1 e2
      exact ⟨by show 2 ≤ sizeLine; decide, [Value.str (sg kvs[j].1) u1, Value.int (kvs[j].2 : Int) v1], .cons ⟨_, rfl⟩ (.cons ⟨_, rfl⟩ .nil), ⟨_, g, rfl, _, rfl⟩⟩
    · by_cases hb2 : b = B
      · rw [hb2] at x ⊢
        rw [atB] at x
        cases x
        obtain ⟨c, g⟩ := oB
        exact ⟨by rw [List.length_map]; exact hz, ts.map Value.ref, c, LiI.vals_refs ts, g⟩
      · rw [away b hb hb2] at x
        exact (I.hok b u x).stay (fun d v _ y => hk d v y) (fun d y => grow d _ y) fun d xs y => grow d _ y
theorem pe_sortedItems (hr : Room 0 X.A) (hc : X.calm = true) (he : PE X e te) (hg : Gl X "sorted") (hm : X.mg "sorted" = none) (hbase : attributeBase e "items" X.env (eval e X.env) = eval e X.env := by rfl) (hline : (apos.endLine == cpos.line) = true := by rfl)
    (hs : starEach [.Call (.Attribute e "items" apos) [] [] cpos] X.env = (false, eval (.Call (.Attribute e "items" apos) [] [] cpos) X.env) :: starEach [] X.env := by rfl) :
    PE X (.Call (.Name "sorted" p) [.Call (.Attribute e "items" apos) [] [] cpos] [] pos) (tSortIt te) := by
  refine ⟨fun pins s σ H Q I hq => ?_⟩
  have hv : bootBuiltins "sorted" = some (.builtin "sorted") := by decide +kernel
  refine wpAny_Call_Name_kw (ld_blt I hg hm hv ?_)
  refine PyProof.Rows.callWith_builtin1 ?_ hs rfl
  rw [hs]
  show wpAny _ _ (spliced ((false, eval (.Call (.Attribute e "items" apos) [] [] cpos) X.env) :: backTo pos (starEach [] X.env))) _ _ s
  refine Calls.spliced_cons ?_
  refine wpAny_Call_method (T := "dict") (id := "dict.items") hbase rfl hline F.plainAttrs_dict F.slot_dict_items F.type_dict_items (thn (he.run pins s σ H _ I hq) fun u s1 ⟨x, H1, I1, rx, d, kvs, ex, hd, hkl, q⟩ => ?_)
  subst ex
  obtain rfl : u = Value.ref d := rx
  obtain ⟨hz, hs0, vs, kv, hdo⟩ := I1.hok d _ hd
  obtain ⟨ep, hat⟩ := hdo.dictAt
  have lk : (embK kvs).length = vs.length := Paired.length kv
  have lk2 : kvs.length = vs.length := by rw [← lk, embK_len]
  have I2 : Inv X pins σ H1 { s1 with heap := s1.heap.push { cls := .type "dict_items", data := .fields #[.ref d] } } := I1.kept (t' := s1.toks) fun b ob q => Heap.get?_push_of_some _ q
  refine ⟨hdo.typeIs, hdo.mapOf.noDict, ?_⟩
  show wpAny _ _ (callWith cpos (.builtin "dict.items") [.ref d] [] []) _ X.xe s1
  refine method_meetsIn F.slot_dict_items F.entry_dict_items rfl (PySem.evalArgs_none ⟨rfl, hdo.typeIs, F.args_dict_items_1 _, _, meets_dict_items (mixKind X.prog X.w) d hs0, ⟨vs, hdo⟩, ?_⟩)
  refine Calls.spliced_nil ?_
  refine Calls.call_function_entry kind_sorted plain_sorted entry_sorted (args_sorted1 _) ?_
  unfold Builtin.«sorted»
  refine wpAny_bind (m := checkCount "sorted" 1 1 _) (wpAny_pure ?_)
  refine wpAny_bind (kdx_collect (A := X.A.in1) (knd := mixKind X.prog X.w) (kvs := vs) (ep := ep) (I1.ok.hd hc) ⟨_, Heap.get?_push_size _ rfl, rfl, rfl⟩ (hat.push _) (by omega) fun h' tk as hk hl hG => ?_)
  refine wpAny_bind (wpAny_newList ?_ (by rw [List.length_map, hl]; omega))
  -- the pairs that stand there
  have pr : ∀ (j : Nat) (a : Addr) (b : Nat × Nat), as[j]? = some a → kvs[j]? = some b → ∃ u v, h'.get? a = some { cls := .type "tuple", data := .seq #[Value.str (sg b.1) u, Value.int (b.2 : Int) v] } := fun j a b ha hb => by
    obtain ⟨key, k, x, f1, f2, f3⟩ := hG.pairs j a ha
    have e2 : (embK kvs)[j]? = some ((Sum.inr (sg b.1) : Key), V.int (b.2 : Int)) := by
      unfold embK
      rw [List.getElem?_map, hb]
      rfl
    have r := pair_get kv e2 f1
    obtain ⟨r1, r2⟩ := r
    obtain ⟨t2, rfl⟩ := r2
    have f2' : keyIs k key = true := f2
    have r1' : (Sum.inr (sg b.1) : Key) = k := r1
    rw [← r1'] at f2'
    rcases keyIs_shape f2' with ⟨i, t, e, _⟩ | ⟨x, t, e, e4⟩
    · cases e
    · have e5 := Sum.inr.inj e
      rw [e4, ← e5] at f3
      exact ⟨t, t2, f3⟩
  have push_ok : ∀ b o, h'.get? b = some o → (h'.push { cls := .type "list", data := .seq (as.map Value.ref).toArray }).get? b = some o := fun b o e => Heap.get?_push_of_some _ e
  have hob : (h'.push { cls := .type "list", data := .seq (as.map Value.ref).toArray }).get? h'.objs.size = some (seqObj "list" (as.map Value.ref).toArray 0) := Heap.get?_push_size _ rfl
  have lak : as.length = kvs.length := by omega
  have s1le : s1.heap.objs.size ≤ h'.objs.size := by
    rcases Nat.lt_or_ge h'.objs.size s1.heap.objs.size with z | z
    · exfalso
      have z2 := hk s1.heap.objs.size _ (Heap.get?_push_size _ rfl)
      exact absurd (Heap.lt_size z2) (Nat.not_lt.mpr (Nat.le_of_lt z))
    · exact z
  have pushsz : (s1.heap.push { cls := .type "dict_items", data := .fields #[.ref d] }).objs.size = s1.heap.objs.size + 1 := size_push' _ _
  have hAs : ∀ t ∈ as, s1.heap.objs.size ≤ t ∧ t < h'.objs.size := fun t ht => ⟨by
    have z : (s1.heap.push { cls := .type "dict_items", data := .fields #[.ref d] }).objs.size < t := hG.above t ht
    rw [pushsz] at z
    omega, hG.there ht⟩
  have ndA : as.Nodup := List.Pairwise.imp (fun {a b} (h : a < b) => Nat.ne_of_lt h) hG.rise
  have hgoal : wpAny (model X.prog X.w) X.A.in1 (call (.builtin "list.sort") [.ref h'.objs.size]) (fun _ s' => EP X pins σ Q (.ref h'.objs.size) s') X.xe { s1 with heap := h'.push { cls := .type "list", data := .seq (as.map Value.ref).toArray }, toks := tk } := by
    refine list_sort_data (s := { s1 with heap := h'.push { cls := .type "list", data := .seq (as.map Value.ref).toArray }, toks := tk }) (bs := kvs) (enc := encP) (R := fun v b => ∃ a, v = Value.ref a ∧ ∃ j : Nat, as[j]? = some a ∧ kvs[j]? = some b) hob
      (each_of (by rw [List.length_map, lak]) fun j v b hv2 hb => ?_) (each_of (by rw [List.length_map, lak]) fun j v b hv2 hb => ?_) (fun x hx y hy => ?_) (.inl fun x hx => ?_) (by rw [sizeLine_eq]; omega) (fun b hb => ?_) (fun out hlen heach => ?_)
    · rw [List.getElem?_map] at hv2
      cases ea : as[j]? with
      | none =>
        rw [ea] at hv2
        cases hv2
      | some a =>
        rw [ea] at hv2
        exact ⟨a, (Option.some.inj hv2).symm, j, ea, hb⟩
    · rw [List.getElem?_map] at hv2
      cases ea : as[j]? with
      | none =>
        rw [ea] at hv2
        cases hv2
      | some a =>
        rw [ea] at hv2
        have ev : Value.ref a = v := Option.some.inj hv2
        rw [← ev]
        obtain ⟨u, v', g⟩ := pr j a b ea hb
        exact ⟨_, Reads.tuple (push_ok _ _ g) rfl rfl (ReadsAll.cons (Reads.str _ _) (ReadsAll.cons (Reads.int _ _) .nil)), by simp⟩
    · obtain ⟨a, _, rfl⟩ := List.mem_map.mp hx
      obtain ⟨b, _, rfl⟩ := List.mem_map.mp hy
      rfl
    · obtain ⟨a, _, rfl⟩ := List.mem_map.mp hx
      exact ⟨_, _, rfl⟩
    · have hun := hr.un
      have hdp : (encP b).depth ≤ 3 := by
        show PyData.depth (.tuple [.str (sg b.1), .int (b.2 : Int)]) ≤ 3
        simp [PyData.depth, PyData.depthAll]
      show X.A.units + 1 + 1 + (encP b).depth < cLine
      omega
    · rw [le_item, merge_eq] at heach
      obtain ⟨ts, e1, e2⟩ := each_refs heach
      rw [e1]
      have hBl : h'.objs.size < (h'.push { cls := .type "list", data := .seq (as.map Value.ref).toArray }).objs.size := Heap.lt_size hob
      have so : ∀ b o, b ≠ h'.objs.size → (h'.push { cls := .type "list", data := .seq (as.map Value.ref).toArray }).get? b = some o → (sortedHeap (h'.push { cls := .type "list", data := .seq (as.map Value.ref).toArray }) h'.objs.size (as.map Value.ref) (ts.map Value.ref).toArray).get? b = some o := fun b o hb e => by
        rw [sortedHeap_old hb (Heap.lt_size e)]
        exact e
      have low : ∀ b o, h'.get? b = some o → b ≠ h'.objs.size := fun b o e => Nat.ne_of_lt (Heap.lt_size e)
      obtain ⟨c, gB⟩ := sortedHeap_at (out := (ts.map Value.ref).toArray) hob
      have hlen2 : ts.length ≤ sizeLine := by
        have z : (ts.map Value.ref).length = kvs.length := by rw [← e1, hlen]
        rw [List.length_map] at z
        rw [sizeLine_eq]
        omega
      obtain ⟨H', x1, x2, x3, x4, J⟩ := laid_pairs (tk := tk) (ts := ts) (h2 := sortedHeap (h'.push { cls := .type "list", data := .seq (as.map Value.ref).toArray }) h'.objs.size (as.map Value.ref) (ts.map Value.ref).toArray) I1
        (fun b o e => have e9 := hk b o (Heap.get?_push_of_some _ e); so b o (low b o e9) (push_ok b o e9)) s1le (fun t ht => (hAs t ht).1) ndA (fun z => absurd (hAs _ z).2 (Nat.lt_irrefl _)) lak hlen2 ⟨c, gB⟩ (fun j t b h1 h3 => by
          obtain ⟨u, v, g⟩ := pr j t b h1 h3
          exact ⟨u, v, so _ _ (low _ _ g) (push_ok _ _ g)⟩)
      exact ⟨.ref h'.objs.size, H', J, rfl, q H' _ ts x1 x2 x3 (pair_to e2 fun t b ⟨j, h1, h3⟩ => x4 j t b h1 h3)⟩
  refine wpAny_bind (wpAny_holding (wpAny_mono hgoal (fun _ s' x => ?_) fun _ _ e => e))
  exact wpAny_pure ⟨_, rfl, x⟩
end
/-! ### enumerate(text) -/
section
open Evl
/-- a text's signs, each with its place in a new pair -/
def ItEs (z : Str) : It := ⟨fun i _ => i < z.cps.size, fun i H v H' => ∃ T c, v = .ref T ∧ H T = none ∧ H' = upd H T (.tup [.int (i : Nat), .str ⟨#[c]⟩]) ∧ z.cps[i]? = some c, fun i _ => z.cps.size ≤ i⟩
theorem turn_enumS {P : Program} {w : World} {K : PySem.W.Frag} {elts : List Expr} {kk : Nat} {tpos : Pos} (z : Str) (t : Tok) (e it : Addr) :
    Turn P w K (.Tuple elts kk tpos) (ItEs z) [e, it] e (fun i h => (∃ old, IsEnum h e it ((i : Nat) : Int) old) ∧ h.IsStrIter it (strIterType z) z t i ∧ e ≠ it ∧ i ≤ z.cps.size) where
  mem := by simp
  obj := fun i h st b hb => by
    obtain ⟨⟨old, he⟩, ⟨o, ho, hc, hd⟩, _⟩ := st
    have two : b = e ∨ b = it := by simpa using hb
    rcases two with q | q
    · rw [q]; exact ⟨_, he, fun v y => nomatch y⟩
    · rw [q]; exact ⟨o, ho, fun v y => by rw [hd] at y; cases y⟩
  keep := fun i h h' st k => let ⟨⟨old, he⟩, ⟨o, ho, r⟩, hne, hle⟩ := st; ⟨⟨old, k e (by simp) _ he⟩, ⟨o, k it (by simp) o ho, r⟩, hne, hle⟩
  item := by
    intro X hP hw hK hc i pins s σ H E I hf st hg
    subst hP hw hK
    obtain ⟨⟨old, he⟩, hit, hne, hle⟩ := st
    have le1 : e < s.heap.objs.size := Heap.lt_size he
    have le2 : it < s.heap.objs.size := by obtain ⟨_, q, _⟩ := hit; exact Heap.lt_size q
    have D := Draws.text (prog := X.prog) (w := X.w) (A := X.A.in1) (I.ok.hd hc) it z t
    refine wpAny_pyNext_enum_itemD D he hit hg hne (by simpa using hne) fun v h' tk hv ho hst2 hT hsz hk => ?_
    obtain ⟨c, u, hcx, rfl⟩ := hv
    refine ⟨_, rfl, wpAny_letOwnedTupleGo_enum (s := { s with heap := h', toks := tk + 1 }) ho fun h2 he2 sb => ?_⟩
    have g := (sb.2 _ (Nat.ne_of_gt le1)).trans hT
    have made : ObjOk X.prog X.w (upd H s.heap.objs.size (.tup [.int (i : Nat), .str ⟨#[c]⟩])) h2 s.heap.objs.size (.tup [.int (i : Nat), .str ⟨#[c]⟩]) :=
      ⟨by show 2 ≤ sizeLine; decide, [.int i tk, .str ⟨#[c]⟩ u], .cons ⟨_, rfl⟩ (.cons ⟨_, rfl⟩ .nil), ⟨_, g, rfl, _, rfl⟩⟩
    have J : Inv X pins σ (upd H s.heap.objs.size (.tup [.int (i : Nat), .str ⟨#[c]⟩])) { s with heap := h2, toks := tk + 1 } :=
      I.turnedNew (ch := [e, it]) (fun b ob hb q => (sb.2 b (fun y => hb (by simp [y]))).trans (hk b ob (fun y => hb (by simp [y])) (fun y => hb (by simp [y])) q)) hf (Nat.le_refl _) made
    obtain ⟨oi, g1, g2⟩ := hst2
    refine ⟨.ref s.heap.objs.size, _, J, rfl, ⟨_, c, rfl, I.hok.fresh (Nat.le_refl _), rfl, hcx⟩, ⟨⟨Value.str ⟨#[c]⟩ u, ?_⟩, ⟨oi, (sb.2 it (Ne.symm hne)).trans g1, g2⟩, hne, hg⟩, fun b hb => ?_⟩
    · have e1 : ((i + 1 : Nat) : Int) = (i : Int) + 1 := by omega
      rw [e1]
      exact he2
    · have hlt : b < s.heap.objs.size := by
        have two : b = e ∨ b = it := by simpa using hb
        rcases two with q | q
        · rw [q]; exact le1
        · rw [q]; exact le2
      rw [upd_ne (Nat.ne_of_lt hlt)]
      exact (hf b hb).1
  done := by
    intro X hP hw hK hc i pins s σ H E I hf st hg
    subst hP hw hK
    obtain ⟨⟨old, he⟩, hit, hne, hle⟩ := st
    obtain ⟨f0, f1, f2, f3, f4, f5⟩ := hf it (by simp)
    have hi : i = z.cps.size := Nat.le_antisymm hle hg
    rw [hi] at hit he
    have D := Draws.text (prog := X.prog) (w := X.w) (A := X.A.in1) (I.ok.hd hc) it z t
    exact wpAny_pyNext_enum_endD D he hit fun h' eb => ⟨rfl, I.turned (t' := s.toks) (fun b o hb q => eb b o hb q) f0 f1 f3 f4 f5⟩
  self := fun A i s Q E st h => let ⟨⟨_, he⟩, _⟩ := st; wpAny_pyIter_enum he h
def iEnumS (ta : TA) : TI := fun σ H R => ta σ H fun vs H1 => ∃ z, vs = [.str z] ∧ R (ItEs z) H1
theorem pi_enumS {X : Cx} {e : Expr} {ta : TA} {p pos tpos : Pos} {elts : List Expr} {kk : Nat} (hg : Gl X "enumerate") (hm : X.mg "enumerate" = none) (ha : PA X [e] ta) (hs : starEach [e] X.env = [(false, eval e X.env)] := by rfl) :
    PI X (.Tuple elts kk tpos) (.Call (.Name "enumerate" p) [e] [] pos) (iEnumS ta) := by
  refine ⟨fun pins s σ H R I h => ?_⟩
  refine Call_ (ld_blt I hg hm boot_enumerate (PyProof.Rows.callWith_type1 (thn (ha.run pos pins s σ H _ I h) fun us s1 ⟨vs, H1, I1, r1, q1⟩ => ?_) hs rfl))
  obtain ⟨z, ex, q⟩ := q1
  subst ex
  cases r1 with
  | cons r rr =>
    cases rr
    obtain ⟨t, rfl⟩ := r
    refine call_enumerate_str fun h' he hit hsz hk => wpAny_pyIter_enum he ?_
    have J : Inv X pins σ H1 { s1 with heap := h' } := I1.kept (t' := s1.toks) hk
    refine ⟨s1.heap.objs.size + 1, [s1.heap.objs.size + 1, s1.heap.objs.size], _, _, H1, rfl, J, turn_enumS z t (s1.heap.objs.size + 1) s1.heap.objs.size, ⟨⟨.none, he⟩, hit, Nat.succ_ne_self _, Nat.zero_le _⟩, fun b hb => ?_, q⟩
    have two : b = s1.heap.objs.size + 1 ∨ b = s1.heap.objs.size := by simpa using hb
    have hle : s1.heap.objs.size ≤ b := by
      rcases two with y | y
      · rw [y]; exact Nat.le_add_right _ _
      · rw [y]; exact Nat.le_refl _
    exact I1.fpOk hle (I1.hok.fresh hle)
theorem walk_enumS {z : Str} : Walk (ItEs z) z.cps.size (fun _ => True) (fun i H v H' => ∃ T c, v = .ref T ∧ H T = none ∧ H' = upd H T (.tup [.int (i : Nat), .str ⟨#[c]⟩]) ∧ z.cps[i]? = some c) :=
  ⟨fun _ _ hi _ => hi, fun _ _ => Nat.le_refl _, fun _ _ _ _ _ _ y => y⟩
end
/-! ### the piece with a number -/
def pickN (f : Nat → Int) : List (Nat × Nat) → Int → Option (Nat × Nat) × Int
  | [], left => (none, left)
  | cb :: r, left => if left < f cb.2 then (some cb, left) else pickN f r (left - f cb.2)
def rowS (l : List Nat) (i : Nat) : List (Nat × Nat) := sortA (rowF i (l.drop i))
def nthM (l : List Nat) : Nat → Nat → Int → List Nat
  | 0, _, _ => []
  | k + 1, pl, left => match pickN (fun b => (cR l b).getD k 0) (rowS l pl) left with
    | (some cb, left') => cb.1 :: nthM l k cb.2 left'
    | (none, left') => nthM l k pl left'
theorem nthM_some {l : List Nat} {k pl : Nat} {left left' : Int} {cb : Nat × Nat} (h : pickN (fun b => (cR l b).getD k 0) (rowS l pl) left = (some cb, left')) : nthM l (k + 1) pl left = cb.1 :: nthM l k cb.2 left' := by
  show (match pickN (fun b => (cR l b).getD k 0) (rowS l pl) left with
    | (some cb, left') => cb.1 :: nthM l k cb.2 left'
    | (none, left') => nthM l k pl left') = _
  rw [h]
theorem nthM_none {l : List Nat} {k pl : Nat} {left left' : Int} (h : pickN (fun b => (cR l b).getD k 0) (rowS l pl) left = (none, left')) : nthM l (k + 1) pl left = nthM l k pl left' := by
  show (match pickN (fun b => (cR l b).getD k 0) (rowS l pl) left with
    | (some cb, left') => cb.1 :: nthM l k cb.2 left'
    | (none, left') => nthM l k pl left') = _
  rw [h]
theorem sortA_mem {kvs : List (Nat × Nat)} {x : Nat × Nat} : x ∈ sortA kvs ↔ x ∈ kvs := (sortA_perm kvs).mem_iff
theorem rowS_bd {l : List Nat} {pl : Nat} (h : pl ≤ l.length) {cb : Nat × Nat} (hm : cb ∈ rowS l pl) : cb.2 ≤ l.length := by
  have h2 := rowF_bd _ _ _ (sortA_mem.mp hm)
  rw [List.length_drop] at h2
  omega
theorem mkS_snoc (l : List Nat) (c : Nat) : mkS l ++ sg c = mkS (l ++ [c]) := by
  show (⟨l.toArray ++ #[c]⟩ : Str) = ⟨(l ++ [c]).toArray⟩
  simp
/-! ### the number of a piece -/
def sumL (l : List Nat) (st c lack : Nat) : List Int := ((rowF st (l.drop st)).filter fun e => decide (e.1 < c)).map fun e => (cR l e.2).getD lack 0
def sumF (l : List Nat) (st c lack : Nat) : Int := (sumL l st c lack).sum
def numM (l : List Nat) : Nat → List Nat → List Nat → Int
  | st, k :: ks, c :: r => sumF l st c r.length + numM l (k + 1) ks r
  | _, _, _ => 0
theorem putA_keys (kvs : List (Nat × Nat)) (c b : Nat) (h : (kvs.map (·.1)).Nodup) : ((putA kvs c b).map (·.1)).Nodup := by
  unfold putA
  split
  · have e : (kvs.map (fun e => if e.1 = c then (e.1, b) else e)).map (·.1) = kvs.map (·.1) := by
      rw [List.map_map]
      apply List.map_congr_left
      intro e _
      show (if e.1 = c then (e.1, b) else e).1 = e.1
      split <;> rfl
    rw [e]
    exact h
  · rename_i hn
    rw [List.map_append, List.nodup_append]
    refine ⟨h, List.pairwise_singleton _ _, fun x hx y hy z => ?_⟩
    have hy2 : y = c := List.mem_singleton.mp hy
    obtain ⟨e, he, h2⟩ := List.mem_map.mp hx
    apply hn
    rw [List.any_eq_true]
    exact ⟨e, he, decide_eq_true (by rw [h2, z, hy2])⟩
theorem rowF_keys : ∀ (l : List Nat) (o : Nat), ((rowF o l).map (·.1)).Nodup
  | [], _ => List.nodup_nil
  | c :: r, o => putA_keys _ _ _ (rowF_keys r (o + 1))
theorem valA_of : ∀ {kvs : List (Nat × Nat)}, (kvs.map (·.1)).Nodup → ∀ {e : Nat × Nat}, e ∈ kvs → valA kvs e.1 = some e.2
  | [], _, _, h => by cases h
  | x :: r, hn, e, h => by
    rw [List.map_cons, List.nodup_cons] at hn
    rcases List.mem_cons.mp h with h1 | h1
    · unfold valA
      rw [List.find?_cons_of_pos (by simp [h1]), h1]
      rfl
    · have ne : ¬ x.1 = e.1 := fun z => hn.1 (by
        rw [z]
        exact List.mem_map.mpr ⟨e, h1, rfl⟩)
      unfold valA
      rw [List.find?_cons_of_neg (by simp [ne])]
      exact valA_of hn.2 h1
theorem numM_step {l : List Nat} {st k c : Nat} {ks r : List Nat} : numM l st (k :: ks) (c :: r) = sumF l st c r.length + numM l (k + 1) ks r := rfl
section
open Evl
variable {K : PySem.W.Frag} {σ : L2.St} {H H' : Hp} {td te : TE} {D : Ends} {tu tz : TS}
theorem el_lock {t : TE} {d : Addr} {kvs : List (Key × V)} {xs : List V} (hd : H d = some (.dK kvs)) (h : ∀ H1, Ex H H1 → ∀ od, EvL t σ (upd H1 d (.frz od (.dK kvs))) xs) : EvL (tLockE t) σ H xs := fun H1 e Q q =>
  ⟨d, .dK kvs, e d _ hd, trivial, fun od => h H1 e od _ (Ex.refl _) _ fun p H2 hp e2 h2 => by
    have npd : p ≠ d := fun z => by
      rw [z, upd_same] at hp
      cases hp
    rw [upd_ne npd] at hp
    refine ⟨e2 d _ upd_same, q p _ hp (fun a o ha => ?_) (by rw [upd_ne npd]; exact h2)⟩
    by_cases hda : a = d
    · rw [hda, upd_same, ← e d _ hd, ← hda]
      exact ha
    · rw [upd_ne hda]
      exact e2 a o (by rw [upd_ne hda]; exact ha)⟩
theorem ew_keys {d : Addr} {o : Obj} {kvs : List (Key × V)} (h : Ev td σ H (.ref d)) (hd : H d = some (.frz o (.dK kvs))) : EvW (iKeys td) σ H kvs.length (fun i => (kvs.map fun kv => kV kv.1).getD i .non) := fun H1 e R k =>
  h H1 e _ fun H2 e2 => ⟨d, o, rfl, .inl ⟨kvs, e2 _ _ (e _ _ hd), k H2 e2 _ _ _ (walk_keys (d := d) (o := o) (kvs := kvs)) (fun i H3 v H4 hi ⟨h1, kk, vv, h2, h3⟩ => ⟨h1, by
    show v = (kvs.map fun kv => kV kv.1).getD i V.non
    rw [List.getD_eq_getElem?_getD, List.getElem?_map, h2, h3]
    rfl⟩) (fun H3 e3 => e3 _ _ (e2 _ _ (e _ _ hd)))⟩⟩
theorem ev_dgetF {td ty : TE} {a : Addr} {o : Obj} {kvs : List (Key × V)} {k : Key} {v : V} (hd : Ev td σ H (.ref a)) (hy : Ev ty σ H (kV k)) (ha : H a = some (.frz o (.dK kvs))) (hv : valV kvs k = some v) : Ev (tDGet td ty) σ H v := fun H1 e Q q =>
  hd H1 e _ fun H2 e2 => hy H2 (e.trans e2) _ fun H3 e3 => ⟨a, v, rfl, .inl ⟨kvs, k, .inr ⟨o, ((e.trans e2).trans e3) a _ ha⟩, rfl, hv.symm⟩, q H3 (e2.trans e3)⟩
theorem given_filter {α : Type} (d : α) (kvs : List α) (P : α → Bool) (g : α → V) : given kvs.length (fun i => P (kvs.getD i d)) (fun i => g (kvs.getD i d)) = (kvs.filter P).map g := by
  unfold given
  have e := range_map_getD d kvs
  have e2 : (kvs.filter P).map g = (((List.range kvs.length).map (fun i => kvs.getD i d)).filter P).map g := by rw [e]
  rw [e2, List.filter_map, List.map_map]
  rfl
/-- for i, c in enumerate(text) -/
theorem q_forES {ta : TA} {z : Str} {j1 j2 : Nat} (h : EvA ta σ H [.str z]) (Pv : Nat → L2.St → Hp → Prop) (h0 : ∀ H1, Ex H H1 → Pv 0 σ H1)
    (hs : ∀ i σ' H' H2, i < z.cps.size → Pv i σ' H' → Ex H' H2 → tu { D with nx := Pv (i + 1), ct := Pv (i + 1), bk := tz D } ((σ'.set j1 (some (.int (i : Nat)))).set j2 (some (.str ⟨#[z.cps.getD i 0]⟩))) H2)
    (hd : ∀ σ' H', Pv z.cps.size σ' H' → tz D σ' H') : tSeq (tFor (iEnumS ta) (gTup K 2 (gCons (gName j1) (gCons (gName j2) gNil))) tu) tz D σ H :=
  h H (Ex.refl H) _ fun H1 e1 => ⟨z, rfl, for_it walk_enumS Pv (h0 H1 e1) (fun _ _ _ _ _ => trivial) (fun i x σ' H3 H4 hi p ⟨T, c, hx, hT, hH, hc⟩ => by
    subst hx hH
    have e3 : z.cps.getD i 0 = c := by
      rw [Array.getD_eq_getD_getElem?, hc]
      rfl
    refine ⟨T, _, rfl, st_of upd_same, rfl, _, _, rfl, _, _, rfl, rfl, ?_⟩
    have g := hs i σ' H3 _ hi p (Ex.new (o := .tup [.int (i : Nat), .str ⟨#[c]⟩]) hT)
    rw [e3] at g
    exact g) hd⟩
end
/-! ### texts repeated, cut -/
def repL (n : Nat) (l : List Nat) : List Nat := (List.replicate n l).flatten
theorem repL_len (n : Nat) (l : List Nat) : (repL n l).length = n * l.length := by
  unfold repL
  induction n with
  | zero =>
    rw [Nat.zero_mul]
    rfl
  | succ n ih => rw [List.replicate_succ, List.flatten_cons, List.length_append, ih, Nat.succ_mul, Nat.add_comm]
theorem foldl_arr (x : Array Nat) : ∀ (n : Nat) (acc : Array Nat), (((List.replicate n x).foldl (· ++ ·) acc)).toList = acc.toList ++ repL n x.toList
  | 0, acc => by
    show acc.toList = acc.toList ++ []
    rw [List.append_nil]
  | n + 1, acc => by
    show (((List.replicate n x).foldl (· ++ ·) (acc ++ x))).toList = _
    rw [foldl_arr x n (acc ++ x), Array.toList_append, List.append_assoc]
    rfl
theorem mul_mk (l : List Nat) (n : Nat) : Txt.mul (mkS l) (n : Int) = mkS (repL n l) := by
  have key : ∀ z : Str, z.cps.toList = repL n l → z = mkS (repL n l) := fun z h => by
    have e : z = mkS z.cps.toList := rfl
    rw [e, h]
  apply key
  unfold Txt.mul
  by_cases h0 : (n : Int) < 1
  · rw [if_pos h0]
    have e : n = 0 := by omega
    rw [e]
    rfl
  · rw [if_neg h0]
    by_cases h1 : ((n : Int) == 1 || (mkS l).length == 0) = true
    · rw [if_pos h1]
      rw [Bool.or_eq_true] at h1
      show l = repL n l
      rcases h1 with h | h
      · have e : n = 1 := by
          have e2 := eq_of_beq h
          omega
        rw [e]
        show l = l ++ []
        rw [List.append_nil]
      · have e2 := eq_of_beq h
        rw [mkS_len] at e2
        have e3 : l = [] := List.eq_nil_of_length_eq_zero e2
        have e4 : (repL n l).length = 0 := by
          rw [repL_len, e2, Nat.mul_zero]
        rw [List.eq_nil_of_length_eq_zero e4, e3]
    · rw [if_neg h1]
      show (((List.replicate ((n : Int)).toNat (mkS l).cps).foldl (· ++ ·) #[])).toList = _
      rw [foldl_arr, Int.toNat_natCast]
      rfl
theorem cut_take (l : List Nat) (k : Nat) : cutS (mkS l) none (some (k : Int)) = mkS (l.take k) := by
  unfold cutS mkS
  have e1 : (⟨l.toArray⟩ : Str).length = l.length := mkS_len l
  rw [e1, HT.sIx_nat, HT.sIx_none]
  show (⟨(List.take (min k l.length - 0) (List.drop 0 l)).toArray⟩ : Str) = ⟨(l.take k).toArray⟩
  rw [Nat.sub_zero, List.drop_zero]
  have e2 : List.take (min k l.length) l = l.take k := by
    by_cases h : k ≤ l.length
    · rw [Nat.min_eq_left h]
    · rw [Nat.min_eq_right (by omega), List.take_of_length_le (Nat.le_refl _), List.take_of_length_le (by omega)]
  rw [e2]
theorem cut_drop (l : List Nat) (k : Nat) : cutS (mkS l) (some (k : Int)) none = mkS (l.drop k) := by
  unfold cutS mkS
  have e1 : (⟨l.toArray⟩ : Str).length = l.length := mkS_len l
  rw [e1, HT.sIx_nat, HT.sIx_none]
  show (⟨(List.take (l.length - min k l.length) (List.drop (min k l.length) l)).toArray⟩ : Str) = ⟨(l.drop k).toArray⟩
  have e2 : List.drop (min k l.length) l = l.drop k := by
    by_cases h : k ≤ l.length
    · rw [Nat.min_eq_left h]
    · rw [Nat.min_eq_right (by omega), List.drop_length, List.drop_of_length_le (by omega)]
  rw [e2, List.take_of_length_le (by rw [List.length_drop]; omega)]
theorem app_mk (l m : List Nat) : mkS l ++ mkS m = mkS (l ++ m) := by
  show (⟨l.toArray ++ m.toArray⟩ : Str) = ⟨(l ++ m).toArray⟩
  simp
section
open Evl
variable {K : PySem.W.Frag} {σ : L2.St} {H : Hp} {ta tb te : TE}
theorem ev_mulS {l : List Nat} {n : Nat} (ha : Ev ta σ H (vS l)) (hb : Ev tb σ H (.int (n : Int))) (hl : l.length ≤ 4000) (hn : n ≤ 4000) : Ev (tOp rMulS ta tb) σ H (vS (repL n l)) :=
  ev_op ha hb fun H1 e Q q => ⟨mkS l, (n : Int), rfl, rfl, by rw [mkS_len]; exact hl, by omega, by omega, by
    rw [mul_mk]
    exact q H1 (Ex.refl H1)⟩
theorem ev_take {l : List Nat} {k : Nat} {th : TO} (ha : Ev te σ H (vS l)) (hh : EvO th σ H (some (k : Int))) (hl : l.length ≤ 100000) : Ev (tSl rSlS te tNoPart th) σ H (vS (l.take k)) := fun H1 e Q q =>
  ha H1 e _ fun H2 e2 => hh H2 (e.trans e2) _ fun H3 e3 => ⟨mkS l, rfl, by rw [mkS_len]; exact sz_of hl, by
    rw [cut_take]
    exact q H3 (e2.trans e3)⟩
theorem ev_drop {l : List Nat} {k : Nat} {tl : TO} (ha : Ev te σ H (vS l)) (hh : EvO tl σ H (some (k : Int))) (hl : l.length ≤ 100000) : Ev (tSl rSlS te tl tNoPart) σ H (vS (l.drop k)) := fun H1 e Q q =>
  ha H1 e _ fun H2 e2 => hh H2 (e.trans e2) _ fun H3 e3 => ⟨mkS l, rfl, by rw [mkS_len]; exact sz_of hl, by
    rw [cut_drop]
    exact q H3 (e2.trans e3)⟩
theorem ev_addS {l m : List Nat} {r : R2} (hr : r = fun x y H Q => ∃ i j, x = V.str i ∧ y = V.str j ∧ i.length + j.length ≤ sizeLine ∧ Q (.str (i ++ j)) H) (ha : Ev ta σ H (vS l)) (hb : Ev tb σ H (vS m)) (hz : l.length + m.length ≤ 100000) : Ev (tOp r ta tb) σ H (vS (l ++ m)) :=
  ev_op ha hb fun H1 e Q q => by
    rw [hr]
    refine ⟨_, _, rfl, rfl, by rw [mkS_len, mkS_len]; exact sz_of hz, ?_⟩
    rw [app_mk]
    exact q H1 (Ex.refl H1)
theorem rc_lenQ {p : Addr} {xs : List V} (h : SqL K H p xs) : RC (rLenQ K) [.ref p] H (.int (xs.length : Int)) := fun H1 e Q q => ⟨p, xs, rfl, .inl (ex_l e h), q H1 (Ex.refl H1)⟩
/-- lists of ints compared -/
theorem dp_ints {H : Hp} {p : Addr} {xs : List Int} (h : H p = some (.lst (intV xs))) : Dp K H (.ref p) (.list (xs.map .int)) := .lst (sq_of h) (by
  unfold intV
  clear h
  induction xs with
  | nil => exact .nil
  | cons x r ih => exact .cons (.int x) ih)
theorem shp_ints (xs : List Int) : SeqAt.shaped (.list (xs.map .int)) = true := by
  have h1 : PyData.canLayAll0 (xs.map PyData.int) = true := by
    induction xs with
    | nil => rfl
    | cons x r ih =>
      show (true && PyData.canLayAll0 (r.map PyData.int)) = true
      rw [ih] <;> rfl
  have h2 : PyData.depthAll (xs.map PyData.int) = 0 := by
    induction xs with
    | nil => rfl
    | cons x r ih =>
      have h3 : PyData.canLayAll0 (r.map PyData.int) = true := (Bool.and_eq_true_iff.mp h1).2
      show max 0 (PyData.depthAll (r.map PyData.int)) = 0
      rw [ih h3] <;> rfl
  show (PyData.canLayAll0 (xs.map PyData.int) && decide (PyData.depthAll (xs.map PyData.int) + 1 ≤ 64)) = true
  rw [h1, h2] <;> rfl
theorem eqv_ints : ∀ xs ys : List Int, PyData.eqv (.list (xs.map .int)) (.list (ys.map .int)) = decide (xs = ys)
  | [], [] => rfl
  | [], y :: ys => by
    show false = decide ([] = y :: ys)
    simp
  | x :: xs, [] => by
    show false = decide (x :: xs = [])
    simp
  | x :: xs, y :: ys => by
    have ih : PyData.eqvAll (xs.map PyData.int) (ys.map PyData.int) = decide (xs = ys) := eqv_ints xs ys
    show ((x == y) && PyData.eqvAll (xs.map PyData.int) (ys.map PyData.int)) = decide (x :: xs = y :: ys)
    rw [ih]
    by_cases h1 : x = y <;> by_cases h2 : xs = ys <;> simp [h1, h2]
theorem rv_eqL {p q : Addr} {xs ys : List Int} (hp : H p = some (.lst (intV xs))) (hq : H q = some (.lst (intV ys))) : RV (rEqD K) (.ref p) (.ref q) H (.bl (decide (xs = ys))) := fun H1 e Q k =>
  ⟨_, _, dp_ints (e _ _ hp), dp_ints (e _ _ hq), shp_ints xs, shp_ints ys, by
    rw [eqv_ints]
    exact k H1 (Ex.refl H1)⟩
theorem rv_neL {p q : Addr} {xs ys : List Int} (hp : H p = some (.lst (intV xs))) (hq : H q = some (.lst (intV ys))) : RV (rNeD K) (.ref p) (.ref q) H (.bl (!decide (xs = ys))) := fun H1 e Q k =>
  ⟨_, _, dp_ints (e _ _ hp), dp_ints (e _ _ hq), shp_ints xs, shp_ints ys, by
    rw [eqv_ints]
    exact k H1 (Ex.refl H1)⟩
end
/-! ### drawn things -/
def TapeAt (tp : Addr) (H : Hp) : Prop := ∃ d m, TapeOk d m ∧ H tp = some (tapeO d m)
/-- all stays but the tape, which stays a tape -/
def ExT (tp : Addr) (H H' : Hp) : Prop := (∀ a o, a ≠ tp → H a = some o → H' a = some o) ∧ TapeAt tp H'
section
open Evl
variable {K : PySem.W.Frag} {tp a : Addr} {H H' H1 H2 : Hp}
theorem ExT.refl (h : TapeAt tp H) : ExT tp H H := ⟨fun _ _ _ e => e, h⟩
theorem ExT.trans (x : ExT tp H H1) (y : ExT tp H1 H2) : ExT tp H H2 := ⟨fun a o n e => y.1 a o n (x.1 a o n e), y.2⟩
theorem TapeAt.ex (h : TapeAt tp H) (e : Ex H H') : TapeAt tp H' := by
  obtain ⟨d, m, ok, ht⟩ := h
  exact ⟨d, m, ok, e _ _ ht⟩
theorem ExT.ex (h : TapeAt tp H) (e : Ex H H') : ExT tp H H' := ⟨fun a o _ x => e a o x, h.ex e⟩
theorem ExT.draw {d m : Int} (ok : TapeOk d m) : ExT tp H (upd H tp (tapeO d m)) := ⟨fun a o n x => by
  rw [upd_ne n]
  exact x, d, m, ok, upd_same⟩
theorem TapeAt.ne (h : TapeAt tp H) (hp : H a = none) : a ≠ tp := fun e => by
  obtain ⟨d, m, _, ht⟩ := h
  rw [e, ht] at hp
  cases hp
theorem ExT.back (h : TapeAt tp H) (e : ExT tp H H') (hp : H' a = none) : H a = none := by
  have hn := e.2.ne hp
  cases h1 : H a with
  | none => rfl
  | some o =>
    rw [e.1 a o hn h1] at hp
    cases hp
theorem ExT.new (h : TapeAt tp H) (e : ExT tp H H') {o : HO} (hp : H' a = none) : ExT tp H (upd H' a o) := e.trans (ExT.ex e.2 (Ex.new hp))
/-- a thing that H does not know may change -/
theorem ExT.mut (e : ExT tp H H') (h : TapeAt tp H) (hp : H a = none) {o : HO} : ExT tp H (upd H' a o) := by
  have hn := h.ne hp
  refine ⟨fun b u nb hb => ?_, ?_⟩
  · rw [upd_ne (ne_of_none hb hp)]
    exact e.1 b u nb hb
  · obtain ⟨d, m, ok, ht⟩ := e.2
    exact ⟨d, m, ok, by rw [upd_ne hn.symm]; exact ht⟩
theorem ExT.rd {u : HO} (n : a ≠ tp) (e : ExT tp H H') (h : Rd H a u) (hf : ∀ d m, H tp = some (tapeO d m) → True) : H a = some u → H' a = some u := fun x => e.1 a u n x
theorem ExT.lst {xs : List V} (t : TapeAt tp H) (e : ExT tp H H') (h : SqL K H a xs) : SqL K H' a xs := by
  have hd : ∀ {o : HO}, H a = some o → (∀ d m, o ≠ tapeO d m) → H' a = some o := fun {o} x hn => e.1 a o (fun y => by
    obtain ⟨d, m, _, ht⟩ := t
    rw [y, ht] at x
    injection x with x1
    exact hn d m x1.symm) x
  rcases h with h | h
  · rcases h with h | ⟨o, h⟩
    · exact Or.inl (Or.inl (hd h fun d m z => by cases z))
    · exact Or.inl (Or.inr ⟨o, hd h fun d m z => by cases z⟩)
  · exact Or.inr h
def rLenV (K : PySem.W.Frag) : List V → Hp → VK → Prop := fun xs H Q => ∃ x n, xs = [x] ∧ LenV K x H n ∧ Q (.int n) H
theorem call_len_v {X : Cx} : CallR X (.builtin "len") (rLenV X.K) := call_len
/-- things of a list, letters of a text -/
def Drawn (K : PySem.W.Frag) (H : Hp) (x : V) (S : V → Prop) (n : Nat) : Prop := (∃ p xs, x = .ref p ∧ SqL K H p xs ∧ xs.length = n ∧ ∀ y ∈ xs, S y) ∨ ∃ l : List Nat, x = vS l ∧ l.length = n ∧ ∀ c ∈ l, S (vS [c])
def spOneOf (K : PySem.W.Frag) : Sp := fun vs H Q _ => ∃ (tp : Addr) (x : V) (S : V → Prop) (n : Nat), vs = [.ref tp, x] ∧ TapeAt tp H ∧ Drawn K H x S n ∧ 1 ≤ n ∧ n ≤ 100000 ∧ ∀ y d m, S y → TapeOk d m → Q y (upd H tp (tapeO d m))
def spDrawn : Sp := fun vs H Q _ => ∃ (tp : Addr) (l : List Nat) (most : Nat), vs = [.ref tp, vS l, .int (most : Int)] ∧ TapeAt tp H ∧ 1 ≤ l.length ∧ l.length ≤ 1000 ∧ most ≤ 1000 ∧
  ∀ t H', t.length ≤ most → (∀ c ∈ t, c ∈ l) → ExT tp H H' → Q (vS t) H'
variable {P : Program} {w : World} {mg : Str → Option Value} {base : Heap}
abbrev nm__law_one_of : List Str := ["tape", "things"]
theorem sc__law_one_of : FnScope nm__law_one_of ["tape", "things"] (defScope s__law_one_of) := ⟨rfl, rfl, rfl, by decide +kernel, rfl, by decide +kernel, by decide +kernel⟩
theorem b__law_one_of {K : PySem.W.Frag} {mg : Str → Option Value} (T : Txt K mg) : Binds K T.d__law_one_of ["tape", "things"] [] := T.F__law_one_of.bindsN fun _ _ _ _ _ _ us hl => match us, hl with | [_, _], _ => rfl
theorem ok__law_one_of (T : Txt K mg) : FnOk P w K mg base CX0 2 T.a__law_one_of T.d__law_one_of ["tape", "things"] (spOneOf K) := by
  refine T.F__law_one_of.ok sc__law_one_of (fun vs H Q E h => ?_) (fun cdv A outer s H vs Q E hr h => ⟨_, PSs.nox (pss_one (ps_ret (pe_ix (ixk (K0 := K) rIx ix_seq rfl) (pv 1) (pe_call (ok__law_pick T) (hr.mono (by decide)) (by rfl) T.g__law_pick T.F__law_pick.kp (b__law_pick T) .nil pass0 (pa_cons (pv 0) (pa_cons (pe_callB (callk (K0 := K) rLenV call_len_v rfl) (by rfl) T.n_len (by decide +kernel) (pa_cons (pv 1) pa_nil)) pa_nil))) (fun _ _ => rfl)))), ?_⟩)
  · obtain ⟨tp, x, S, n, rfl, _⟩ := h
    rfl
  · obtain ⟨tp, x, S, n, rfl, ⟨d, m, ok, ht⟩, hd, h1, h2, k⟩ := h
    have hB : ((n : Int)).natAbs < 2 ^ 1000 := Nat.lt_of_le_of_lt (show ((n : Int)).natAbs ≤ 100000 by omega) (Nat.lt_of_lt_of_le (show 100000 < 2 ^ 17 by decide) (two_mono (by decide)))
    have hT : ExT tp H H := ExT.refl ⟨d, m, ok, ht⟩
    rcases hd with ⟨p, xs, rfl, hx, hn, hS⟩ | ⟨l, rfl, hn, hS⟩
    · refine ⟨_, rfl, _, rfl, _, rfl, _, n, rfl, .inl ⟨xs, hx, hn.symm⟩, tp, d, m, _, rfl, ht, ok, by omega, hB, fun r d' m' r0 r1 ok' => ?_⟩
      obtain ⟨j, rfl⟩ := Int.eq_ofNat_of_zero_le r0
      have hj : j < xs.length := by omega
      exact .inl ⟨p, xs, _, xs[j], rfl, rfl, ExT.lst (K := K) ⟨d, m, ok, ht⟩ (ExT.draw ok') hx, atI_nat (List.getElem?_eq_getElem hj), k _ d' m' (hS _ (List.getElem_mem hj)) ok'⟩
    · refine ⟨_, rfl, _, rfl, _, rfl, _, n, rfl, ⟨by rw [mkS_len, hn]; exact sz_of h2, by rw [mkS_len, hn]⟩, tp, d, m, _, rfl, ht, ok, by omega, hB, fun r d' m' r0 r1 ok' => ?_⟩
      obtain ⟨j, rfl⟩ := Int.eq_ofNat_of_zero_le r0
      have hj : j < l.length := by omega
      exact .inr (.inr ⟨mkS l, _, l[j], rfl, rfl, by rw [mkS_len, hn]; exact sz_of h2, atI_nat (List.getElem?_eq_getElem hj), k _ d' m' (hS _ (List.getElem_mem hj)) ok'⟩)
end
section
open Evl
theorem mtk {X : Cx} {K0 : PySem.W.Frag} {id : String} (r : PySem.W.Frag → V → List V → Hp → VK → Prop) (h : MtR X id (r X.K)) (e : X.K = K0) : MtR X id (r K0) := e ▸ h
def rJoin (K : PySem.W.Frag) : V → List V → Hp → VK → Prop := fun x xs H Q => ∃ a p, ∃ ys : List Str, x = .str a ∧ xs = [.ref p] ∧ (SqL K H p (ys.map V.str) ∨ SqT K H p (ys.map V.str)) ∧
    (ys.map (·.length)).sum + ys.length * a.length ≤ 16777216 ∧ Q (.str (Txt.join a ys)) H
theorem mt_joinq {X : Cx} : MtR X "str.join" (rJoin X.K) := mt_join
theorem join_mk (l : List Nat) : ∀ ys : List (List Nat), Txt.join (mkS l) (ys.map mkS) = mkS (TL.joinL l ys) := fun ys => by
  rw [TL.join_eq]
  have h := TL.tl_join (mkS l) (ys.map mkS)
  rw [List.map_map] at h
  have e : ys.map (TL.tl ∘ mkS) = ys := by
    have e2 : (TL.tl ∘ mkS) = id := rfl
    rw [e2, List.map_id]
  rw [e] at h
  exact TL.ext_tl h
end
section
open Evl
variable {K : PySem.W.Frag} {tp a : Addr} {H H' H1 H2 : Hp}
theorem joinL_flat : ∀ ys : List (List Nat), TL.joinL [] ys = ys.flatten
  | [] => rfl
  | [p] => by
    show p = p ++ []
    rw [List.append_nil]
  | p :: q :: r => by
    show p ++ ([] ++ TL.joinL [] (q :: r)) = p ++ (q :: r).flatten
    rw [List.nil_append, joinL_flat (q :: r)]
theorem one_flat (cs : List Nat) : (cs.map fun c => [c]).flatten = cs := by
  induction cs with
  | nil => rfl
  | cons c r ih =>
    show [c] ++ (r.map fun c => [c]).flatten = c :: r
    rw [ih] <;> rfl
theorem no_str : (mkS []) = ("" : Str) := by decide +kernel
theorem join_ones (cs : List Nat) : Txt.join ("" : Str) (cs.map fun c => mkS [c]) = mkS cs := by
  have h := join_mk [] (cs.map fun c => [c])
  rw [List.map_map, joinL_flat, one_flat, no_str] at h
  exact h
theorem ones_sum (cs : List Nat) : ((cs.map fun c => mkS [c]).map (·.length)).sum = cs.length := by
  induction cs with
  | nil => rfl
  | cons c r ih =>
    show (mkS [c]).length + ((r.map fun c => mkS [c]).map (·.length)).sum = r.length + 1
    rw [ih, mkS_len, Nat.add_comm]
    rfl
variable {P : Program} {w : World} {mg : Str → Option Value} {base : Heap}
theorem repL_mem {n : Nat} {l : List Nat} {c : Nat} (h : c ∈ repL n l) : c ∈ l := by
  unfold repL at h
  obtain ⟨x, hx, hc⟩ := List.mem_flatten.mp h
  rw [List.eq_of_mem_replicate hx] at hc
  exact hc
abbrev nm__law_drawn_text : List Str := ["tape", "letters", "most", "found", "turn", "half"]
theorem sc__law_drawn_text : FnScope nm__law_drawn_text ["tape", "letters", "most"] (defScope s__law_drawn_text) := ⟨rfl, rfl, rfl, by decide +kernel, rfl, by decide +kernel, by decide +kernel⟩
theorem b__law_drawn_text {K : PySem.W.Frag} {mg : Str → Option Value} (T : Txt K mg) : Binds K T.d__law_drawn_text ["tape", "letters", "most"] [] := T.F__law_drawn_text.bindsN fun _ _ _ _ _ _ us hl => match us, hl with | [_, _, _], _ => rfl
theorem ok__law_drawn_text (T : Txt K mg) : FnOk P w K mg base CX0 3 T.a__law_drawn_text T.d__law_drawn_text ["tape", "letters", "most"] spDrawn := by
  refine T.F__law_drawn_text.ok sc__law_drawn_text (fun vs H Q E h => ?_) (fun cdv A outer s H vs Q E hr h => ⟨_, PSs.nox (pss_cons (ps_set (i := 3) sc__law_drawn_text.nd rfl (by first | exact Or.inl rfl | exact Or.inr rfl) (tbmk (K0 := K) (pe_bm PySem.F.plainAttrs_str PySem.F.slot_str_join PySem.F.type_str_join (mtk (K0 := K) rJoin mt_joinq rfl) pe_str (pa_cons (pe_lc (own := [("turn", 4)]) (g := (gName 4)) (tt := tYes)  rfl sc__law_drawn_text.nd (pi_range1 (by rfl) T.n_range (pa_cons (pe_call (ok__law_pick T) (hr.mono (by decide)) (by rfl) T.g__law_pick T.F__law_pick.kp (b__law_pick T) .nil pass0 (pa_cons (pv 0) (pa_cons (pe_op op_add (pv 2) pe_int) pa_nil))) pa_nil)) (blkOk_by (own := [("turn", 4)]) (N := nm__law_drawn_text) (sc := defScope s__law_drawn_text) (by decide +kernel)) (fun _ _ _ _ _ => (pg_name (i := 4) sc__law_drawn_text.nd rfl (by first | exact Or.inl rfl | exact Or.inr rfl))) (fun _ _ _ _ _ => pts_nil) (fun _ _ _ _ _ => (pe_call (ok__law_one_of T) (hr.mono (by decide)) (by rfl) T.g__law_one_of T.F__law_one_of.kp (b__law_one_of T) .nil pass0 (pa_cons (pv 0) (pa_cons (pv 1) pa_nil))))) pa_nil)) rfl))
      (pss_cons (ps_if (PW.pt (pw_and (pt_cmpR op_eq (pe_call (ok__law_pick T) (hr.mono (by decide)) (by rfl) T.g__law_pick T.F__law_pick.kp (b__law_pick T) .nil pass0 (pa_cons (pv 0) (pa_cons pe_int pa_nil))) pe_int (nomark _)) (pw_and1 (pt_cmpR op_gt1 (pe_callB call_len_t (by rfl) T.n_len (by decide +kernel) (pa_cons (pv 3) pa_nil)) pe_int (nomark _))))) (pss_cons (ps_set (i := 5) sc__law_drawn_text.nd rfl (by first | exact Or.inl rfl | exact Or.inr rfl) (pe_slice sl_str (pv 3) po_none (po_some (pe_op op_add pe_int (pe_call (ok__law_pick T) (hr.mono (by decide)) (by rfl) T.g__law_pick T.F__law_pick.kp (b__law_pick T) .nil pass0 (pa_cons (pv 0) (pa_cons pe_int pa_nil)))))))
      (pss_one (ps_set (i := 3) sc__law_drawn_text.nd rfl (by first | exact Or.inl rfl | exact Or.inr rfl) (pe_slice sl_str (pe_op op_mul_str (pv 5) (pe_callB call_len_t (by rfl) T.n_len (by decide +kernel) (pa_cons (pv 3) pa_nil))) po_none (po_some (pe_callB call_len_t (by rfl) T.n_len (by decide +kernel) (pa_cons (pv 3) pa_nil))))))) pss_nil)
      (pss_one (ps_ret (pv 3))))), ?_⟩)
  · obtain ⟨tp, l, most, rfl, _⟩ := h
    rfl
  · obtain ⟨tp, l, most, rfl, hT, h1, h2, h3, k⟩ := h
    have small : ∀ {n : Nat}, n ≤ 100000 → ((n : Int)).natAbs < 2 ^ 1000 := fun {n} hn => Nat.lt_of_le_of_lt (show ((n : Int)).natAbs ≤ 100000 by omega) (Nat.lt_of_lt_of_le (show 100000 < 2 ^ 17 by decide) (two_mono (by decide)))
    obtain ⟨d, m, ok, ht⟩ := id hT
    refine ⟨rfl, _, rfl, _, rfl, _, _, rfl, rfl, tp, d, m, _, rfl, ht, ok, by omega, small (n := most + 1) (by omega), fun r d' m' r0 r1 ok' => ⟨r, rfl, by omega, by omega, fun D hD => ?_⟩⟩
    have x0 : ExT tp H (upd H tp (tapeO d' m')) := ExT.draw ok'
    generalize upd H tp (tapeO d' m') = H0 at *
    have hDH : H D = none := ExT.back hT x0 hD
    refine lc_it (walk_range (lo := 0) (n := r.toNat)) (fun i H' => ∃ cs : List Nat, H' D = some (.lst (cs.map fun c => vS [c])) ∧ cs.length = i ∧ (∀ c ∈ cs, c ∈ l) ∧ ExT tp H H') ⟨[], upd_same, rfl, fun c hc => (by cases hc), ExT.new hT x0 hD⟩ (fun _ _ _ _ => trivial) ?_ ?_
    · rintro i x H3 H4 hi ⟨cs, hD3, hcl, hcm, ex⟩ ⟨rfl, rfl⟩
      refine ⟨rfl, ?_⟩
      unfold tYes
      refine ite2 (fun _ => ?_) (fun z => absurd rfl z)
      refine ⟨_, rfl, _, rfl, tp, _, (fun v => ∃ c ∈ l, v = vS [c]), l.length, rfl, ex.2, .inr ⟨l, rfl, rfl, fun c hc => ⟨c, hc, rfl⟩⟩, h1, by omega, ?_⟩
      rintro y d2 m2 ⟨c, hc, rfl⟩ ok2
      have nD : D ≠ tp := hT.ne hDH
      refine ⟨_, (upd_ne nD).trans hD3, by
        rw [List.length_map]
        exact sz_lt (by omega), cs ++ [c], by
        rw [upd_same, List.map_append]
        rfl, by
        rw [List.length_append, hcl]
        rfl, fun z hz => ?_, ExT.mut (ex.trans (ExT.draw ok2)) hT hDH⟩
      rcases List.mem_append.mp hz with hz | hz
      · exact hcm z hz
      · rw [List.mem_singleton.mp hz]
        exact hc
    · rintro H3 ⟨cs, hD3, hcl, hcm, ex⟩
      refine ⟨_, D, cs.map fun c => mkS [c], rfl, rfl, .inl (sq_of (by
        rw [List.map_map]
        exact hD3)), by
        rw [ones_sum]
        show _ + _ * 0 ≤ _
        omega, ?_⟩
      rw [join_ones]
      clear hD3
      have hcr : cs.length ≤ most := by omega
      -- if the text is repeated in part
      obtain ⟨d3, m3, ok3, ht3⟩ := ex.2
      refine ⟨_, rfl, tp, d3, m3, 3, rfl, ht3, ok3, by decide, small (n := 3) (by decide), fun r3 d4 m4 r30 r31 ok4 => ⟨rfl, _, rfl, ?_⟩⟩
      have x4 : ExT tp H (upd H3 tp (tapeO d4 m4)) := ex.trans (ExT.draw ok4)
      generalize upd H3 tp (tapeO d4 m4) = H5 at *
      refine ite2 (fun c1 => ?_) (fun c1 => ⟨_, rfl, k _ _ hcr hcm x4⟩)
      refine ⟨_, rfl, _, rfl, by rw [mkS_len]; exact sz_of (by omega), _, _, rfl, rfl, _, rfl, ?_⟩
      refine ite2 (fun c2 => ?_) (fun c2 => ⟨_, rfl, k _ _ hcr hcm x4⟩)
      obtain ⟨d5, m5, ok5, ht5⟩ := x4.2
      refine ⟨_, rfl, _, rfl, tp, d5, m5, 3, rfl, ht5, ok5, by decide, small (n := 3) (by decide), fun r5 d6 m6 r50 r51 ok6 => ?_⟩
      have x6 : ExT tp H (upd H5 tp (tapeO d6 m6)) := x4.trans (ExT.draw ok6)
      generalize upd H5 tp (tapeO d6 m6) = H6 at *
      obtain ⟨j, rfl⟩ := Int.eq_ofNat_of_zero_le r50
      have ej : (1 : Int) + ((j : Nat) : Int) = ((1 + j : Nat) : Int) := by omega
      have hlc : (mkS cs).length ≤ sizeLine := by
        rw [mkS_len]
        exact sz_of (by omega)
      refine ⟨_, _, rfl, rfl, _, rfl, mkS cs, rfl, hlc, ?_⟩
      rw [ej, cut_take]
      refine ⟨_, rfl, _, rfl, _, rfl, hlc, _, _, rfl, rfl, ?_, by omega, ?_, ?_⟩
      · rw [mkS_len, List.length_take]
        omega
      · rw [mkS_len]
        omega
      · rw [mkS_len, mul_mk]
        have hrl := repL_len cs.length (cs.take (1 + j))
        have hb : cs.length * (cs.take (1 + j)).length ≤ 1000 * 1000 := Nat.mul_le_mul (by omega) (by
          rw [List.length_take]
          omega)
        refine ⟨_, rfl, _, rfl, hlc, _, rfl, mkS (repL cs.length (cs.take (1 + j))), rfl, by
          rw [mkS_len, hrl]
          exact Nat.le_trans hb (by decide), ?_⟩
        rw [mkS_len, cut_take]
        refine ⟨_, rfl, k _ _ ?_ (fun c hc => ?_) x6⟩
        · rw [List.length_take]
          omega
        · exact hcm c (List.mem_of_mem_take (repL_mem (List.mem_of_mem_take hc)))
end
/-! ### the law is called where nothing shows itself -/
section
open Evl
variable {P : Program} {w : World} {K : PySem.W.Frag} {mg : Str → Option Value} {CX : CXT}
/-- one call of one def, at one place -/
def CallAt (P : Program) (w : World) (CX : CXT) (A : Around) (outer : List Env) (f : Addr) (args : Args) (s : Shared) (H : Hp) (Q : VK) (E : XK) : Prop := codeAny (model P w) A (.call (.ref f) args) (CR CX outer P w H s Q E) s
theorem call_at {base : Heap} {k : Nat} {f : Addr} {nm qn : Str} {prm : Arguments} {bd : List Stmt} {sc : Scope} {u1 u2 u3 u4 u5 u6 u7 : Value} {ann own : Option Addr} {sl : Array (Option Value)} {N ps : List Str} {A : Around} {outer : List Env} {s : Shared} {H : Hp} {args : Args} {us : List Value} {vs : List V} {Q : VK} {E : XK}
    (lk : K.lookup f = some ⟨u7, own, .func (PySem.W.fnOf nm qn prm bd sc u1 u2 u3 u4 ann u5 u6), sl⟩) (hcode : PySem.W.codeIn K u5 qn = true) (S : FnScope N ps sc) (hl : vs.length = ps.length) (hr : Room (k + 1) A) (e0 : Env0 P w K mg base A outer s H)
    (hb : BindsTo s (PySem.W.fnOf nm qn prm bd sc u1 u2 u3 u4 ann u5 u6) args (ps.zip us)) (rel : Vals vs us)
    (walk : Room k (A.deeper (envOfC qn sc s.heap.objs.size f u5)) → ∃ t, PSs (cxOf CX P w K mg base N qn sc f u5 A outer s H E) bd t ∧ t { nx := fun _ H' => Q .non H', rt := Q } (start N vs) H) : CallAt P w CX A outer f args s H Q E := by
  have inK : K.In s.heap := e0.mod.kin.keeps fun b o e => (e0.bs b o e).1
  have nolim : s.heap.NoLimit := e0.mod.nolimit.keeps fun b o e => (e0.bs b o e).1
  have kinds : ∀ y ∈ ps.zip us, sc.names.lookup y.1 = some .local ∨ (sc.names.lookup y.1 = some .cell ∧ ((cellsFrom (s.heap.objs.size + 1) sc.names []).lookup y.1).isSome = true) := fun ⟨n, v⟩ hy => by
    rcases S.par n (List.of_mem_zip hy).1 with z | z
    · exact .inl z
    · exact .inr ⟨z, PySem.W.cellsFrom_some _ _ _ (.inl z)⟩
  refine codeAny_call_function hr.depth (inK _ _ lk) rfl S.co S.gen rfl (PySem.W.codeRec_of inK hcode) (hb _ _ _ _ ?_)
  refine wpAny_newFunctionEnv_cells S.kind kinds fun ev hev s2 x => ?_
  subst hev
  refine ⟨nolim.keeps x.toInCall.keep, codeAny_func ?_⟩
  obtain ⟨t, ht, hq⟩ := walk (hr.deeper _)
  have I : Inv (cxOf CX P w K mg base N qn sc f u5 A outer s H E) [] (start N vs) H s2 := inv_start S hr.hd e0 hl rel x
  refine wpAny_mono (ht.run [] s2 (start N vs) H _ I hq) (fun fl s3 hs => ?_) fun e s3 hs => hs
  have leave : ∀ {σ3 : L2.St} {H3 : Hp} {v : V} {u : Value}, Inv (cxOf CX P w K mg base N qn sc f u5 A outer s H E) [] σ3 H3 s3 → RelV v u → Q v H3 → CE outer P w H s Q u s3 :=
    fun {σ3 H3 v u} J rv q => ⟨v, H3, J.os, J.bare, J.base, J.hok, rv, q⟩
  cases fl with
  | ret u =>
    obtain ⟨v, σ3, H3, J, rv, q⟩ := hs
    exact leave J rv q
  | next =>
    obtain ⟨σ3, H3, J, q⟩ := hs
    exact leave (v := V.non) (u := Value.none) J rfl q
  | brk =>
    obtain ⟨_, _, _, q⟩ := hs
    exact q.elim
  | cont =>
    obtain ⟨_, _, _, q⟩ := hs
    exact q.elim
/-- a law's call, its def walked at the caller's own place -/
theorem law_at {mb : Str → Option Value} {fa a : Addr} {s₁ : Shared} {vs : List Value} {ns : List Int}
    (inK : K.In s₁.heap) (hns : s₁.heap.Ns mainGlobals mg) (hbn : s₁.heap.Ns builtinsNs mb) (hboot : ∀ x : Str, x ≠ "__name__" → mb x = bootBuiltins x) (nolim : s₁.heap.NoLimit) (hgen : s₁.gens = #[])
    (hobj : s₁.heap.get? a = some { cls := .type "list", data := .seq vs.toArray }) (hnum : IntsAre vs ns) (hlen : ns.length ≤ sizeLine)
    (F : ∀ (base : Heap) (H : Hp), K.In base → base.Ns mainGlobals mg → Env0 P w K mg base callerA [] s₁ H → SqL K H a (ns.map V.int) → CallAt P w CX callerA [] fa ⟨[.ref a], []⟩ s₁ H (fun v _ => v = .bl true) fun _ _ _ => False)
    (hno : ∀ H e s', CX [] H s₁ (fun _ _ _ => False) e s' → False) :
    codeAny (model P w) callerA (.call (.ref fa) ⟨[.ref a], []⟩) (fun r s' => r = .ok (.ret (.bool true)) ∧ OldK s₁.heap s'.heap ∧ s'.os = s₁.os ∧ AllBare s'.gens) s₁ := by
  have rv := vals_ints hnum
  have many := hnum.length
  have main : ∀ H : Hp, Only H → SqL K H a (ns.map V.int) → HOk P w H s₁.heap → (∀ b, H b ≠ none → b = a) → (H a ≠ none → K.lookup a = none) →
      codeAny (model P w) callerA (.call (.ref fa) ⟨[.ref a], []⟩) (fun r s' => r = .ok (.ret (.bool true)) ∧ OldK s₁.heap s'.heap ∧ s'.os = s₁.os ∧ AllBare s'.gens) s₁ := by
    intro H only hS held hA hK
    have low : ∀ {b : Addr} {o : Obj}, s₁.heap.get? b = some o → H b = none → (hidT s₁.heap H).get? b = some o := fun e n => hidT_get e n
    have nodict : ∀ {b : Addr} {o : Obj} {es : Array DictEntry} {ep : Nat}, s₁.heap.get? b = some o → o.data = .dict es ep → H b = none := fun {b o es ep} e d => by
      cases z : H b with
      | none => rfl
      | some u =>
        have eb : b = a := hA b (by rw [z]; simp)
        subst eb
        rw [hobj] at e
        cases e
        have d2 : Data.seq vs.toArray _ = Data.dict es ep := d
        cases d2
    have names : ∀ {b : Addr} {m : Str → Option Value}, s₁.heap.Ns b m → (hidT s₁.heap H).Ns b m := fun {b m} ⟨o, es, ep, e, d, r⟩ => ⟨o, es, ep, low e (nodict e d), d, r⟩
    have inB : K.In (hidT s₁.heap H) := fun b o e => low (inK b o e) (by
      cases z : H b with
      | none => rfl
      | some u =>
        have eb : b = a := hA b (by rw [z]; simp)
        subst eb
        rw [hK (by rw [z]; simp)] at e
        cases e)
    have md : Mod K mg (hidT s₁.heap H) := ⟨inB, names hns, ⟨mb, names hbn, hboot⟩, let ⟨mc, y1, y2⟩ := nolim; ⟨mc, names y1, y2⟩⟩
    have e0 : Env0 P w K mg (hidT s₁.heap H) callerA [] s₁ H := ⟨rfl, md, fun b o e => of_hidT e, Nat.le_of_eq (hidT_size _ _), trivial, fun b hb => absurd (show b ∈ ([] : List Addr) from hb) (by simp), held, .of_eq hgen⟩
    refine codeAny_mono (F _ H inB (names hns) e0 hS) fun r s2 hh => ?_
    cases r with
    | error e => exact (hno H e s2 hh).elim
    | ok fl =>
      cases fl with
      | next => exact False.elim hh
      | brk => exact False.elim hh
      | cont => exact False.elim hh
      | ret u =>
        obtain ⟨v, H2, os, bare, un, held2, rel, q⟩ := hh
        have qv : v = .bl true := q
        subst qv
        obtain rfl : u = Value.bool true := rel
        refine ⟨rfl, OldK.of_keep fun b o e => ?_, os, bare⟩
        cases z : H b with
        | none => exact un.keep b o e z (by intro y; exact absurd (show b ∈ ([] : List Addr) from y) (by simp)) (by simp)
        | some u =>
          rcases only b with y | ⟨ob, xs, y⟩
          · rw [z] at y
            cases y
          · have y2 := un.frzs b ob _ y
            obtain ⟨g1, _⟩ := held b _ y
            obtain ⟨g2, _⟩ := held2 b _ y2
            rw [e] at g1
            cases g1
            exact g2
  cases hk : K.lookup a with
  | some o =>
    have e := inK a o hk
    rw [hobj] at e
    cases e
    exact main (fun _ => none) (fun _ => .inl rfl) (.inr ⟨_, vs.toArray, _, hk, rfl, rfl, rfl, by rw [List.size_toArray, many]; exact hlen, by simpa using rv⟩) (fun b u z => by have z2 : (none : Option HO) = some u := z; cases z2) (fun b z => absurd rfl z) (fun z => absurd rfl z)
  | none =>
    refine main (fun b => if b = a then some (.frz { cls := .type "list", data := .seq vs.toArray } (.lst (ns.map V.int))) else none) (fun b => ?_) (.inl (.inr ⟨{ cls := .type "list", data := .seq vs.toArray }, if_pos rfl⟩)) (fun b u z => ?_) (fun b z => ?_) (fun _ => hk)
    · by_cases hb : b = a
      · exact .inr ⟨_, _, if_pos hb⟩
      · exact .inl (if_neg hb)
    · by_cases hb : b = a
      · have y := (if_pos hb).symm.trans z
        cases y
        subst hb
        exact ⟨hobj, by rw [List.length_map]; exact hlen, vs, _, rv, hobj⟩
      · have y := (if_neg hb).symm.trans z
        cases y
    · by_cases hb : b = a
      · exact hb
      · exact absurd (if_neg hb) z
end
section
variable {X : Cx}
def rReprD (K : PySem.W.Frag) : List V → Hp → VK → Prop := fun xs H Q => ∃ x d, xs = [x] ∧ Dp K H x d ∧ d.showable = true ∧ d.hasDict = false ∧ d.depth ≤ 60 ∧ d.shown.length ≤ sizeLine ∧ Q (.str d.shown) H
theorem call_reprD (hg : X.A.guards = some []) (hu : X.A.units + 64 < cLine) : CallR X (.builtin "repr") (rReprD X.K) := by
  intro pins s σ H xs us Q I r h
  obtain ⟨x, d, rfl, hd, hsh, hnd, hdp, hsz, q⟩ := h
  obtain ⟨u, rfl, ru⟩ := vals1 r
  obtain ⟨as, rd⟩ := Dp.reads I d x u hd ru
  cases hd with
  | non =>
    cases (show u = Value.none from ru)
    exact PySem.P.repr_of_none ⟨.str _, H, I.tok _, ⟨_, rfl⟩, q⟩
  | bl b =>
    cases (show u = Value.bool b from ru)
    exact PySem.P.repr_of_bool ⟨.str _, H, I.tok _, ⟨_, rfl⟩, q⟩
  | int i =>
    obtain ⟨t, rfl⟩ := (show ∃ t, u = Value.int i t from ru)
    exact PySem.P.repr_of_int (of_decide_eq_true hsh) ⟨.str _, H, I.tok _, ⟨_, rfl⟩, q⟩
  | str z =>
    obtain ⟨t, rfl⟩ := (show ∃ t, u = Value.str z t from ru)
    exact PySem.P.repr_of_str ⟨.str _, H, I.tok _, ⟨_, rfl⟩, q⟩ hsz
  | lst hs ha =>
    cases (show u = Value.ref _ from ru)
    exact repr_of_reads' rd hsh (fun e => by rw [hnd] at e; cases e) hg (by omega) (fun _ _ e => e) (fun h' t tk hk => ⟨.str _, H, I.kept (t' := tk) hk, ⟨_, rfl⟩, q⟩) hsz
  | tup hs ha =>
    cases (show u = Value.ref _ from ru)
    exact repr_of_reads' rd hsh (fun e => by rw [hnd] at e; cases e) hg (by omega) (fun _ _ e => e) (fun h' t tk hk => ⟨.str _, H, I.kept (t' := tk) hk, ⟨_, rfl⟩, q⟩) hsz
end
/-! ### defs that show their values: called where nothing keeps watch -/
section
open Evl
variable {P : Program} {w : World} {K : PySem.W.Frag} {mg : Str → Option Value} {CX : CXT}
structure FnOkG (P : Program) (w : World) (K : PySem.W.Frag) (mg : Str → Option Value) (base : Heap) (CX : CXT) (n : Nat) (f : Addr) (fd : FuncData) (ps : List Str) (sp : Sp) : Prop where
  many : ∀ vs H Q E, sp vs H Q E → vs.length = ps.length
  goes : ∀ (A : Around) (outer : List Env) (s : Shared) (H : Hp) (args : Args) (us : List Value) (vs : List V) (Q : VK) (E : XK), Room n A → A.guards = some [] → Env0 P w K mg base A outer s H → BindsTo s fd args (ps.zip us) → Vals vs us → sp vs H Q E → CallAt P w CX A outer f args s H Q E
theorem FunD.okG {base : Heap} {qual x : Str} {params : Arguments} {body : List Stmt} {scope : Scope} {dvs : List V} {kws : List (Str × V)} {f : Addr} {fd : FuncData} {N ps : List Str} {k : Nat} {sp : Sp} (F : FunD K x qual params body scope dvs kws f fd) (S : FnScope N ps scope) (len : ∀ vs H Q E, sp vs H Q E → vs.length = ps.length)
    (walk : ∀ (cdv : Value) (A : Around) (outer : List Env) (s : Shared) (H : Hp) (vs : List V) (Q : VK) (E : XK), Room k (A.deeper (envOfC qual scope s.heap.objs.size f cdv)) → A.guards = some [] → sp vs H Q E →
      ∃ t, PSs (cxOf CX P w K mg base N qual scope f cdv A outer s H E) body t ∧ t { nx := fun _ H' => Q .non H', rt := Q } (start N vs) H) : FnOkG P w K mg base CX (k + 1) f fd ps sp := by
  obtain ⟨u7, own, u1, u2, u3, u4, ann, u5, u6, sl, rfl, lk, hcode, _, _⟩ := F.ex
  exact ⟨len, fun A outer s H args us vs Q E hr hgd e0 hb rel hsp => call_at lk hcode S (len _ _ _ _ hsp) hr e0 hb rel fun hr2 => walk u5 A outer s H vs Q E hr2 hgd hsp⟩
theorem FnOkG.mono {base : Heap} {n m : Nat} {f : Addr} {fd : FuncData} {ps : List Str} {sp : Sp} (F : FnOkG P w K mg base CX n f fd ps sp) (h : n ≤ m) : FnOkG P w K mg base CX m f fd ps sp :=
  ⟨F.many, fun A outer s H args us vs Q E hr => F.goes A outer s H args us vs Q E (hr.mono h)⟩
variable {X : Cx} {k : Nat} {f : Addr} {fd : FuncData} {ps : List Str} {sp : Sp} {dvs : List V} {ds : List Value} {E : XK} {x : Str} {p pos : Pos} {e : Expr} {es : List Expr} {t : TA}
theorem run_fnG {pins : List (Addr × Obj)} {σ : L2.St} {H : Hp} {s : Shared} {Q : VK} {us : List Value} {vs : List V} (F : FnOkG X.prog X.w X.K X.mg X.base CX k f fd ps sp) (hr : Room k X.A) (hgd : X.A.guards = some []) (hb : Binds X.K fd ps ds) (hd : Vals dvs ds) (hx : Passes CX X E)
    (I : Inv X pins σ H s) (r : Vals vs us) (h : sp (vs ++ dvs) H Q E) : wpAny (model X.prog X.w) X.A (call (.ref f) us) (EP X pins σ Q) X.xe s := by
  have rel : Vals (vs ++ dvs) (us ++ ds) := r.append hd
  have many : (us ++ ds).length = ps.length := rel.length.symm.trans (F.many _ _ _ _ h)
  refine wpAny_call (codeAny_mono (F.goes X.A X.stack s H ⟨us, []⟩ (us ++ ds) (vs ++ dvs) Q E hr hgd I.env0 (hb s us I.kIn many) rel h) fun res s2 hh => ?_)
  cases res with
  | error ev => exact hx pins σ H s ev s2 I hh
  | ok fl =>
    cases fl with
    | next => exact False.elim hh
    | brk => exact False.elim hh
    | cont => exact False.elim hh
    | ret u => exact I.after hh
theorem pe_callG (F : FnOkG X.prog X.w X.K X.mg X.base CX k f fd ps sp) (hr : Room k X.A) (hgd : X.A.guards = some []) (hg : Gl X x) (hm : X.mg x = some (.ref f)) (hk : PySem.W.keepIn X.K (.ref f) = true) (hb : Binds X.K fd ps ds) (hd : Vals dvs ds) (hx : Passes CX X E)
    (ha : PA X (e :: es) t) (nd : (x == ("__debug__" : Str)) = false := by decide) (st : starEach (e :: es) X.env = (false, eval e X.env) :: starEach es X.env := by rfl) (bk : (backTo pos (starEach es X.env)).any (·.1) = false := by rfl) :
    PE X (.Call (.Name x p) (e :: es) [] pos) (tCall sp dvs E t) := by
  refine ⟨fun pins s σ H Q I h => ?_⟩
  refine wpAny_Call_Name_kw (ld_glob I hg hm ?_ nd)
  exact PySem.W.callWith_K (h₀ := X.base) I.ok.mod.kin hk (thn (ha.run pos pins s σ H _ I h) fun us s1 ⟨vs, H1, I1, r, q⟩ => ⟨I1.kIn, run_fnG F hr hgd hb hd hx I1 r q⟩) st bk
theorem pe_callG0 (F : FnOkG X.prog X.w X.K X.mg X.base CX k f fd ps sp) (hr : Room k X.A) (hgd : X.A.guards = some []) (hg : Gl X x) (hm : X.mg x = some (.ref f)) (hk : PySem.W.keepIn X.K (.ref f) = true) (hb : Binds X.K fd ps ds) (hd : Vals dvs ds) (hx : Passes CX X E)
    (nd : (x == ("__debug__" : Str)) = false := by decide) : PE X (.Call (.Name x p) [] [] pos) (tCall sp dvs E tNil) :=
  ⟨fun pins s σ H Q I h => wpAny_Call_Name_kw (ld_glob I hg hm (PySem.W.callWith_K0 I.kIn hk (run_fnG (us := []) F hr hgd hb hd hx I .nil h)) nd)⟩
theorem walk_bitsG {l : PySem.W.OpenLaw} {n k : Nat} {q : Program} {loose : List Str} {XP : (Str → Option Value) → Heap → Prop} {YP : World → Heap → Prop} {d : DefRec} {CX : CXT} {x : Str}
    (hmost : l.most = some n) (hsz : n ≤ sizeLine) (hdef : d.params.defaults = []) (hroom : Room k callerA)
    (given_ : ∀ (w : World) (mg : Str → Option Value) (f : Addr) (h : Heap), YP w h → h.Ns mainGlobals mg → mg d.name = some (.ref f) →
      ∃ (K : PySem.W.Frag) (fd : FuncData) (sp : Sp), K.In h ∧ (∀ (s : Shared) (u : Value), BindsTo s fd ⟨[u], []⟩ [(x, u)]) ∧
        (∀ (H : Hp) (a : Addr) (ns : List Int), ns.length ≤ n → (∀ z ∈ ns, Builtin.Int.intBits z ≤ 1048576) → SqL K H a (ns.map V.int) → sp [.ref a] H (fun v _ => v = .bl true) fun _ _ _ => False) ∧
        ∀ base : Heap, K.In base → base.Ns mainGlobals mg → FnOkG l.prog w K mg base CX k f fd [x] sp)
    (hno : ∀ (H : Hp) (s : Shared) (e : Value) (s' : Shared), CX [] H s (fun _ _ _ => False) e s' → False) :
    PySem.W.WalkO q loose XP YP l.row.toRowW d [] (fun f vs => PySem.call f vs) := by
  refine Att.attach_callB hmost hdef fun wd sA sB mg mb fa ob pm cd doc adr vals nums Gd Yp hob hdt hcd hmg hobj hnums hcount hbit hgen => ?_
  obtain ⟨K, fd, sp, inK, hbd, hok, hfn⟩ := given_ wd mg fa _ Yp Gd.T.g hmg
  exact law_at inK Gd.T.g Gd.T.b Gd.T.builtins Gd.T.nolimit hgen hobj hnums (Nat.le_trans hcount hsz)
    (fun base H inB hnb e0 hS => (hfn base inB hnb).goes callerA [] sB H ⟨[.ref adr], []⟩ [.ref adr] [.ref adr] _ _ hroom rfl e0 (hbd sB (.ref adr)) (.cons rfl .nil) (hok H adr nums hcount hbit hS)) fun H e s' => hno H sB e s'
end
theorem u64 {k : Nat} {A : Around} (hr : Room k A) : A.units + 64 < cLine := by
  have := hr.un
  omega
/-! ### lists of plain things compared, shown -/
section
open Evl
variable {K : PySem.W.Frag} {σ : L2.St} {H : Hp} {te ta tb : TE}
theorem dpAll_map {α : Type} {f : α → V} {g : α → PyData} : ∀ {xs : List α}, (∀ x ∈ xs, Dp K H (f x) (g x)) → DpAll K H (xs.map f) (xs.map g)
  | [], _ => .nil
  | x :: r, h => .cons (h x List.mem_cons_self) (dpAll_map fun y hy => h y (List.mem_cons_of_mem _ hy))
theorem lay_map {α : Type} {g : α → PyData} : ∀ {xs : List α}, (∀ x ∈ xs, PyData.canLay0 (g x) = true) → PyData.canLayAll0 (xs.map g) = true
  | [], _ => rfl
  | x :: r, h => by
    have h1 := h x List.mem_cons_self
    have h2 := lay_map fun y hy => h y (List.mem_cons_of_mem x hy)
    show (PyData.canLay0 (g x) && PyData.canLayAll0 (r.map g)) = true
    rw [h1, h2] <;> rfl
theorem dep_map {α : Type} {g : α → PyData} {n : Nat} : ∀ {xs : List α}, (∀ x ∈ xs, PyData.depth (g x) ≤ n) → PyData.depthAll (xs.map g) ≤ n
  | [], _ => Nat.zero_le _
  | x :: r, h => by
    have h1 := h x List.mem_cons_self
    have h2 := dep_map fun y hy => h y (List.mem_cons_of_mem x hy)
    show max (PyData.depth (g x)) (PyData.depthAll (r.map g)) ≤ n
    omega
theorem shp_map {α : Type} {g : α → PyData} {xs : List α} (h1 : ∀ x ∈ xs, PyData.canLay0 (g x) = true) (h2 : ∀ x ∈ xs, PyData.depth (g x) ≤ 60) : SeqAt.shaped (.list (xs.map g)) = true := by
  have a := lay_map h1
  have b := dep_map h2
  show (PyData.canLayAll0 (xs.map g) && decide (PyData.depthAll (xs.map g) + 1 ≤ 64)) = true
  rw [a, decide_eq_true (by omega)] <;> rfl
theorem eqv_map {α : Type} [DecidableEq α] {g : α → PyData} (h : ∀ x y, PyData.eqv (g x) (g y) = decide (x = y)) : ∀ xs ys : List α, PyData.eqv (.list (xs.map g)) (.list (ys.map g)) = decide (xs = ys)
  | [], [] => rfl
  | [], y :: ys => by
    show false = decide ([] = y :: ys)
    simp
  | x :: xs, [] => by
    show false = decide (x :: xs = [])
    simp
  | x :: xs, y :: ys => by
    have ih : PyData.eqvAll (xs.map g) (ys.map g) = decide (xs = ys) := eqv_map h xs ys
    show (PyData.eqv (g x) (g y) && PyData.eqvAll (xs.map g) (ys.map g)) = decide (x :: xs = y :: ys)
    rw [ih, h]
    by_cases h1 : x = y <;> by_cases h2 : xs = ys <;> simp [h1, h2]
/-- how plain things are kept as data -/
structure PlainE {α : Type} [DecidableEq α] (f : α → V) (g : α → PyData) (ok : α → Prop) : Prop where
  dp : ∀ (K : PySem.W.Frag) (H : Hp) x, ok x → Dp K H (f x) (g x)
  lay : ∀ x, ok x → PyData.canLay0 (g x) = true
  dep : ∀ x, PyData.depth (g x) ≤ 60
  eqv : ∀ x y, PyData.eqv (g x) (g y) = decide (x = y)
theorem rv_neP {α : Type} [DecidableEq α] {f : α → V} {g : α → PyData} {ok : α → Prop} (C : PlainE f g ok) {p q : Addr} {xs ys : List α} (hx : ∀ x ∈ xs, ok x) (hy : ∀ y ∈ ys, ok y) (hp : SqL K H p (xs.map f)) (hq : SqL K H q (ys.map f)) : RV (rNeD K) (.ref p) (.ref q) H (.bl (!decide (xs = ys))) := fun H1 e Q k =>
  ⟨_, _, .lst (ex_l e hp) (dpAll_map fun x h => C.dp K H1 x (hx x h)), .lst (ex_l e hq) (dpAll_map fun x h => C.dp K H1 x (hy x h)), shp_map (fun x h => C.lay x (hx x h)) (fun x _ => C.dep x), shp_map (fun x h => C.lay x (hy x h)) (fun x _ => C.dep x), by
    rw [eqv_map C.eqv]
    exact k H1 (Ex.refl H1)⟩
theorem rv_eqP {α : Type} [DecidableEq α] {f : α → V} {g : α → PyData} {ok : α → Prop} (C : PlainE f g ok) {p q : Addr} {xs ys : List α} (hx : ∀ x ∈ xs, ok x) (hy : ∀ y ∈ ys, ok y) (hp : SqL K H p (xs.map f)) (hq : SqL K H q (ys.map f)) : RV (rEqD K) (.ref p) (.ref q) H (.bl (decide (xs = ys))) := fun H1 e Q k =>
  ⟨_, _, .lst (ex_l e hp) (dpAll_map fun x h => C.dp K H1 x (hx x h)), .lst (ex_l e hq) (dpAll_map fun x h => C.dp K H1 x (hy x h)), shp_map (fun x h => C.lay x (hx x h)) (fun x _ => C.dep x), shp_map (fun x h => C.lay x (hy x h)) (fun x _ => C.dep x), by
    rw [eqv_map C.eqv]
    exact k H1 (Ex.refl H1)⟩
theorem plain_bl : PlainE V.bl PyData.bool fun _ => True := ⟨fun _ _ x _ => .bl x, fun _ _ => rfl, fun _ => Nat.zero_le _, fun x y => by cases x <;> cases y <;> rfl⟩
theorem plain_int : PlainE V.int PyData.int fun _ => True := ⟨fun _ _ x _ => .int x, fun _ _ => rfl, fun _ => Nat.zero_le _, fun x y => by
  show (x == y) = decide (x = y)
  by_cases h : x = y <;> simp [h]⟩
theorem str_ok {l : List Nat} (h : txtB l = true) : PyData.canLay0 (.str (mkS l)) = true := by
  show (mkS l).cps.all (fun c => decide (c < 0x110000)) = true
  rw [Array.all_eq_true']
  intro c hc
  have hm : c ∈ l := Array.mem_toList_iff.mpr hc
  have h2 : letterB c = true := List.all_eq_true.mp h c hm
  have h3 := of_decide_eq_true h2
  exact decide_eq_true (by omega)
theorem plain_txt : PlainE vS (fun l => PyData.str (mkS l)) fun l => txtB l = true := ⟨fun _ _ x _ => .str _, fun x h => str_ok h, fun _ => Nat.zero_le _, fun x y => by
  show (mkS x == mkS y) = decide (x = y)
  by_cases h : x = y
  · rw [h]
    simp
  · have h2 : ¬ (mkS x = mkS y) := fun e => h (mkS_inj e)
    rw [decide_eq_false h]
    exact beq_false_of_ne h2⟩
/-! shown -/
structure ShowOk (d : PyData) : Prop where
  sh : d.showable = true
  nd : d.hasDict = false
  dp : d.depth ≤ 60
  sz : d.shown.length ≤ sizeLine
theorem ev_repr {v : V} {d : PyData} (ho : ShowOk d) (h : Ev te σ H v) (hd : ∀ H1, Ex H H1 → Dp K H1 v d) : Ev (tCB (rReprD K) (tCons te tNil)) σ H (.str d.shown) := fun H1 e Q q =>
  h H1 e _ fun H2 e2 => ⟨v, d, rfl, hd H2 (e.trans e2), ho.sh, ho.nd, ho.dp, ho.sz, q H2 e2⟩
theorem ev_reprL {xs : List V} {ds : List PyData} (ho : ShowOk (.list ds)) (h : EvL te σ H xs) (hd : ∀ H1, Ex H H1 → DpAll K H1 xs ds) : Ev (tCB (rReprD K) (tCons te tNil)) σ H (.str (PyData.shown (.list ds))) := fun H1 e Q q =>
  h H1 e _ fun p H2 _ e2 h2 => ⟨.ref p, .list ds, rfl, .lst (sq_of h2) (hd H2 (e.trans e2)), ho.sh, ho.nd, ho.dp, ho.sz, q H2 e2⟩
theorem show_ints {xs : List Int} (hl : xs.length ≤ 5000) (hx : ∀ x ∈ xs, x.natAbs < 2 ^ 1900) : ShowOk (.list (xs.map .int)) := by
  have lg : ∀ x ∈ xs, x.natAbs.log2 < 1920 := fun x h => Nat.lt_of_le_of_lt (Nat.le_of_lt_succ (Nat.lt_succ_of_lt (PySem.Flt.log2_lt_of (by decide) (hx x h)))) (by decide)
  have a : ∀ ys : List Int, (∀ x ∈ ys, x.natAbs.log2 < 1920) → PyData.showableAll (ys.map .int) = true ∧ PyData.hasDictAll (ys.map .int) = false ∧ PyData.leavesShortAll 1921 (ys.map .int) = true ∧ PyData.bulkAll (ys.map .int) = ys.length := fun ys => by
    induction ys with
    | nil => exact fun _ => ⟨rfl, rfl, rfl, rfl⟩
    | cons y r ih =>
      intro h
      obtain ⟨i1, i2, i3, i4⟩ := ih fun x hx => h x (List.mem_cons_of_mem _ hx)
      have h0 := h y List.mem_cons_self
      refine ⟨?_, ?_, ?_, ?_⟩
      · show (decide (y.natAbs.log2 < 1920) && PyData.showableAll (r.map .int)) = true
        rw [i1, decide_eq_true h0] <;> rfl
      · show (false || PyData.hasDictAll (r.map .int)) = false
        rw [i2] <;> rfl
      · show (decide ((PyData.shown (.int y)).length ≤ 1921) && PyData.leavesShortAll 1921 (r.map .int)) = true
        have e9 : (PyData.shown (.int y)).length ≤ 1921 := PyProof.Rows.int_text_len_1921 h0
        rw [i3, decide_eq_true e9] <;> rfl
      · show 0 + 1 + PyData.bulkAll (r.map .int) = r.length + 1
        rw [i4]
        omega
  obtain ⟨a1, a2, a3, a4⟩ := a xs lg
  refine ⟨a1, a2, ?_, ?_⟩
  · have h := dep_map (g := PyData.int) (n := 0) (xs := xs) fun x _ => Nat.zero_le _
    show PyData.depthAll (xs.map .int) + 1 ≤ 60
    omega
  · have h := PyData.shown_le_bulk 1921 (by decide) (.list (xs.map .int)) a3
    have hb : PyData.bulk (.list (xs.map .int)) = xs.length := a4
    rw [hb] at h
    refine Nat.le_trans h ?_
    have h5 : (1921 + 2) * xs.length ≤ (1921 + 2) * 5000 := Nat.mul_le_mul_left _ hl
    exact Nat.le_trans (Nat.add_le_add_right h5 _) (by decide)
end
section
theorem vals_of_get : ∀ (xs : List V) (us : List Value), xs.length = us.length → (∀ (j : Nat) (u : Value), us[j]? = some u → ∃ x, xs[j]? = some x ∧ RelV x u) → Vals xs us
  | [], [], _, _ => .nil
  | [], _ :: _, h, _ => nomatch h
  | _ :: _, [], h, _ => nomatch h
  | x :: xs, u :: us, h, hg => by
    obtain ⟨x2, e2, r2⟩ := hg 0 u rfl
    have e3 : x = x2 := Option.some.inj e2
    rw [← e3] at r2
    exact .cons r2 (vals_of_get xs us (Nat.succ.inj h) fun j v hv => hg (j + 1) v hv)
def rListS1 : List V → Hp → VK → Prop := fun xs H Q => ∃ l : List Nat, xs = [vS l] ∧ l.length ≤ 100000 ∧ ∀ p, H p = none → Q (.ref p) (upd H p (.lst (l.map fun c => vS [c])))
theorem call_listS {X : Cx} (hcalm : X.calm = true) : CallR X (.type "list") rListS1 := by
  intro pins s σ H xs us Q I r h
  obtain ⟨l, rfl, hl, q⟩ := h
  obtain ⟨u, rfl, t, rfl⟩ := vals1 r
  have hz : (mkS l).cps.size = l.length := mkS_size l
  refine PySem.call_list_str (I.ok.hd hcalm) (mkS l) t (fun h' tk acc c' hk hD hacc => ?_) (by
    rw [hz]
    exact Nat.le_trans hl (by decide))
  have hv : Vals (l.map fun c => vS [c]) acc.toList := by
    refine vals_of_get _ _ (by
      rw [List.length_map, Array.length_toList]
      exact (hacc.1.trans hz).symm) fun j v e => ?_
    rw [Array.getElem?_toList] at e
    obtain ⟨c, u, hc, rfl⟩ := hacc.2 j v e
    have hc2 : l[j]? = some c := by
      rw [← hc]
      show l[j]? = l.toArray[j]?
      simp
    exact ⟨vS [c], by
      rw [List.getElem?_map, hc2]
      rfl, u, rfl⟩
  refine ⟨.ref s.heap.objs.size, upd H s.heap.objs.size (.lst (l.map fun c => vS [c])), I.laid (t' := tk) hk (Nat.le_refl _)
    (show ObjOk X.prog X.w _ _ _ (.lst (l.map fun c => vS [c])) from ⟨by
      rw [List.length_map]
      exact Nat.le_trans hl (by decide), acc.toList, c', hv, by
      rw [Array.toArray_toList]
      exact hD⟩), rfl, q _ (I.hok.fresh (Nat.le_refl _))⟩
end
/-! ### the law's own holds -/
def stp (p : List Nat) (c : Nat) : List Nat := match p with
  | [] => []
  | d :: r => if d = c then r else d :: r
def strip (l p : List Nat) : List Nat := l.foldl stp p
theorem strip_nil (l : List Nat) : strip l [] = [] := by
  induction l with
  | nil => rfl
  | cons c r ih => exact ih
theorem strip_sub : ∀ (l p : List Nat), strip l p = [] ↔ p.Sublist l
  | [], p => by
    show p = [] ↔ p.Sublist []
    rw [List.sublist_nil]
  | c :: l, [] => by
    have h := strip_nil (c :: l)
    rw [h]
    exact ⟨fun _ => List.nil_sublist _, fun _ => rfl⟩
  | c :: l, d :: r => by
    have e : strip (c :: l) (d :: r) = strip l (if d = c then r else d :: r) := rfl
    rw [e]
    by_cases h : d = c
    · rw [if_pos h, strip_sub l r, h, List.cons_sublist_cons]
    · rw [if_neg h, strip_sub l (d :: r)]
      constructor
      · intro z
        exact z.cons c
      · intro z
        cases z with
        | cons _ z => exact z
        | cons_cons _ z => exact absurd rfl h
theorem strip_len (l p : List Nat) : (strip l p).length ≤ p.length := by
  induction l generalizing p with
  | nil => exact Nat.le_refl _
  | cons c r ih =>
    refine Nat.le_trans (ih (stp p c)) ?_
    cases p with
    | nil => exact Nat.le_refl _
    | cons d q =>
      show (if d = c then q else d :: q).length ≤ _
      by_cases h : d = c
      · rw [if_pos h]
        exact Nat.le_succ _
      · rw [if_neg h]
        exact Nat.le_refl _
theorem strip_take {l p : List Nat} {i : Nat} (h : i < l.length) : strip (l.take (i + 1)) p = stp (strip (l.take i) p) l[i] := by
  unfold strip
  rw [List.take_succ_eq_append_getElem h, List.foldl_append]
  rfl
section
open Evl
variable {P : Program} {w : World} {K : PySem.W.Frag} {mg : Str → Option Value} {base : Heap}
theorem vS_ne (l : List Nat) : (!decide (vS l = .str "")) = decide (l ≠ []) := by
  rw [← no_str]
  by_cases h : l = []
  · rw [h]
    simp
  · have h2 : ¬ (vS l = vS []) := fun e => by
      injection e with e1
      exact h (mkS_inj e1)
    rw [decide_eq_false h2, decide_eq_true h] <;> rfl
theorem vS_eq0 (l : List Nat) : decide (vS l = .str "") = decide (l = []) := by
  have h := vS_ne l
  by_cases h2 : l = []
  · rw [h2, ← no_str]
    simp
  · rw [decide_eq_true (show l ≠ [] from h2)] at h
    rw [decide_eq_false h2]
    simpa using h
theorem vS_ceq (c d : Nat) : decide (vS [c] = V.str ⟨#[d]⟩) = decide (c = d) := by
  apply decide_eq_decide.mpr
  constructor
  · intro h
    injection h with h1
    have h2 : [c] = [d] := mkS_inj (m := [d]) h1
    exact List.cons.inj h2 |>.1
  · intro h
    rw [h]
    rfl
def spLawHolds : Sp := fun vs H Q _ => ∃ l p : List Nat, vs = [vS l, vS p] ∧ l.length ≤ 1000 ∧ p.length ≤ 1000 ∧ ∀ H', Ex H H' → Q (.bl (decide (strip l p = []))) H'
abbrev nm__law_holds : List Str := ["text_here", "piece_here", "left", "letter"]
theorem sc__law_holds : FnScope nm__law_holds ["text_here", "piece_here"] (defScope s__law_holds) := ⟨rfl, rfl, rfl, by decide +kernel, rfl, by decide +kernel, by decide +kernel⟩
theorem b__law_holds {K : PySem.W.Frag} {mg : Str → Option Value} (T : Txt K mg) : Binds K T.d__law_holds ["text_here", "piece_here"] [] := T.F__law_holds.bindsN fun _ _ _ _ _ _ us hl => match us, hl with | [_, _], _ => rfl
theorem ok__law_holds (T : Txt K mg) : FnOk P w K mg base CX0 1 T.a__law_holds T.d__law_holds ["text_here", "piece_here"] spLawHolds := by
  refine T.F__law_holds.ok sc__law_holds (fun vs H Q E h => ?_) (fun cdv A outer s H vs Q E hr h => ⟨_, PSs.nox (pss_cons (ps_set (i := 2) sc__law_holds.nd rfl (by first | exact Or.inl rfl | exact Or.inr rfl) (pv 1))
      (pss_cons (ps_for PassesOwn.never rfl (pilk (K0 := K) (pi_list (pe_callTy (call_listS rfl) (by rfl) T.n_list (by decide +kernel) (pa_cons (pv 0) pa_nil))) rfl) (pg_name (i := 3) sc__law_holds.nd rfl (by first | exact Or.inl rfl | exact Or.inr rfl))
      (pss_one (ps_if (PW.pt (pw_and (pt_cmpR op_ne (pv 2) pe_str (nomark _)) (pw_and1 (pt_cmpR op_eq (pe_ix ix_str (pv 2) pe_int (fun _ _ => rfl)) (pv 3) (nomark _))))) (pss_one (ps_set (i := 2) sc__law_holds.nd rfl (by first | exact Or.inl rfl | exact Or.inr rfl) (pe_slice sl_str (pv 2) (po_some pe_int) po_none))) pss_nil)))
      (pss_one (ps_ret (pe_cmpR op_eq (pv 2) pe_str (nomark _)))))), ?_⟩)
  · obtain ⟨l, p, rfl, _⟩ := h
    rfl
  · obtain ⟨l, q, rfl, hl, hq, k⟩ := h
    refine ⟨_, rfl, _, rfl, l, rfl, by omega, fun p hp => ⟨p, rfl, ⟨_, sq_of upd_same⟩, for_list (K := K) (a := p) (xs := l.map fun c => vS [c]) (fun i σ H2 => H2 = upd H p (.lst (l.map fun c => vS [c])) ∧ ∃ c, σ = [some (vS l), some (vS q), some (vS (strip (l.take i) q)), c])
      ⟨rfl, _, rfl⟩ (fun i σ H2 _ ⟨e, _⟩ => by
        rw [e]
        exact sq_of upd_same) ?_ ?_⟩⟩
    · rintro i y σ H2 hi ⟨rfl, c0, rfl⟩
      have hi2 : i < l.length := by
        have h5 := (List.getElem?_eq_some_iff.mp hi).1
        rw [List.length_map] at h5
        exact h5
      have ey : y = vS [l[i]] := by
        rw [List.getElem?_map, List.getElem?_eq_getElem hi2] at hi
        exact (Option.some.inj hi).symm
      have hln := strip_len (l.take i) q
      refine ⟨_, rfl, rfl, _, rfl, ?_⟩
      rw [vS_ne, strip_take hi2]
      rw [ey]
      generalize strip (l.take i) q = u at *
      cases u with
      | nil => exact ⟨rfl, _, rfl⟩
      | cons d r =>
        have hz : (mkS (d :: r)).length ≤ sizeLine := by
          rw [mkS_len]
          exact sz_of (by omega)
        refine ite2 (fun _ => ?_) (fun z => absurd (decide_eq_true (by simp)) z)
        refine ⟨_, rfl, _, _, d, rfl, rfl, hz, atI_nat (xs := d :: r) (j := 0) rfl, _, rfl, rfl, _, rfl, ?_⟩
        rw [show (V.str ⟨#[d]⟩ : V) = vS [d] from rfl, show (vS [l[i]] : V) = V.str ⟨#[l[i]]⟩ from rfl, vS_ceq]
        refine ite2 (fun c => ?_) (fun c => ?_)
        · have c2 : d = l[i] := of_decide_eq_true c
          refine ⟨_, rfl, _, rfl, _, rfl, hz, ?_⟩
          have ec := cut_drop (d :: r) 1
          exact ⟨rfl, some (V.str ⟨#[l[i]]⟩), by
            rw [show stp (d :: r) l[i] = r from if_pos c2]
            exact congrArg (fun z => [some (vS l), some (vS q), some (V.str z), some (V.str ⟨#[l[i]]⟩)]) ec⟩
        · have c2 : ¬ d = l[i] := fun e => c (decide_eq_true e)
          exact ⟨rfl, some (V.str ⟨#[l[i]]⟩), by
            rw [show stp (d :: r) l[i] = d :: r from if_neg c2]
            rfl⟩
    · rintro σ H2 ⟨rfl, c0, rfl⟩
      refine ⟨_, rfl, rfl, ?_⟩
      rw [vS_eq0, List.length_map, List.take_length]
      exact k _ (Ex.new hp)
end
/-! ### text[::-1] -/
section
open Evl
variable {X : Cx}
def tRevS (te : TE) : TE := fun σ H Q => te σ H fun x H1 => ∃ l : List Nat, x = vS l ∧ l.length ≤ 100000 ∧ Q (vS l.reverse) H1
theorem pe_revS {e : Expr} {te : TE} {k : Nat} {p1 p2 p3 pos : Pos} (he : PE X e te) : PE X (.Subscript e (.Slice none none (some (.UnaryOp .USub (.Constant (.int 1) k p1) p2)) p3) pos) (tRevS te) := by
  refine ⟨fun pins s σ H Q I hq => ?_⟩
  refine Subscript_ (thn (he.run pins s σ H _ I hq) fun v s1 ⟨x, H1, I1, r1, q1⟩ => ?_)
  obtain ⟨l, rfl, hl, q⟩ := q1
  obtain ⟨t, rfl⟩ := r1
  have back : PO X (some (.UnaryOp .USub (.Constant (.int 1) k p1) p2)) (tPart (tUn (rU fun i => .int (-i)) (tC (.int 1)))) := po_some (pe_un un_neg pe_int)
  refine wpAny_Slice (thn (po_none.run pins s1 σ H1 (fun o Ha => o = none ∧ Ha = H1) I1 ⟨rfl, rfl⟩) fun va s2 ⟨oa, H2, I2, pa, ea, e2⟩ => ?_)
  subst ea e2
  refine thn (po_none.run pins s2 σ H2 (fun o Hb => o = none ∧ Hb = H2) I2 ⟨rfl, rfl⟩) fun vb s3 ⟨ob, H3, I3, pb, eb, e3⟩ => ?_
  subst eb e3
  refine thn (back.run pins s3 σ H3 (fun o Hc => o = some (-1) ∧ Hc = H3) I3 ⟨1, rfl, -1, rfl, rfl, rfl⟩) fun vc s4 ⟨oc, H4, I4, pc, ec, e4⟩ => ?_
  subst ec e4
  cases pa
  cases pb
  cases pc with
  | int _ tk =>
    refine tail_any (ops := [.str (mkS l) t, .ref s4.heap.objs.size]) (typeIs_str _ _ _) (PySem.F.slot_str_getitem.lookup) ?_ (by with_unfolding_all rfl)
    refine wpAny_getItem_str_slice (l := none) (u := none) (st := some (-1, tk)) ⟨_, Heap.get?_push_size _ rfl, rfl, rfl⟩ rfl ?_
    have ep : slicePicked (mkS l) none none (some (-1, tk)) = (List.range l.length).reverse := by
      have e1 : slicePicked (mkS l) none none (some (-1, tk)) = sliceRange (((mkS l).length : Int) - 1) (-1) (-1) := rfl
      rw [e1, mkS_len, PySem.W.krv_sliceRange, PySem.W.krv_range]
    have em : sliceMade (mkS l) t none none (some (-1, tk)) = .str (mkS l.reverse) := by
      have e2 : sliceMade (mkS l) t none none (some (-1, tk)) = .str ⟨((slicePicked (mkS l) none none (some (-1, tk))).filterMap ((mkS l).cps[·]?)).toArray⟩ := rfl
      have e3 := PySem.W.krv_all (mkS l).cps
      rw [mkS_size] at e3
      rw [e2, ep, List.filterMap_reverse, e3]
      rfl
    rw [em]
    refine ⟨by
      rw [mkS_len, List.length_reverse]
      exact sz_of hl, ?_⟩
    have I5 : Inv X pins σ H4 { s4 with heap := s4.heap.push { cls := .type "slice", data := .fields #[.none, .none, .int (-1) tk] }, toks := s4.toks + 1 } := I4.kept (t' := s4.toks + 1) fun b o z => Heap.get?_push_of_some _ z
    exact ⟨vS l.reverse, H4, I5, ⟨_, rfl⟩, q⟩
end
/-! ### sorted of texts, any number of them -/
def leT (a b : List Nat) : Bool := decide (a ≤ b)
def sortT (ls : List (List Nat)) : List (List Nat) := ls.mergeSort leT
theorem leT_trans {a b c : List Nat} (h1 : leT a b = true) (h2 : leT b c = true) : leT a c = true := decide_eq_true (List.le_trans (of_decide_eq_true h1) (of_decide_eq_true h2))
theorem leT_total (a b : List Nat) : leT a b = true ∨ leT b a = true := by
  rcases List.le_total a b with h | h
  · exact .inl (decide_eq_true h)
  · exact .inr (decide_eq_true h)
theorem sortT_perm (ls : List (List Nat)) : (sortT ls).Perm ls := List.mergeSort_perm ls leT
theorem sortT_sorted (ls : List (List Nat)) : (sortT ls).Pairwise (fun a b => leT a b = true) := List.pairwise_mergeSort (le := leT) (fun a b c => leT_trans) (fun a b => by
    rcases leT_total a b with h | h <;> simp [h]) ls
theorem sortT_id {ls ms : List (List Nat)} (h : ms.Pairwise (· ≤ ·)) (hp : ms.Perm ls) : sortT ls = ms :=
  List.Perm.eq_of_pairwise (fun a b _ _ h2 h3 => List.le_antisymm (of_decide_eq_true h2) (of_decide_eq_true h3)) (sortT_sorted ls) (h.imp fun {a b} hab => decide_eq_true hab) ((sortT_perm ls).trans hp.symm)
section
open Evl PySem.W
variable {X : Cx}
theorem vals_each {vs : List V} : ∀ {xs : List (List Nat)} {us : List Value}, Vals (xs.map vS) us → EachIs (fun v b => ∃ t, v = Value.str (mkS b) t) us xs
  | [], _, .nil => .nil
  | x :: xs, _, .cons r rr => .cons (by
      obtain ⟨t, e⟩ := r
      exact ⟨t, e⟩) (vals_each (vs := vs) rr)
theorem each_vals : ∀ {us : List Value} {xs : List (List Nat)}, EachIs (fun v b => ∃ t, v = Value.str (mkS b) t) us xs → Vals (xs.map vS) us
  | _, _, .nil => .nil
  | _, _, .cons ⟨t, e⟩ rr => .cons ⟨t, e⟩ (each_vals rr)
def rSortT (K : PySem.W.Frag) : List V → Hp → VK → Prop := fun vs H Q => ∃ (a : Addr) (ls : List (List Nat)), vs = [.ref a] ∧ SqL K H a (ls.map vS) ∧ ls.length ≤ 100000 ∧ ∀ p, H p = none → Q (.ref p) (upd H p (.lst ((sortT ls).map vS)))
theorem cr_sortT (hu : X.A.units + 64 < cLine) : CallR X (.builtin "sorted") (rSortT X.K) := by
  intro pins s σ H vs us Q I r h
  obtain ⟨a, ls, rfl, hs, hl, q⟩ := h
  obtain ⟨its, rv, pl, hz⟩ := I.list hs
  rw [Vals.ref1 r]
  have he := vals_each (vs := []) rv
  refine sorted_data (bs := ls) (enc := fun l => .str (mkS l)) (R := fun v b => ∃ t, v = Value.str (mkS b) t) pl.isList he (he.mono fun v b ⟨t, e⟩ => ⟨[], by rw [e]; exact Reads.str _ _⟩) (AllAlike.of fun _ _ => rfl) (Sortable.others fun b => ⟨fun e => (by cases e), fun xs e => by cases e⟩) (Nat.le_trans hl (by decide)) (fun b _ => by
    show X.A.units + 2 + 0 < cLine
    omega) fun out hlen heach => ?_
  rw [dataLe_str (k := fun l => mkS l)] at heach
  have em : ls.mergeSort (fun a b => decide ((mkS a).cps.toList ≤ (mkS b).cps.toList)) = sortT ls := rfl
  rw [em] at heach
  obtain ⟨ep, hob⟩ := PyProof.Rows.sortedAll_at s.heap its out.toArray
  have hlen2 : ((sortT ls).map vS).length ≤ sizeLine := by
    rw [List.length_map, (sortT_perm ls).length_eq]
    exact Nat.le_trans hl (by decide)
  exact ⟨.ref _, upd H (s.heap.objs.size + 1) (.lst ((sortT ls).map vS)), I.laid (t' := s.toks) (fun _ _ => PyProof.Rows.sortedAll_old) (Nat.le_succ _) ⟨hlen2, out, ep, each_vals heach, hob⟩, rfl, q _ (I.hok.fresh (Nat.le_succ _))⟩
end
/-! ### the theory of pieces -/
theorem mem_putA {kvs : List (Nat × Nat)} {c0 b0 c b : Nat} (hn : (kvs.map (·.1)).Nodup) : (c, b) ∈ putA kvs c0 b0 ↔ (c = c0 ∧ b = b0) ∨ (c ≠ c0 ∧ (c, b) ∈ kvs) := by
  unfold putA
  by_cases h : (kvs.any fun e => decide (e.1 = c0)) = true
  · rw [if_pos h, List.mem_map]
    rw [List.any_eq_true] at h
    obtain ⟨e0, he0, h0⟩ := h
    have h0' := of_decide_eq_true h0
    constructor
    · rintro ⟨e, he, h2⟩
      by_cases hc : e.1 = c0
      · rw [if_pos hc] at h2
        left
        injection h2 with h3 h4
        exact ⟨by rw [← h3, hc], h4.symm⟩
      · rw [if_neg hc] at h2
        right
        rw [h2] at hc he
        exact ⟨hc, he⟩
    · rintro (⟨h1, h2⟩ | ⟨h1, h2⟩)
      · refine ⟨e0, he0, ?_⟩
        rw [if_pos h0', h0', h1, h2]
      · refine ⟨(c, b), h2, ?_⟩
        rw [if_neg h1]
  · rw [if_neg h, List.mem_append, List.mem_singleton]
    have hno : ∀ b', (c0, b') ∉ kvs := fun b' hm => h (by
      rw [List.any_eq_true]
      exact ⟨_, hm, decide_eq_true rfl⟩)
    constructor
    · rintro (h1 | h1)
      · by_cases hc : c = c0
        · rw [hc] at h1
          exact absurd h1 (hno b)
        · exact .inr ⟨hc, h1⟩
      · injection h1 with h2 h3
        exact .inl ⟨h2, h3⟩
    · rintro (⟨h1, h2⟩ | ⟨h1, h2⟩)
      · right
        rw [h1, h2]
      · exact .inl h2
theorem nxt_step {l : List Nat} {pl c : Nat} (h : pl < l.length) : nxt l pl c = if l.getD pl 0 = c then some pl else nxt l (pl + 1) c := by
  unfold nxt
  rw [drop_at h, List.findIdx?_cons]
  by_cases hc : l.getD pl 0 = c
  · rw [if_pos hc, hc]
    simp
  · rw [if_neg hc]
    have e : (l.getD pl 0 == c) = false := beq_eq_false_iff_ne.mpr hc
    rw [e]
    simp only [Bool.false_eq_true, if_false, Option.map_map]
    congr 1
    funext x
    show x + 1 + pl = x + (pl + 1)
    omega
theorem nxt_end {l : List Nat} {pl c : Nat} (h : l.length ≤ pl) : nxt l pl c = none := by
  unfold nxt
  rw [List.drop_of_length_le h]
  rfl
theorem row_nxt (l : List Nat) (c b : Nat) : ∀ (j pl : Nat), pl + j = l.length → ((c, b) ∈ rowF pl (l.drop pl) ↔ ∃ k, nxt l pl c = some k ∧ b = k + 1)
  | 0, pl, h => by
    rw [List.drop_of_length_le (by omega), nxt_end (by omega)]
    constructor
    · intro z
      cases z
    · rintro ⟨k, z, _⟩
      cases z
  | j + 1, pl, h => by
    have ih := row_nxt l c b j (pl + 1) (by omega)
    rw [drop_at (by omega), nxt_step (by omega)]
    show (c, b) ∈ putA (rowF (pl + 1) (l.drop (pl + 1))) (l.getD pl 0) (pl + 1) ↔ _
    rw [mem_putA (rowF_keys _ _), ih]
    by_cases hc : l.getD pl 0 = c
    · rw [if_pos hc]
      constructor
      · rintro (⟨_, h2⟩ | ⟨h1, _⟩)
        · exact ⟨pl, rfl, h2⟩
        · exact absurd hc.symm h1
      · rintro ⟨k, h1, h2⟩
        injection h1 with h3
        exact .inl ⟨hc.symm, by omega⟩
    · rw [if_neg hc]
      constructor
      · rintro (⟨h1, _⟩ | ⟨_, h2⟩)
        · exact absurd h1.symm hc
        · exact h2
      · intro h2
        exact .inr ⟨fun z => hc z.symm, h2⟩
theorem mem_row {l : List Nat} {pl c b : Nat} (h : pl ≤ l.length) : (c, b) ∈ rowF pl (l.drop pl) ↔ ∃ k, nxt l pl c = some k ∧ b = k + 1 := row_nxt l c b (l.length - pl) pl (by omega)
theorem cons_sub_iff (c : Nat) (x : List Nat) : ∀ m : List Nat, (c :: x).Sublist m ↔ ∃ j, m.findIdx? (· == c) = some j ∧ x.Sublist (m.drop (j + 1))
  | [] => by
    constructor
    · intro h
      cases h
    · rintro ⟨j, h, _⟩
      cases h
  | d :: m => by
    have ih := cons_sub_iff c x m
    rw [List.findIdx?_cons]
    by_cases hc : d = c
    · have e : (d == c) = true := by simp [hc]
      rw [e]
      subst hc
      constructor
      · intro h
        exact ⟨0, rfl, List.cons_sublist_cons.mp h⟩
      · rintro ⟨j, h1, h2⟩
        have h3 : j = 0 := by
          have h4 : some 0 = some j := h1
          injection h4 with h5
          exact h5.symm
        subst h3
        exact List.cons_sublist_cons.mpr h2
    · have e : (d == c) = false := beq_eq_false_iff_ne.mpr hc
      rw [e]
      simp only [Bool.false_eq_true, if_false, Option.map_eq_some_iff]
      constructor
      · intro h
        have h2 : (c :: x).Sublist m := by
          cases h with
          | cons _ h3 => exact h3
          | cons_cons _ h3 => exact absurd rfl hc
        obtain ⟨j, h3, h4⟩ := ih.mp h2
        exact ⟨j + 1, ⟨j, h3, rfl⟩, h4⟩
      · rintro ⟨j, ⟨i, h1, h2⟩, h3⟩
        rw [← h2] at h3
        exact List.Sublist.cons _ (ih.mpr ⟨i, h1, h3⟩)
theorem sub_nxt {l : List Nat} {pl c : Nat} {x : List Nat} : (c :: x).Sublist (l.drop pl) ↔ ∃ k, nxt l pl c = some k ∧ x.Sublist (l.drop (k + 1)) := by
  rw [cons_sub_iff]
  unfold nxt
  constructor
  · rintro ⟨j, h1, h2⟩
    rw [List.drop_drop] at h2
    refine ⟨j + pl, by rw [h1]; rfl, ?_⟩
    have e : j + pl + 1 = pl + (j + 1) := by omega
    rw [e]
    exact h2
  · rintro ⟨k, h1, h2⟩
    rw [Option.map_eq_some_iff] at h1
    obtain ⟨j, h3, h4⟩ := h1
    refine ⟨j, h3, ?_⟩
    rw [List.drop_drop]
    have e : pl + (j + 1) = k + 1 := by omega
    rw [e]
    exact h2
/-- all unlike pieces of k letters from pl on, ascending -/
def enumS (l : List Nat) : Nat → Nat → List (List Nat)
  | 0, _ => [[]]
  | k + 1, pl => (rowS l pl).flatMap fun cb => (enumS l k cb.2).map (cb.1 :: ·)
theorem mem_rowS {l : List Nat} {pl c b : Nat} (h : pl ≤ l.length) : (c, b) ∈ rowS l pl ↔ ∃ k, nxt l pl c = some k ∧ b = k + 1 := by
  rw [← mem_row h]
  exact sortA_mem
theorem mem_enum {l : List Nat} : ∀ (k pl : Nat) (x : List Nat), pl ≤ l.length → (x ∈ enumS l k pl ↔ x.length = k ∧ x.Sublist (l.drop pl))
  | 0, pl, x, h => by
    show x ∈ [[]] ↔ _
    rw [List.mem_singleton]
    constructor
    · intro e
      rw [e]
      exact ⟨rfl, List.nil_sublist _⟩
    · rintro ⟨e, _⟩
      exact List.eq_nil_of_length_eq_zero e
  | k + 1, pl, x, h => by
    show x ∈ (rowS l pl).flatMap (fun cb => (enumS l k cb.2).map (cb.1 :: ·)) ↔ _
    rw [List.mem_flatMap]
    constructor
    · rintro ⟨⟨c, b⟩, h1, h2⟩
      obtain ⟨y, h3, h4⟩ := List.mem_map.mp h2
      obtain ⟨kk, h5, h6⟩ := (mem_rowS h).mp h1
      have hb : b ≤ l.length := by
        have := (nxt_lt h5).2.1
        omega
      obtain ⟨h7, h8⟩ := (mem_enum k b y hb).mp h3
      rw [← h4]
      refine ⟨by rw [List.length_cons, h7], sub_nxt.mpr ⟨kk, h5, ?_⟩⟩
      rw [h6] at h8
      exact h8
    · rintro ⟨h1, h2⟩
      cases x with
      | nil => cases h1
      | cons c y =>
        obtain ⟨kk, h5, h6⟩ := sub_nxt.mp h2
        have hb : kk + 1 ≤ l.length := (nxt_lt h5).2.1
        refine ⟨(c, kk + 1), (mem_rowS h).mpr ⟨kk, h5, rfl⟩, List.mem_map.mpr ⟨y, (mem_enum k (kk + 1) y hb).mpr ⟨?_, h6⟩, rfl⟩⟩
        rw [List.length_cons] at h1
        omega
theorem rowS_keys (l : List Nat) (pl : Nat) : ((rowS l pl).map (·.1)).Nodup := by
  have p : ((rowS l pl).map (·.1)).Perm ((rowF pl (l.drop pl)).map (·.1)) := (sortA_perm _).map _
  exact p.nodup_iff.mpr (rowF_keys _ _)
theorem sorted_keys : ∀ {kvs : List (Nat × Nat)}, kvs.Pairwise (fun a b => leP a b = true) → (kvs.map (·.1)).Nodup → kvs.Pairwise (fun a b => a.1 < b.1)
  | [], _, _ => List.Pairwise.nil
  | x :: r, h, hn => by
    rw [List.pairwise_cons] at h ⊢
    rw [List.map_cons, List.nodup_cons] at hn
    refine ⟨fun y hy => ?_, sorted_keys h.2 hn.2⟩
    have h1 := of_decide_eq_true (h.1 y hy)
    have h2 : x.1 ≠ y.1 := fun z => hn.1 (by
      rw [z]
      exact List.mem_map.mpr ⟨y, hy, rfl⟩)
    omega
theorem rowS_lt (l : List Nat) (pl : Nat) : (rowS l pl).Pairwise (fun a b => a.1 < b.1) := sorted_keys (sortA_sorted _) (rowS_keys l pl)
theorem enum_sorted (l : List Nat) : ∀ (k pl : Nat), (enumS l k pl).Pairwise (· < ·)
  | 0, _ => List.pairwise_singleton _ _
  | k + 1, pl => by
    show ((rowS l pl).flatMap fun cb => (enumS l k cb.2).map (cb.1 :: ·)).Pairwise (· < ·)
    have key : ∀ kvs : List (Nat × Nat), kvs.Pairwise (fun a b => a.1 < b.1) → (kvs.flatMap fun cb => (enumS l k cb.2).map (cb.1 :: ·)).Pairwise (· < ·) := by
      intro kvs
      induction kvs with
      | nil => intro _; exact List.Pairwise.nil
      | cons x r ih =>
        intro h
        rw [List.pairwise_cons] at h
        rw [List.flatMap_cons, List.pairwise_append]
        refine ⟨?_, ih h.2, fun a ha b hb => ?_⟩
        · rw [List.pairwise_map]
          exact (enum_sorted l k x.2).imp fun {a b} hab => List.Lex.cons hab
        · obtain ⟨a', _, rfl⟩ := List.mem_map.mp ha
          obtain ⟨y, hy, hb2⟩ := List.mem_flatMap.mp hb
          obtain ⟨b', _, rfl⟩ := List.mem_map.mp hb2
          exact List.Lex.rel (h.1 y hy)
    exact key _ (rowS_lt l pl)
theorem list_lt_irrefl (x : List Nat) : ¬ x < x := List.lt_irrefl x
theorem enum_nodup (l : List Nat) (k pl : Nat) : (enumS l k pl).Nodup := (enum_sorted l k pl).imp fun {a b} h e => by
  rw [e] at h
  exact list_lt_irrefl b h
/-! sizes -/
def blk (l : List Nat) (k : Nat) (kvs : List (Nat × Nat)) : Nat := (kvs.map fun cb => (enumS l k cb.2).length).sum
theorem flat_len (l : List Nat) (k : Nat) : ∀ kvs : List (Nat × Nat), (kvs.flatMap fun cb => (enumS l k cb.2).map (cb.1 :: ·)).length = blk l k kvs
  | [] => rfl
  | x :: r => by
    rw [List.flatMap_cons, List.length_append, List.length_map, flat_len l k r]
    rfl
theorem enum_len (l : List Nat) (k pl : Nat) : (enumS l (k + 1) pl).length = blk l k (rowF pl (l.drop pl)) := by
  show ((rowS l pl).flatMap fun cb => (enumS l k cb.2).map (cb.1 :: ·)).length = _
  rw [flat_len]
  exact ((sortA_perm (rowF pl (l.drop pl))).map fun cb => (enumS l k cb.2).length).sum_nat
theorem blk_put (l : List Nat) (k c0 b0 : Nat) : ∀ kvs : List (Nat × Nat), (kvs.map (·.1)).Nodup → blk l k (putA kvs c0 b0) + (match valA kvs c0 with
    | none => 0
    | some b => (enumS l k b).length) = blk l k kvs + (enumS l k b0).length
  | [], _ => by
    show (enumS l k b0).length + 0 + 0 = 0 + (enumS l k b0).length
    omega
  | x :: r, hn => by
    rw [List.map_cons, List.nodup_cons] at hn
    by_cases hc : x.1 = c0
    · have e1 : valA (x :: r) c0 = some x.2 := by
        unfold valA
        rw [List.find?_cons_of_pos (by simp [hc])]
        rfl
      have e2 : putA (x :: r) c0 b0 = (c0, b0) :: r := by
        unfold putA
        rw [if_pos (by simp [hc]), List.map_cons, if_pos hc, hc]
        congr 1
        have e3 : ∀ e ∈ r, (if e.1 = c0 then (e.1, b0) else e) = e := fun e he => by
          rw [if_neg fun z => hn.1 (by
            rw [hc, ← z]
            exact List.mem_map.mpr ⟨e, he, rfl⟩)]
        have e4 : r.map (fun e => if e.1 = c0 then (e.1, b0) else e) = r.map id := List.map_congr_left e3
        rw [e4, List.map_id]
      rw [e1, e2]
      show (enumS l k b0).length + blk l k r + (enumS l k x.2).length = (enumS l k x.2).length + blk l k r + (enumS l k b0).length
      omega
    · have ih := blk_put l k c0 b0 r hn.2
      have e1 : valA (x :: r) c0 = valA r c0 := by
        unfold valA
        rw [List.find?_cons_of_neg (by simp [hc])]
      have e2 : putA (x :: r) c0 b0 = x :: putA r c0 b0 := by
        unfold putA
        by_cases ha : (r.any fun e => decide (e.1 = c0)) = true
        · have hb : ((x :: r).any fun e => decide (e.1 = c0)) = true := by
            rw [List.any_cons, ha, Bool.or_true]
          rw [if_pos ha, if_pos hb, List.map_cons, if_neg hc]
        · have hb : ¬ ((x :: r).any fun e => decide (e.1 = c0)) = true := by
            rw [List.any_cons, decide_eq_false hc, Bool.false_or]
            exact ha
          rw [if_neg ha, if_neg hb]
          rfl
      rw [e1, e2]
      show (enumS l k x.2).length + blk l k (putA r c0 b0) + _ = (enumS l k x.2).length + blk l k r + (enumS l k b0).length
      omega
theorem enum_over {l : List Nat} {k pl : Nat} (h : pl ≤ l.length) (hk : l.length - pl < k) : enumS l k pl = [] := by
  apply List.eq_nil_iff_forall_not_mem.mpr
  intro x hx
  obtain ⟨h1, h2⟩ := (mem_enum k pl x h).mp hx
  have h3 := h2.length_le
  rw [List.length_drop] at h3
  omega
theorem newRow_at {n m : Nat} {a b : List Int} (h : m < n) : (newRow n a b).getD (m + 1) 0 = a.getD (m + 1) 0 + a.getD m 0 - b.getD m 0 := by
  unfold newRow
  show ((List.range n).map fun m => a.getD (m + 1) 0 + a.getD m 0 - b.getD m 0).getD m 0 = _
  rw [List.getD_eq_getElem?_getD, List.getElem?_map, List.getElem?_range h]
  rfl
/-- the numbers tell how many unlike pieces there are -/
theorem count_eq (l : List Nat) : ∀ (j pl k : Nat), pl + j = l.length → (cR l pl).getD k 0 = ((enumS l k pl).length : Int)
  | 0, pl, k, h => by
    have e : pl = l.length := by omega
    subst e
    rw [cR_end]
    cases k with
    | zero => rfl
    | succ k =>
      rw [enum_over (Nat.le_refl _) (by omega)]
      show (List.replicate l.length (0 : Int)).getD k 0 = 0
      rw [List.getD_eq_getElem?_getD, List.getElem?_replicate]
      split <;> rfl
  | j + 1, pl, k, h => by
    have ih := fun k => count_eq l j (pl + 1) k (by omega)
    rw [cR_step (by omega)]
    cases k with
    | zero => rfl
    | succ m =>
      by_cases hm : m < l.length
      · rw [newRow_at hm, ih, ih, enum_len, enum_len]
        have hd : rowF pl (l.drop pl) = putA (rowF (pl + 1) (l.drop (pl + 1))) (l.getD pl 0) (pl + 1) := by
          rw [drop_at (show pl < l.length by omega)]
          rfl
        have hp := blk_put l m (l.getD pl 0) (pl + 1) (rowF (pl + 1) (l.drop (pl + 1))) (rowF_keys _ _)
        rw [hd]
        cases hv : valA (rowF (pl + 1) (l.drop (pl + 1))) (l.getD pl 0) with
        | none =>
          rw [hv] at hp
          have hp2 : blk l m (putA (rowF (pl + 1) (l.drop (pl + 1))) (l.getD pl 0) (pl + 1)) + 0 = blk l m (rowF (pl + 1) (l.drop (pl + 1))) + (enumS l m (pl + 1)).length := hp
          have hz : (zeroRow l.length).getD m 0 = 0 := by
            unfold zeroRow
            rw [List.getD_eq_getElem?_getD, List.getElem?_replicate]
            split <;> rfl
          show _ + _ - (zeroRow l.length).getD m 0 = _
          rw [hz]
          omega
        | some b =>
          rw [hv] at hp
          have hp2 : blk l m (putA (rowF (pl + 1) (l.drop (pl + 1))) (l.getD pl 0) (pl + 1)) + (enumS l m b).length = blk l m (rowF (pl + 1) (l.drop (pl + 1))) + (enumS l m (pl + 1)).length := hp
          have hb := valA_bd (show pl + 1 ≤ l.length by omega) hv
          have ihb := count_eq l (l.length - b) b m (by omega)
          show _ + _ - (cR l b).getD m 0 = _
          rw [ihb]
          omega
      · rw [enum_over (by omega) (by omega), List.getD_eq_getElem?_getD, List.getElem?_eq_none (by rw [newRow_len]; omega)]
        rfl
termination_by j => j
decreasing_by all_goals simp_wf; all_goals omega
theorem count_of {l : List Nat} {pl : Nat} (h : pl ≤ l.length) (k : Nat) : (cR l pl).getD k 0 = ((enumS l k pl).length : Int) := count_eq l (l.length - pl) pl k (by omega)
section
open Evl
variable {K : PySem.W.Frag} {σ : L2.St} {H : Hp} {a : Addr}
/-- the law's turns: at most three -/
theorem et_starts {ns : List Int} (hS : SqL K H a (ns.map V.int)) (h0 : σ[0]? = some (some (.ref a))) : ∃ n, n ≤ 3 ∧ EvWT (iRng1 (tCons (tCB rMaxQ (tCons (tC (.int 1)) (tCons (tCB rMinQ (tCons (tC (.int 3)) (tCons (tCB (rLenQ K) (tCons (tVar 0) tNil)) tNil))) tNil))) tNil)) σ H n (fun i => .int (i : Nat)) := by
  refine ⟨(if (1 : Int) < (if (ns.length : Int) < 3 then (ns.length : Int) else 3) then (if (ns.length : Int) < 3 then (ns.length : Int) else 3) else 1).toNat, by
    split <;> split <;> omega, et_rng1 (ea_cons (ev_cb (r := rMaxQ) (vs := [.int 1, .int (if (ns.length : Int) < 3 then (ns.length : Int) else 3)]) (ea_cons ev_c (ea_cons (ev_cb (r := rMinQ) (vs := [.int 3, .int (ns.length : Int)]) (ea_cons ev_c (ea_cons (ev_is (ev_cb (ea_cons (ev_var (i := 0) h0) ea_nil) (rc_lenQ (K := K) hS)) (by rw [List.length_map])) ea_nil)) (fun H1 e Q1 q => ⟨_, _, rfl, q H1 (Ex.refl H1)⟩)) ea_nil)) (fun H1 e Q1 q => ⟨_, _, rfl, q H1 (Ex.refl H1)⟩)) ea_nil) (by
    split <;> split <;> omega)⟩
end
section
open Evl
variable {K : PySem.W.Frag} {σ : L2.St} {H H' : Hp} {ta tb te tx : TE} {p : Addr}
theorem el_is {xs ys : List V} (h : EvL te σ H xs) (e : xs = ys) : EvL te σ H ys := e ▸ h
/-- a comprehension over a list of things that stand for xs -/
theorem el_over {α : Type} {xs : List α} {f g : α → V} {j : Nat} {vs : List Nat} (hv : Ev tx σ H (.ref p)) (hp : SqL K H p (xs.map f)) (hz : xs.length ≤ 40000) (hw : ∀ x, wipe ((wipe σ vs).set j (some x)) vs = wipe σ vs)
    (he : ∀ x ∈ xs, ∀ H1, Ex H H1 → Ev te ((wipe σ vs).set j (some (f x))) H1 (g x)) : EvL (tLc (iList K tx) (gName j) tYes te vs) σ H (xs.map g) := by
  have h := el_lcY (te := te) (j := j) (vs := vs) (fun i => match xs[i]? with
    | some x => g x
    | none => V.non) (ew_list hv hp) (by rw [List.length_map]; exact hz) hw (fun i H1 e hi => by
      rw [List.length_map] at hi
      have e1 : (xs.map f).getD i V.non = f xs[i] := by
        rw [List.getD_eq_getElem?_getD, List.getElem?_map, List.getElem?_eq_getElem hi]
        rfl
      rw [e1, List.getElem?_eq_getElem hi]
      exact he xs[i] (List.getElem_mem hi) H1 e)
  refine el_is h ?_
  rw [List.length_map]
  apply List.ext_getElem
  · simp
  · intro i h1 h2
    rw [List.length_map] at h2
    rw [List.getElem_map, List.getElem_map, List.getElem_range, List.getElem?_eq_getElem h2]
theorem el_sortT {ls : List (List Nat)} (hv : Ev te σ H (.ref p)) (hp : SqL K H p (ls.map vS)) (hz : ls.length ≤ 100000) : EvL (tCB (rSortT K) (tCons te tNil)) σ H ((sortT ls).map vS) := fun H1 e Q q =>
  hv H1 e _ fun H2 e2 => ⟨p, ls, rfl, ex_l (e.trans e2) hp, hz, fun l hl => q l _ (fresh_back e2 hl) (e2.trans (Ex.new hl)) upd_same⟩
theorem ExT.fresh_ex {tp : Addr} {HA : Hp} (e : ExT tp HA H') (x : Ex H HA) (h : H tp = none) : Ex H H' := fun a o ha => e.1 a o (ne_of_none ha h) (x a o ha)
end
section
open Evl
variable {K : PySem.W.Frag} {σ : L2.St} {H H' : Hp} {ta tb te tx : TE} {tt : TT} {p : Addr}
theorem el_overF {α : Type} {xs : List α} {f g : α → V} {c : α → Bool} {j : Nat} {vs : List Nat} (hv : Ev tx σ H (.ref p)) (hp : SqL K H p (xs.map f)) (hz : xs.length ≤ 40000) (hw : ∀ x, wipe ((wipe σ vs).set j (some x)) vs = wipe σ vs)
    (ht : ∀ x ∈ xs, ∀ H1, Ex H H1 → EvT tt ((wipe σ vs).set j (some (f x))) H1 (c x)) (he : ∀ x ∈ xs, c x = true → ∀ H1, Ex H H1 → Ev te ((wipe σ vs).set j (some (f x))) H1 (g x)) : EvL (tLc (iList K tx) (gName j) tt te vs) σ H ((xs.filter c).map g) := by
  cases xs with
  | nil =>
    have h := el_lcW (te := te) (tt := tt) (j := j) (vs := vs) (fun _ => false) (fun _ => V.non) (ew_list hv hp) (Nat.zero_le _) hw (fun i H1 e hi => absurd hi (Nat.not_lt_zero i)) (fun i H1 e hi => absurd hi (Nat.not_lt_zero i))
    exact h
  | cons d r =>
    have hg : ∀ i, i < (d :: r).length → (d :: r).getD i d ∈ d :: r ∧ ((d :: r).map f).getD i V.non = f ((d :: r).getD i d) := fun i hi => by
      rw [List.getD_eq_getElem?_getD, List.getD_eq_getElem?_getD, List.getElem?_map, List.getElem?_eq_getElem hi]
      exact ⟨List.getElem_mem hi, rfl⟩
    have h := el_lcW (te := te) (tt := tt) (j := j) (vs := vs) (fun i => c ((d :: r).getD i d)) (fun i => g ((d :: r).getD i d)) (ew_list hv hp) (by rw [List.length_map]; exact hz) hw (fun i H1 e hi => by
      rw [List.length_map] at hi
      obtain ⟨h1, h2⟩ := hg i hi
      rw [h2]
      exact ht _ h1 H1 e) (fun i H1 e hi hc => by
      rw [List.length_map] at hi
      obtain ⟨h1, h2⟩ := hg i hi
      rw [h2]
      exact he _ h1 hc H1 e)
    rw [List.length_map, given_filter] at h
    exact h
theorem ev_txt {s : Str} {l : List Nat} (h : mkS l = s) : Ev (tC (.str s)) σ H (vS l) := by
  rw [← h]
  exact ev_c
theorem same_no {α : Type} [DecidableEq α] {a b : α} (h : a = b) : (!decide (a = b)) = false := by
  rw [decide_eq_true h] <;> rfl
theorem txt_sub {x l : List Nat} (h : x.Sublist l) (ht : txtB l = true) : txtB x = true := List.all_eq_true.mpr fun c hc => List.all_eq_true.mp ht c (h.subset hc)
theorem nil_in {t l : List Nat} (h : ∀ c ∈ t, c ∈ l) (ht : txtB l = true) : txtB t = true := List.all_eq_true.mpr fun c hc => List.all_eq_true.mp ht c (h c hc)
/-- letters to draw from -/
def Lts (n : Nat) (v : V) : Prop := ∃ l : List Nat, v = vS l ∧ 1 ≤ l.length ∧ l.length ≤ n ∧ txtB l = true
theorem lts {n : Nat} (l : List Nat) {s : Str} (h : mkS l = s) (h1 : 1 ≤ l.length) (h2 : l.length ≤ n) (h3 : txtB l = true) : Lts n (.str s) := ⟨l, by rw [← h], h1, h2, h3⟩
def spLaw (K : PySem.W.Frag) : Sp := fun vs H Q _ => ∃ (a : Addr) (ns : List Int), vs = [.ref a] ∧ SqL K H a (ns.map V.int) ∧ ns.length ≤ 63 ∧ (∀ z ∈ ns, Builtin.Int.intBits z ≤ 1048576) ∧ ∀ H', Q (.bl true) H'
end
/-! ### calls by name alone -/
section
variable {K : PySem.W.Frag} {x qual : Str} {params : Arguments} {body : List Stmt} {scope : Scope} {kws : List (Str × V)} {f : Addr} {fd : FuncData} {ps : List Str}
structure KwAll (K : PySem.W.Frag) (fd : FuncData) (ps ks : List Str) (g : List Value → List Value) (gV : List V → List V) : Prop where
  to : ∀ (s : Shared) (ws : List Value), ws.length = ks.length → BindsTo s fd ⟨[], ks.zip ws⟩ (ps.zip (g ws))
  rel : ∀ {zs : List V} {ws : List Value}, zs.length = ks.length → Vals zs ws → Vals (gV zs) (g ws)
theorem FunD.kwAll (F : FunD K x qual params body scope [] kws f fd) (ks : List Str) (g : List Value → List Value) (gV : List V → List V) (rel : ∀ {zs : List V} {ws : List Value}, zs.length = ks.length → Vals zs ws → Vals (gV zs) (g ws))
    (h : ∀ (kV doc pm : Value) (an : Option Addr) (cdv ct : Value) (ws : List Value), ws.length = ks.length → bindArgs (PySem.W.fnOf x qual params body scope .none kV doc pm an cdv ct) ⟨[], ks.zip ws⟩ = pure (ps.zip (g ws))) : KwAll K fd ps ks g gV := by
  obtain ⟨u7, own, u1, u2, u3, u4, ann, u5, u6, sl, rfl, lk, hcode, hD, _⟩ := F.ex
  rcases hD with ⟨_, rfl⟩ | ⟨e, _⟩
  · exact ⟨fun s ws hl => .of_eq (h u2 u3 u4 ann u5 u6 ws hl), fun hl r => rel hl r⟩
  · exact absurd rfl e
def tKw (m : Nat) (sp : Sp) (gV : List V → List V) (E : XK) (tk : TA) : TE := fun σ H Q => tk σ H fun zs H1 => zs.length = m ∧ sp (gV zs) H1 Q E
variable {X : Cx} {CX : CXT} {k : Nat} {sp : Sp} {E : XK} {p pos : Pos} {kw : List Keyword} {tk : TA} {g : List Value → List Value} {gV : List V → List V} {ks : List Str}
theorem pe_callKw (F : FnOk X.prog X.w X.K X.mg X.base CX k f fd ps sp) (hr : Room k X.A) (hg : Gl X x) (hm : X.mg x = some (.ref f)) (hk : PySem.W.keepIn X.K (.ref f) = true) (hb : KwAll X.K fd ps ks g gV) (hx : Passes CX X E) (hkw : PK X kw tk)
    (al : (backToKw pos (keywordEach kw X.env)).all (·.1.isSome) = true := by rfl) (hks : (backToKw pos (keywordEach kw X.env)).filterMap (·.1) = ks := by rfl) (nd : (x == ("__debug__" : Str)) = false := by decide)
    (bk : ((backTo pos (starEach [] X.env)).any (·.1) || (backToKw pos (keywordEach kw X.env)).any (·.1.isNone)) = false := by rfl) : PE X (.Call (.Name x p) [] kw pos) (tKw ks.length sp gV E tk) := by
  refine ⟨fun pins s σ H Q I h => ?_⟩
  refine wpAny_Call_Name_kw (ld_glob I hg hm ?_ nd)
  refine PySem.W.callWith_KW0 (h₀ := X.base) I.ok.mod.kin hk al ?_ bk
  refine thn (hkw.run pos pins s σ H _ I h) fun ws s2 ⟨zs, H2, I2, rz, hl, q2⟩ => ⟨I2.kIn, ?_⟩
  rw [hks]
  have rel := hb.rel hl rz
  refine wpAny_call (codeAny_mono (F.run X.A X.stack s2 H2 ⟨[], ks.zip ws⟩ (g ws) (gV zs) Q E hr I2.env0 (hb.to s2 ws (rz.length.symm.trans hl)) rel q2) fun res s3 hh => ?_)
  cases res with
  | error ev => exact hx pins σ H2 s2 ev s3 I2 hh
  | ok fl =>
    cases fl with
    | next => exact False.elim hh
    | brk => exact False.elim hh
    | cont => exact False.elim hh
    | ret u => exact I2.after hh
end
section
open Evl
variable {σ : L2.St} {H : Hp} {z : V}
theorem ev_kw {m : Nat} {sp : Sp} {gV : List V → List V} {E : XK} {tk : TA} {zs : List V} (h : EvA tk σ H zs) (hl : zs.length = m) (hs : SpV sp (gV zs) H z) : Ev (tKw m sp gV E tk) σ H z := fun H1 e Q q =>
  h H1 e _ fun H2 e2 => ⟨hl, hs H2 (e.trans e2) Q (fun H3 e3 => q H3 (e2.trans e3)) E⟩
theorem el_kw {m : Nat} {sp : Sp} {gV : List V → List V} {E : XK} {tk : TA} {zs xs : List V} (h : EvA tk σ H zs) (hl : zs.length = m) (hs : SpL sp (gV zs) H xs) : EvL (tKw m sp gV E tk) σ H xs := fun H1 e Q q =>
  h H1 e _ fun H2 e2 => ⟨hl, hs H2 (e.trans e2) Q (fun p H3 hp e3 h3 => q p H3 (fresh_back e2 hp) (e2.trans e3) h3) E⟩
end
/-! ### comprehensions whose items are made on the way -/
section
open Evl
variable {K : PySem.W.Frag} {σ : L2.St} {H H' : Hp} {te tx : TE} {p : Addr}
theorem take_filter {α : Type} {zs : List α} {f : α → Bool} {i : Nat} {z : α} (h : zs[i]? = some z) : (zs.take (i + 1)).filter f = (zs.take i).filter f ++ if f z = true then [z] else [] := by
  obtain ⟨hi, e⟩ := List.getElem?_eq_some_iff.mp h
  rw [List.take_succ_eq_append_getElem hi, List.filter_append, e]
  congr 1
  by_cases hf : f z = true
  · rw [if_pos hf, List.filter_cons_of_pos hf]
    rfl
  · rw [if_neg hf, List.filter_cons_of_neg hf]
    rfl
theorem el_lcP {α : Type} {wi : TI} {n : Nat} {item : Nat → V} {g : TG} {tt : TT} {vs : List Nat} {zs : List α} (f : α → Bool) (R : Hp → V → α → Prop) (h : EvW wi σ H n item) (hl : zs.length = n) (hn : n ≤ 70000)
    (m1 : ∀ H1 H2 u z, Ex H1 H2 → R H1 u z → R H2 u z) (m2 : ∀ (H1 : Hp) (D : Addr) (xs : List V) (o : HO) (u : V) (z : α), u ≠ .ref D → H1 D = some (.lst xs) → R H1 u z → R (upd H1 D o) u z)
    (step : ∀ (i : Nat) (z : α), zs[i]? = some z → ∀ H1, Ex H H1 → ∀ (Q1 : Hp → Prop) (Q2 : VK), (f z = false → ∀ H2, Ex H1 H2 → Q1 H2) → (f z = true → ∀ u H2, Ex H1 H2 → (∀ D, H1 D ≠ none → u ≠ .ref D) → R H2 u z → Q2 u H2) →
      g (item i) (wipe σ vs) H1 fun σ2 H2 => wipe σ2 vs = wipe σ vs ∧ tt σ2 H2 fun b H3 => if b = true then te σ2 H3 Q2 else Q1 H3) :
    ∀ H1, Ex H H1 → ∀ Q : VK, (∀ D H2 us, H1 D = none → Ex H1 H2 → H2 D = some (.lst us) → Paired (R H2) us (zs.filter f) → (∀ u ∈ us, u ≠ .ref D) → Q (.ref D) H2) → tLc wi g tt te vs σ H1 Q := fun H1 e Q q => h H1 e _ fun H2 e2 J G Y w hy hG D hD => by
  refine lc_it w (fun i H' => ∃ us, Ex H2 H' ∧ H' D = some (.lst us) ∧ us.length ≤ i ∧ Paired (R H') us ((zs.take i).filter f) ∧ ∀ u ∈ us, u ≠ .ref D) ⟨[], Ex.new hD, upd_same, Nat.le_refl _, .nil, fun u hu => by cases hu⟩ (fun i H3 _ ⟨us, x, _⟩ => hG H3 x) ?_ ?_
  · rintro i x H3 H4 hi ⟨us, ex, hD3, hul, hp, hne⟩ y
    obtain ⟨rfl, rfl⟩ := hy i H3 x H4 hi y
    have hi2 : i < zs.length := by omega
    have hz : zs[i]? = some zs[i] := List.getElem?_eq_getElem hi2
    have et := take_filter (f := f) hz
    refine step i zs[i] hz H4 ((e.trans e2).trans ex) _ _ (fun hf H5 e5 => ⟨us, ex.trans e5, e5 _ _ hD3, by omega, ?_, hne⟩) fun hf u H5 e5 hnew hR => ⟨us, e5 _ _ hD3, sz_lt (by omega), us ++ [u], ?_, upd_same, ?_, ?_, ?_⟩
    · rw [et, hf]
      show Paired (R H5) us (_ ++ [])
      rw [List.append_nil]
      exact pair_to hp fun a b r => m1 _ _ _ _ e5 r
    · intro a o ha
      have hn2 : a ≠ D := fun z => by
        rw [z, hD] at ha
        cases ha
      rw [upd_ne hn2]
      exact e5 a o (ex a o ha)
    · rw [List.length_append]
      show us.length + 1 ≤ i + 1
      omega
    · rw [et, hf]
      have hnu : u ≠ .ref D := hnew D (by rw [hD3]; simp)
      have base : Paired (R (upd H5 D (.lst (us ++ [u])))) us ((zs.take i).filter f) := by
        have key : ∀ {as : List V} {bs : List α}, Paired (R H4) as bs → (∀ a ∈ as, a ≠ .ref D) → Paired (R (upd H5 D (.lst (us ++ [u])))) as bs := fun {as bs} pr => by
          induction pr with
          | nil => exact fun _ => .nil
          | cons r _ ih => exact fun hh => .cons (m2 _ _ _ _ _ _ (hh _ List.mem_cons_self) (e5 _ _ hD3) (m1 _ _ _ _ e5 r)) (ih fun a ha => hh a (List.mem_cons_of_mem _ ha))
        exact key hp hne
      exact base.snoc (m2 _ _ _ _ _ _ hnu (e5 _ _ hD3) hR)
    · intro a ha
      rcases List.mem_append.mp ha with h9 | h9
      · exact hne a h9
      · rw [List.mem_singleton.mp h9]
        exact hnew D (by rw [hD3]; simp)
  · rintro H3 ⟨us, ex, hD3, hul, hp, hne⟩
    rw [← hl, List.take_length] at hp
    exact q D H3 us (fresh_back e2 hD) (e2.trans ex) hD3 hp hne
theorem filter_yes {α : Type} (zs : List α) : zs.filter (fun _ => true) = zs := List.filter_eq_self.mpr fun _ _ => rfl
end
/-! ### a lambda handed to a def: the wish about what flies out may speak of the slots -/
section
open Evl LamX
variable {X : Cx} {pins : List (Addr × Obj)} {σ : L2.St} {H : Hp} {s : Shared}
/-- the lambda is run, from anywhere deeper -/
theorem lam_run {f c' : Addr} {pm ctv : Value} {params : Arguments} {body : Expr} {scope : Scope} {k : Nat} {t : XK → TE} (I : Inv X pins σ H s) (L : LamS X.env.scope scope)
    (hf : s.heap.get? f = some (PySem.W.kla_obj "<lambda>" (X.env.qual ++ "<lambda>") params body scope (cloFrom X.env.cells scope.names []) pm c' ctv)) (hfn : H f = none) (hfr : f ∉ frs X.stack)
    (hbind : bindArgs (PySem.W.kla_fn "<lambda>" (X.env.qual ++ "<lambda>") params body scope (cloFrom X.env.cells scope.names []) pm (.ref c') ctv) ⟨[], []⟩ = pure [])
    (hbody : ∀ (A : Around) (outer : List Env) (s : Shared) (H : Hp) (E : XK), Room k (A.deeper (lamEnv X scope s.heap.objs.size f c')) → PE (lamCx X A outer s H E scope f c') body (t E))
    {A1 : Around} {outer1 : List Env} {s1 : Shared} {HZ : Hp} {E : XK} {Q : VK} (hr : Room (k + 1) A1) (e0 : Env0 X.prog X.w X.K X.mg X.base A1 outer1 s1 HZ) (un : Un (frs X.stack) [] H HZ s.heap s1.heap) (hc : HZ c' = some (CodeO c' (X.env.qual ++ "<lambda>"))) (ht : t E σ HZ Q) :
    (∃ o, s1.heap.get? f = some o ∧ o = PySem.W.kla_obj "<lambda>" (X.env.qual ++ "<lambda>") params body scope (cloFrom X.env.cells scope.names []) pm c' ctv) ∧
      codeAny (model X.prog X.w) A1 (.call (.ref f) ⟨[], []⟩) (CR (L2.CX X.prog X.w) outer1 X.prog X.w HZ s1 Q E) s1 := by
  have of1 : s1.heap.get? f = some (PySem.W.kla_obj "<lambda>" (X.env.qual ++ "<lambda>") params body scope (cloFrom X.env.cells scope.names []) pm c' ctv) := un.keep f _ hf hfn hfr (fun z => nomatch (show f ∈ ([] : List Addr) from z))
  refine ⟨⟨_, of1, rfl⟩, ?_⟩
  have okc : ObjOk X.prog X.w HZ s1.heap c' (CodeO c' (X.env.qual ++ "<lambda>")) := e0.hok c' _ hc
  obtain ⟨⟨oc, vs, tk, hoc, hdc, hvc⟩, _, _⟩ := okc
  have lim : s1.heap.NoLimit := e0.mod.nolimit.keeps fun b o e => (e0.bs b o e).1
  refine PySem.W.kla_callFunE hr.depth of1 rfl L.co L.gen rfl ⟨c', oc, vs, tk, rfl, hoc, hdc, hvc⟩ ?_
  rw [hbind]
  refine wpAny_pure (wpAny_newFunctionEnv (fun y hy => (L.own y hy).2) (fun y hy => absurd hy (by simp)) (fun h1 hns hsb => ⟨lim.fresh _ hsb, ?_⟩) L.kind)
  show codeAny _ _ (.expr body (lamEnv X scope s1.heap.objs.size f c')) _ _
  have kp : ∀ b o, s1.heap.get? b = some o → h1.get? b = some o := fun b o e => hsb.extBut b o (Nat.ne_of_lt (Heap.lt_size e)) (Heap.get?_push_of_some _ e)
  have J : Inv (lamCx X A1 outer1 s1 HZ E scope f c') [] σ HZ { s1 with heap := h1, toks := s1.toks + ([] : List (Str × Value)).length } := lam_start2 I L e0 hr.hd un hns kp
  refine PySem.W.kla_codeExpr (wpAny_mono ((hbody _ _ s1 HZ E (hr.deeper _)).run [] _ _ HZ Q J ht) (fun v s2 hq => ?_) fun e s2 hq => hq)
  obtain ⟨v2, H2, J2, rv, q⟩ := hq
  exact ⟨v2, H2, J2.os, J2.bare, J2.base, J2.hok, rv, q⟩
/-- a() in the def that got the lambda -/
theorem pe_actW {CXg : CXT} {Eg : XK} {Ng : List Str} {qg : Str} {sg : Scope} {g f c' : Addr} {cdg pm ctv : Value} {params : Arguments} {body : Expr} {scope : Scope} {k i : Nat} {a : Str} {pn : List (Addr × Obj)} {xe : Value → Shared → Prop} {W : WX} {t : XK → TE} {p1 p2 : Pos}
    (I : Inv X pins σ H s) (L : LamS X.env.scope scope) (hf : s.heap.get? f = some (PySem.W.kla_obj "<lambda>" (X.env.qual ++ "<lambda>") params body scope (cloFrom X.env.cells scope.names []) pm c' ctv)) (hfn : H f = none) (hfr : f ∉ frs X.stack)
    (hbind : bindArgs (PySem.W.kla_fn "<lambda>" (X.env.qual ++ "<lambda>") params body scope (cloFrom X.env.cells scope.names []) pm (.ref c') ctv) ⟨[], []⟩ = pure [])
    (tk : Takes ((cxOf CXg X.prog X.w X.K X.mg X.base Ng qg sg g cdg X.A X.stack s H Eg).tr pn xe) W) (hr : Room (k + 1) (X.A.deeper (envOfC qg sg s.heap.objs.size g cdg)))
    (hbody : ∀ (A : Around) (outer : List Env) (s : Shared) (H : Hp) (E : XK), Room k (A.deeper (lamEnv X scope s.heap.objs.size f c')) → PE (lamCx X A outer s H E scope f c') body (t E))
    (hN : Ng[i]? = some a) (hv : Vis sg a) (nd : (a == ("__debug__" : Str)) = false) (nc : (a == ("__classdict__" : Str)) = false) :
    PE ((cxOf CXg X.prog X.w X.K X.mg X.base Ng qg sg g cdg X.A X.stack s H Eg).tr pn xe) (.Call (.Name a p1) [] [] p2)
      (fun σZ HZ Q => ∃ E : XK, (∀ cls d H9, E cls d H9 → W cls d σZ H9) ∧ σZ[i]? = some (some (.ref f)) ∧ HZ c' = some (CodeO c' (X.env.qual ++ "<lambda>")) ∧ t E σ HZ Q) := by
  refine ⟨fun pinsZ sZ σZ HZ Q IZ ⟨E, hW, hs, hc, ht⟩ => ?_⟩
  refine wpAny_Call_Name_kw (thn ((pe_var (pos := p1) (i := i) hN hv nd nc).run pinsZ sZ σZ HZ (fun v Ha => v = .ref f ∧ Ha = HZ) IZ ⟨.ref f, hs, rfl, rfl⟩) fun u s1 ⟨v, Ha, I1, r1, ev, eH⟩ => ?_)
  subst ev
  rw [eH] at I1
  obtain rfl : u = Value.ref f := r1
  obtain ⟨⟨o, of1, eo⟩, rc⟩ := lam_run I L hf hfn hfr hbind hbody hr I1.env0 I1.base hc ht
  rw [eo] at of1
  refine PySem.W.callWith_F0 ⟨_, _, _, _, of1⟩ ?_
  refine wpAny_call (codeAny_mono rc fun r s2 hq => ?_)
  cases r with
  | error ev => exact tk ev s2 (XE.of_call I1 hW hq)
  | ok fl =>
    cases fl with
    | next => exact False.elim hq
    | brk => exact False.elim hq
    | cont => exact False.elim hq
    | ret u => exact I1.after hq
/-- the def that got it, and what it makes of its reading -/
def Gives (X : Cx) (Ng : List Str) (x : Str) (sg : Scope) (g : Addr) (cdg : Value) (bg : List Stmt) (a : Str) (q : Str) (TT : (XK → Hp → VK → Prop) → Hp → VK → Prop) : Prop :=
  ∀ (f c' : Addr) (s : Shared) (H : Hp) (Q : VK) (tl : XK → Hp → VK → Prop),
    (∀ (W : WX) (pn : List (Addr × Obj)) (xe : Value → Shared → Prop) (p1 p2 : Pos), Takes ((cxOf C8.CX0 X.prog X.w X.K X.mg X.base Ng x sg g cdg X.A X.stack s H C8.E0).tr pn xe) W →
      PE ((cxOf C8.CX0 X.prog X.w X.K X.mg X.base Ng x sg g cdg X.A X.stack s H C8.E0).tr pn xe) (.Call (.Name a p1) [] [] p2) (fun σZ HZ Q => ∃ E : XK, (∀ cls d H9, E cls d H9 → W cls d σZ H9) ∧ σZ[0]? = some (some (.ref f)) ∧ HZ c' = some (CodeO c' q) ∧ tl E HZ Q)) →
    H c' = some (CodeO c' q) → TT tl H Q →
    ∃ t, PSs (cxOf C8.CX0 X.prog X.w X.K X.mg X.base Ng x sg g cdg X.A X.stack s H C8.E0).nox bg t ∧ t { nx := fun _ H' => Q .non H', rt := Q } (L2.start Ng [.ref f]) H
/-- x(lambda: body) -/
theorem pe_lamW {T : List (Addr × Str)} {TT : (XK → Hp → VK → Prop) → Hp → VK → Prop} {x a : Str} {g c P : Addr} {k : Nat} {pg : Arguments} {bg : List Stmt} {sg : Scope} {fd : FuncData} {kws : List (Str × V)} {Ng : List Str} {params : Arguments} {body : Expr} {scope : Scope} {t : XK → TE} {p lpos pos : Pos}
    (hg : Gl X x) (hm : X.mg x = some (.ref g)) (hk : PySem.W.keepIn X.K (.ref g) = true) (F : FunD X.K x x pg bg sg [] kws g fd) (hb : L2.Binds X.K fd [a] []) (Sg : FnScope Ng [a] sg) (hNg : Ng[0]? = some a) (hva : Vis sg a)
    (hG : ∀ cdv, Gives X Ng x sg g cdv bg a (X.env.qual ++ "<lambda>") TT)
    (TB : TabB X.base X.mg c P) (hcode : X.env.code = .ref c) (hmT : (P, X.env.qual ++ "<lambda>") ∈ T) (hu : ∀ p ∈ T, p.1 = P → p.2 = X.env.qual ++ "<lambda>") (hr : Room (k + 2) X.A) (L : LamS X.env.scope scope) (hdef : defaultsOf params X.env = ([], []))
    (hbind : ∀ (q : Str) (cl : List (Str × Addr)) (pm cv ctv : Value), bindArgs (PySem.W.kla_fn "<lambda>" q params body scope cl pm cv ctv) ⟨[], []⟩ = pure [])
    (hbody : ∀ (A : Around) (outer : List Env) (s : Shared) (H : Hp) (E : XK) (f c' : Addr), Room k (A.deeper (lamEnv X scope s.heap.objs.size f c')) → PE (lamCx X A outer s H E scope f c') body (t E))
    (nx : (x == ("__debug__" : Str)) = false := by decide) (nd : (a == ("__debug__" : Str)) = false := by decide) (nc : (a == ("__classdict__" : Str)) = false := by decide) :
    PE X (.Call (.Name x p) [.Lambda params body scope lpos] [] pos) (tLam T TT t) := by
  obtain ⟨oc, od, dV, kV, doc, pm0, an, cdv, ct, osl, rfl, lk, hcd, _, _⟩ := F.ex
  refine ⟨fun pins s σ H Q I ⟨hT, h⟩ => ?_⟩
  refine wpAny_Call_Name_kw (ld_glob I hg hm ?_ nx)
  refine PySem.W.callWith_K (h₀ := X.base) I.ok.mod.kin hk ?_ (by rfl) (by rfl)
  show wpAny _ _ (spliced ((false, eval (.Lambda params body scope lpos) X.env) :: backTo pos (starEach [] X.env))) _ _ s
  refine Calls.spliced_cons (lam_make2 I TB hcode hmT hu hT hdef (L.has I.ok) fun f c' pm ctv H1 s1 I1 eN T1 hf hfn hfr hco => Calls.spliced_nil ⟨I1.kIn, ?_⟩)
  have rc : codeAny (model X.prog X.w) X.A (.call (.ref g) ⟨[.ref f], []⟩) (CR C8.CX0 X.stack X.prog X.w H1 s1 Q C8.E0) s1 := by
    refine run_ofS (N := Ng) (ps := [a]) (us := [.ref f]) (vs := [.ref f]) lk hcd Sg hr I1.env0 (hb s1 [.ref f] I1.kIn rfl) (.cons rfl .nil) rfl fun hr1 => ?_
    obtain ⟨tz, htz, hqz⟩ := hG cdv f c' s1 H1 Q (fun E H9 Q9 => t E σ H9 Q9) (fun W pn xe p1 p2 tk => pe_actW (i := 0) I1 L hf hfn hfr (hbind _ _ _ _ _) tk hr1 (fun A outer s H E hr2 => hbody A outer s H E f c' hr2) hNg hva nd nc) hco (h H1 eN T1)
    exact ⟨tz, htz.nox, hqz⟩
  refine wpAny_call (codeAny_mono rc fun r s2 hq => ?_)
  cases r with
  | error ev => exact (show False from hq).elim
  | ok fl =>
    cases fl with
    | next => exact False.elim hq
    | brk => exact False.elim hq
    | cont => exact False.elim hq
    | ret u => exact I1.after hq
end
/-! ### last places; what is refused -/
theorem pirk {X : Cx} {K0 : PySem.W.Frag} {tg ex : Expr} {ta : TA} (h : PI X tg ex (iRev X.K ta)) (e : X.K = K0) : PI X tg ex (iRev K0 ta) := e ▸ h
def lastM (l p : List Nat) : List Nat := (reach l.reverse 0 p.reverse).reverse.map fun k => l.length - 1 - k
section
open Evl
variable {P : Program} {w : World} {K : PySem.W.Frag} {mg : Str → Option Value} {base : Heap} {σ : L2.St} {H : Hp}
theorem ew_rev {ta : TA} {a : Addr} {xs : List V} (h : EvA ta σ H [.ref a]) (hx : SqL K H a xs) : EvW (iRev K ta) σ H xs.length (fun i => xs.getD (xs.length - 1 - i) .non) := fun H1 e R k =>
  h H1 e _ fun H2 e2 => ⟨a, xs, rfl, ex_l (e.trans e2) hx, k H2 e2 _ _ _ (walk_rev (K := K) (a := a) (xs := xs)) (fun i H3 v H4 hi ⟨h1, h2⟩ => ⟨h1, by
    show v = xs.getD (xs.length - 1 - i) V.non
    rw [List.getD_eq_getElem?_getD, h2]
    rfl⟩) (fun H3 e3 => ex_l ((e.trans e2).trans e3) hx)⟩
theorem ev_revS {te : TE} {l : List Nat} (h : Ev te σ H (vS l)) (hl : l.length ≤ 100000) : Ev (tRevS te) σ H (vS l.reverse) := fun H1 e Q q => h H1 e _ fun H2 e2 => ⟨l, rfl, hl, q H2 e2⟩
theorem txt_rev {l : List Nat} (h : txtB l = true) : txtB l.reverse = true := List.all_eq_true.mpr fun c hc => List.all_eq_true.mp h c (List.mem_reverse.mp hc)
theorem reach_bd {l : List Nat} : ∀ (p : List Nat) (s : Nat), ∀ k ∈ reach l s p, k < l.length
  | [], _, k, h => by cases h
  | c :: p, s, k, h => by
    cases hn : nxt l s c with
    | none =>
      rw [reach_no hn] at h
      cases h
    | some j =>
      rw [reach_go hn] at h
      rcases List.mem_cons.mp h with e | h
      · rw [e]
        exact (nxt_lt hn).2.1
      · exact reach_bd p (j + 1) k h
def spLast : Sp := fun vs H Q _ => ∃ l p : List Nat, vs = [vS l, vS p] ∧ l.length ≤ 30000 ∧ p.length ≤ 30000 ∧ txtB l = true ∧ txtB p = true ∧ holdsB l p = true ∧ ∀ q H', H q = none → Ex H H' → H' q = some (.lst (natV (lastM l p))) → Q (.ref q) H'
/-- what is no piece is refused -/
def spNoP (C : Addr) : Sp := fun vs H _ E => ∃ l p : List Nat, vs = [vS l, vS p] ∧ l.length ≤ 30000 ∧ p.length ≤ 30000 ∧ txtB l = true ∧ txtB p = true ∧ holdsB l p = false ∧ ∀ H' d, Ex H H' → H' d = none → E (.ref C) (some d) (upd H' d (.xd [("value", vS p)]))
theorem spv_holds {l p : List Nat} (hl : l.length ≤ 30000) (hp : p.length ≤ 30000) (tl : txtB l = true) (tp : txtB p = true) : SpV spHolds [vS l, vS p] H (.bl (holdsB l p)) := fun H1 e Q q E => ⟨l, p, rfl, hl, hp, tl, tp, q⟩
abbrev nm_last_places : List Str := ["text", "piece", "backward", "place"]
theorem sc_last_places : FnScope nm_last_places ["text", "piece"] (defScope s_last_places) := ⟨rfl, rfl, rfl, by decide +kernel, rfl, by decide +kernel, by decide +kernel⟩
theorem b_last_places {K : PySem.W.Frag} {mg : Str → Option Value} (T : Txt K mg) : Binds K T.d_last_places ["text", "piece"] [] := T.F_last_places.bindsN fun _ _ _ _ _ _ us hl => match us, hl with | [_, _], _ => rfl
theorem ok_last_places (T : Txt K mg) : FnOk P w K mg base CX0 4 T.a_last_places T.d_last_places ["text", "piece"] spLast := by
  refine T.F_last_places.ok sc_last_places (fun vs H Q E h => ?_) (fun cdv A outer s H vs Q E hr h => ⟨_, PSs.nox (pss_cons (ps_if (pt_not (pt_val (pe_call (ok_holds T) (hr.mono (by decide)) (by rfl) T.g_holds T.F_holds.kp (b_holds T) .nil pass0 (pa_cons (pv 0) (pa_cons (pv 1) pa_nil))))) (pss_one ps_never) pss_nil)
      (pss_cons (ps_set (i := 2) sc_last_places.nd rfl (by first | exact Or.inl rfl | exact Or.inr rfl) (pe_call (ok_reached_places T) (hr.mono (by decide)) (by rfl) T.g_reached_places T.F_reached_places.kp (b_reached_places T) .nil pass0 (pa_cons (pe_revS (pv 0)) (pa_cons (pe_revS (pv 1)) pa_nil))))
      (pss_one (ps_ret (pe_lc (own := [("place", 3)]) (g := (gName 3)) (tt := tYes)  rfl sc_last_places.nd (pirk (K0 := K) (pi_reversed (by rfl) T.n_reversed (pa_cons (pv 2) pa_nil)) rfl) (blkOk_by (own := [("place", 3)]) (N := nm_last_places) (sc := defScope s_last_places) (by decide +kernel)) (fun _ _ _ _ _ => (pg_name (i := 3) sc_last_places.nd rfl (by first | exact Or.inl rfl | exact Or.inr rfl))) (fun _ _ _ _ _ => pts_nil) (fun _ _ _ _ _ => (pe_op op_sub (pe_op op_sub (pe_callB call_len_t (by rfl) T.n_len (by decide +kernel) (pa_cons (pv 0) pa_nil)) pe_int) (pv 3)))))))), ?_⟩)
  · obtain ⟨l, p, rfl, _⟩ := h
    rfl
  · obtain ⟨l, p, rfl, hl, hp, tl, tp, hh, k⟩ := h
    refine q_when (b := false) (et_is (et_not (et_B (ev_call (ea_cons (ev_var (v := vS l) rfl) (ea_cons (ev_var (v := vS p) rfl) ea_nil)) (spv_holds hl hp tl tp)))) (by rw [hh] <;> rfl)) (fun z => by cases z) (fun _ H1 e1 => ?_)
    refine q_asgL (el_call (vs := [vS l.reverse, vS p.reverse]) (ea_cons (ev_revS (ev_var (v := vS l) rfl) (by omega)) (ea_cons (ev_revS (ev_var (v := vS p) rfl) (by omega)) ea_nil)) (spl_reach (by rw [List.length_reverse]; exact hl) (by rw [List.length_reverse]; exact hp))) fun pb H2 hpb e2 h2 => ?_
    have hbd := reach_bd (l := l.reverse) p.reverse 0
    have hrl := reach_len l.reverse p.reverse 0
    rw [List.length_reverse] at hrl
    have hlm : lastM l p = (reach l.reverse 0 p.reverse).reverse.map fun k => l.length - 1 - k := rfl
    generalize reach l.reverse 0 p.reverse = B at *
    refine s_retL (xs := natV (lastM l p)) ?_ fun q H3 hq e3 h3 => k q H3 (fresh_back (e1.trans e2) hq) (e1.trans (e2.trans e3)) h3
    have hlen : (natV B).length = B.length := natV_len B
    have g := el_lcY (σ := [some (vS l), some (vS p), some (.ref pb), none]) (H := H2) (j := 3) (vs := [3]) (te := tOp (rI0 fun i j => .int (i - j)) (tOp (rI0 fun i j => .int (i - j)) (tCB rLenT (tCons (tVar 0) tNil)) (tC (.int 1))) (tVar 3)) (fun i => .int ((l.length - 1 - B.getD (B.length - 1 - i) 0 : Nat) : Int)) (ew_rev (K := K) (ea_cons (ev_var (i := 2) rfl) ea_nil) (sq_of h2)) (by rw [hlen]; omega) (fun x => rfl) (fun i H8 e8 hi => by
      rw [hlen] at hi ⊢
      have hj : B.length - 1 - i < B.length := by omega
      have ei : (natV B).getD (B.length - 1 - i) V.non = .int ((B.getD (B.length - 1 - i) 0 : Nat) : Int) := by
        unfold natV
        rw [List.getD_eq_getElem?_getD, List.getElem?_map, List.getD_eq_getElem?_getD, List.getElem?_eq_getElem hj]
        rfl
      rw [ei]
      have hb := hbd (B.getD (B.length - 1 - i) 0) (by
        rw [List.getD_eq_getElem?_getD, List.getElem?_eq_getElem hj]
        exact List.getElem_mem hj)
      rw [List.length_reverse] at hb
      refine ev_is (ev_op (ev_op (ev_cb (ea_cons (ev_var (v := vS l) rfl) ea_nil) (rc_lenS hl)) (ev_c (v := V.int 1)) (rv_I0 (g := fun i j => .int (i - j)))) (ev_var rfl) (rv_I0 (g := fun i j => .int (i - j)))) ?_
      show V.int _ = V.int _
      congr 1
      omega)
    refine el_is g ?_
    rw [hlen, hlm]
    unfold natV
    apply List.ext_getElem
    · simp
    · intro i h1' h2'
      simp only [List.length_map, List.length_range] at h1'
      simp only [List.getElem_map, List.getElem_range, List.getElem_reverse]
      rw [List.getD_eq_getElem?_getD, List.getElem?_eq_getElem (by omega)]
      rfl
theorem okX_first_places (T : Txt K mg) : FnOk P w K mg base (L2.CX P w) 4 T.a_first_places T.d_first_places ["text", "piece"] (spNoP T.C_NoPiece) := by
  refine T.F_first_places.ok sc_first_places (fun vs H Q E h => ?_) (fun cdv A outer s H vs Q E hr h => ⟨_, (pss_cons (ps_if (pt_not (pt_val (pe_call (ok_holds T) (hr.mono (by decide)) (by rfl) T.g_holds T.F_holds.kp (b_holds T) .nil pass0 (pa_cons (pv 0) (pa_cons (pv 1) pa_nil))))) (pss_one (ps_raise rfl (takes_of rfl rfl rfl rfl) (pmk_oex T.E_NoPiece.ox T.E_NoPiece.iC T.E_NoPiece.tI (ok_init_NoPiece T) (hr.mono (by decide)) (b_init_NoPiece T) .nil pass0 (by rfl) T.m_NoPiece (pa_cons (pv 1) pa_nil)))) pss_nil)
      (pss_one (ps_ret (pe_call (ok_reached_places T) (hr.mono (by decide)) (by rfl) T.g_reached_places T.F_reached_places.kp (b_reached_places T) .nil pass0 (pa_cons (pv 0) (pa_cons (pv 1) pa_nil)))))), ?_⟩)
  · obtain ⟨l, p, rfl, _⟩ := h
    rfl
  · obtain ⟨l, p, rfl, hl, hp, tl, tp, hh, k⟩ := h
    refine q_when (b := true) (et_is (et_not (et_B (ev_call (ea_cons (ev_var (v := vS l) rfl) (ea_cons (ev_var (v := vS p) rfl) ea_nil)) (spv_holds hl hp tl tp)))) (by rw [hh] <;> rfl)) (fun _ H1 e1 => ?_) (fun z => by cases z)
    exact mk_err T.E_NoPiece (ev_var (v := vS p) rfl) fun H2 e2 d hd => k H2 d (e1.trans e2) hd
theorem okX_last_places (T : Txt K mg) : FnOk P w K mg base (L2.CX P w) 4 T.a_last_places T.d_last_places ["text", "piece"] (spNoP T.C_NoPiece) := by
  refine T.F_last_places.ok sc_last_places (fun vs H Q E h => ?_) (fun cdv A outer s H vs Q E hr h => ⟨_, (pss_cons (ps_if (pt_not (pt_val (pe_call (ok_holds T) (hr.mono (by decide)) (by rfl) T.g_holds T.F_holds.kp (b_holds T) .nil pass0 (pa_cons (pv 0) (pa_cons (pv 1) pa_nil))))) (pss_one (ps_raise rfl (takes_of rfl rfl rfl rfl) (pmk_oex T.E_NoPiece.ox T.E_NoPiece.iC T.E_NoPiece.tI (ok_init_NoPiece T) (hr.mono (by decide)) (b_init_NoPiece T) .nil pass0 (by rfl) T.m_NoPiece (pa_cons (pv 1) pa_nil)))) pss_nil)
      (pss_cons (ps_set (i := 2) sc_last_places.nd rfl (by first | exact Or.inl rfl | exact Or.inr rfl) (pe_call (ok_reached_places T) (hr.mono (by decide)) (by rfl) T.g_reached_places T.F_reached_places.kp (b_reached_places T) .nil pass0 (pa_cons (pe_revS (pv 0)) (pa_cons (pe_revS (pv 1)) pa_nil))))
      (PSs.nox (pss_one (ps_ret (pe_lc (own := [("place", 3)]) (g := (gName 3)) (tt := tYes)  rfl sc_last_places.nd (pirk (K0 := K) (pi_reversed (by rfl) T.n_reversed (pa_cons (pv 2) pa_nil)) rfl) (blkOk_by (own := [("place", 3)]) (N := nm_last_places) (sc := defScope s_last_places) (by decide +kernel)) (fun _ _ _ _ _ => (pg_name (i := 3) sc_last_places.nd rfl (by first | exact Or.inl rfl | exact Or.inr rfl))) (fun _ _ _ _ _ => pts_nil) (fun _ _ _ _ _ => (pe_op op_sub (pe_op op_sub (pe_callB call_len_t (by rfl) T.n_len (by decide +kernel) (pa_cons (pv 0) pa_nil)) pe_int) (pv 3))))))))), ?_⟩)
  · obtain ⟨l, p, rfl, _⟩ := h
    rfl
  · obtain ⟨l, p, rfl, hl, hp, tl, tp, hh, k⟩ := h
    refine q_when (b := true) (et_is (et_not (et_B (ev_call (ea_cons (ev_var (v := vS l) rfl) (ea_cons (ev_var (v := vS p) rfl) ea_nil)) (spv_holds hl hp tl tp)))) (by rw [hh] <;> rfl)) (fun _ H1 e1 => ?_) (fun z => by cases z)
    exact mk_err T.E_NoPiece (ev_var (v := vS p) rfl) fun H2 e2 d hd => k H2 d (e1.trans e2) hd
end
/-! ### what the law tells of a refusal -/
section
open Evl LamX
/-- found = [] / try: call() / except C as e: found = [e.value] / return found -/
def TTref (C : Addr) : (XK → Hp → VK → Prop) → Hp → VK → Prop := fun tl H Q => ∀ p, H p = none →
  tl (fun kl d H9 => ∃ (dd : Addr) (v : V), kl = .ref C ∧ d = some dd ∧ H9 dd = some (.xd [("value", v)]) ∧ ∀ p2, H9 p2 = none → Q (.ref p2) (upd H9 p2 (.lst [v]))) (upd H p (.lst [])) (fun _ H9 => ∃ u, (some (some (V.ref p)) : Option (Option V)) = some (some u) ∧ Q u H9)
abbrev TTf_law_refused {K : PySem.W.Frag} {mg : Str → Option Value} (T : Txt K mg) : (XK → Hp → VK → Prop) → Hp → VK → Prop := TTref T.C_NoPiece
abbrev nm__law_refused : List Str := ["call", "found", "e"]
theorem sc__law_refused : FnScope nm__law_refused ["call"] (defScope s__law_refused) := ⟨rfl, rfl, rfl, by decide +kernel, rfl, by decide +kernel, by decide +kernel⟩
theorem b__law_refused {K : PySem.W.Frag} {mg : Str → Option Value} (T : Txt K mg) : Binds K T.d__law_refused ["call"] [] := T.F__law_refused.bindsN fun _ _ _ _ _ _ us hl => match us, hl with | [_], _ => rfl
theorem gives_refused {X : Cx} {K : PySem.W.Frag} {mg : Str → Option Value} (T : Txt K mg) (eK : X.K = K) (em : X.mg = mg) (cdv : Value) (q : Str) : Gives X nm__law_refused "_law_refused" (defScope s__law_refused) T.a__law_refused cdv (defBody s__law_refused) "call" q (TTf_law_refused T) := by
  subst eK em
  intro f c' s H Q tl act hc h
  refine ⟨_, pss_cons (ps_set (i := 1) sc__law_refused.nd rfl (by first | exact Or.inl rfl | exact Or.inr rfl) (pe_lst pa_nil))
    (pss_cons (ps_try_names (X := (cxOf C8.CX0 X.prog X.w X.K X.mg X.base nm__law_refused "_law_refused" (defScope s__law_refused) T.a__law_refused cdv X.A X.stack s H C8.E0).nox)
      (tb := fun W D σ H => ∃ Ech : XK, (∀ cls d H9, Ech cls d H9 → W cls d σ H9) ∧ σ[0]? = some (some (.ref f)) ∧ H c' = some (CodeO c' q) ∧ tl Ech H (fun _ H9 => D.nx σ H9))
      rfl rfl sc__law_refused.nd takes_none5 (fun W pn xe tk _ => ?_) (HdsN.cons (c := .ref T.C_NoPiece) (i := 2) ⟨by rfl, by decide, .inl T.m_NoPiece⟩ rfl rfl (fun a oe cls d pn hz hf => pss_one (ps_set (i := 1) sc__law_refused.nd rfl (by first | exact Or.inl rfl | exact Or.inr rfl) (pe_lst (pa_cons (pe_errV hz hf (pe_var (i := 2) rfl (by first | exact Or.inl rfl | exact Or.inr rfl))) pa_nil)))) HdsN.nil))
    (pss_one (ps_ret (pe_var (i := 1) rfl (by first | exact Or.inl rfl | exact Or.inr rfl))))), ?_⟩
  · refine ⟨fun pins s' σ H' D I h' => ?_⟩
    obtain ⟨Ech, hW, h1, h2, h3⟩ := h'
    exact (pss_one (ps_expr (act W pn xe _ _ tk))).run pins s' σ H' D I ⟨Ech, hW, h1, h2, h3⟩
  · refine ⟨by show 0 ≤ sizeLine; exact Nat.zero_le _, fun p hp => ?_⟩
    refine ⟨_, fun kl d H9 hh => ?_, rfl, ?_, h p hp⟩
    · obtain ⟨dd, v, rfl, rfl, hx, hk⟩ := hh
      refine ⟨true, T.x_NoPiece_NoPiece, fun _ a ha => ?_, fun z => by cases z⟩
      exact ⟨_, rfl, rfl, T.C_NoPiece, T.fI_NoPiece, dd, _, v, rfl, T.E_NoPiece, rfl, hx, rfl, by show 1 ≤ sizeLine; decide, fun p2 hp2 => ⟨_, rfl, hk p2 hp2⟩⟩
    · have hne : c' ≠ p := fun z => by
        rw [z, hp] at hc
        cases hc
      rw [upd_ne hne]
      exact hc
end
/-! ### the law's own first places -/
def fir : Nat → List Nat → List Nat → List Nat
  | _, [], _ => []
  | _, _ :: _, [] => []
  | o, c :: r, d :: q => if d = c then o :: fir (o + 1) r q else fir (o + 1) r (d :: q)
theorem fir_nil (o : Nat) (m : List Nat) : fir o m [] = [] := by
  cases m <;> rfl
theorem reach_same {l : List Nat} {s s2 c : Nat} {p : List Nat} (h : nxt l s c = nxt l s2 c) : reach l s (c :: p) = reach l s2 (c :: p) := by
  cases hn : nxt l s2 c with
  | none => rw [reach_no (h.trans hn), reach_no hn]
  | some k => rw [reach_go (h.trans hn), reach_go hn]
theorem fir_reach (l : List Nat) : ∀ (j s : Nat) (p : List Nat), s + j = l.length → fir s (l.drop s) p = reach l s p
  | 0, s, p, h => by
    rw [List.drop_of_length_le (by omega)]
    cases p with
    | nil => rfl
    | cons d q =>
      rw [reach_no (nxt_end (by omega))]
      rfl
  | j + 1, s, p, h => by
    have hs : s < l.length := by omega
    rw [drop_at hs]
    cases p with
    | nil => rfl
    | cons d q =>
      show (if d = l.getD s 0 then s :: fir (s + 1) (l.drop (s + 1)) q else fir (s + 1) (l.drop (s + 1)) (d :: q)) = _
      have hn := nxt_step (c := d) hs
      by_cases hc : d = l.getD s 0
      · rw [if_pos hc, fir_reach l j (s + 1) q (by omega)]
        rw [if_pos hc.symm] at hn
        rw [reach_go hn]
      · rw [if_neg hc, fir_reach l j (s + 1) (d :: q) (by omega)]
        rw [if_neg (fun e => hc e.symm)] at hn
        exact (reach_same hn).symm
def stF (l p acc : List Nat) (i : Nat) : List Nat := if acc.length < p.length ∧ p.getD acc.length 0 = l.getD i 0 then acc ++ [i] else acc
def foundAt (l p : List Nat) : Nat → List Nat
  | 0 => []
  | i + 1 => stF l p (foundAt l p i) i
theorem found_fir (l p : List Nat) : ∀ (j i : Nat), i + j = l.length → (foundAt l p i).length ≤ p.length → foundAt l p l.length = foundAt l p i ++ fir i (l.drop i) (p.drop (foundAt l p i).length)
  | 0, i, h, hl => by
    have e : i = l.length := by omega
    rw [e, List.drop_length]
    show _ = _ ++ []
    rw [List.append_nil]
  | j + 1, i, h, hl => by
    have hi : i < l.length := by omega
    have es : foundAt l p (i + 1) = stF l p (foundAt l p i) i := rfl
    rw [drop_at hi]
    by_cases hc : (foundAt l p i).length < p.length
    · rw [drop_at hc]
      by_cases hd : p.getD (foundAt l p i).length 0 = l.getD i 0
      · have e2 : foundAt l p (i + 1) = foundAt l p i ++ [i] := es.trans (if_pos ⟨hc, hd⟩)
        have ih := found_fir l p j (i + 1) (by omega) (by
          rw [e2, List.length_append]
          exact hc)
        rw [ih, e2, List.length_append, List.append_assoc]
        congr 1
        show [i] ++ fir (i + 1) (l.drop (i + 1)) (p.drop ((foundAt l p i).length + 1)) = (if p.getD (foundAt l p i).length 0 = l.getD i 0 then i :: fir (i + 1) (l.drop (i + 1)) (p.drop ((foundAt l p i).length + 1)) else _)
        rw [if_pos hd]
        rfl
      · have e2 : foundAt l p (i + 1) = foundAt l p i := es.trans (if_neg fun z => hd z.2)
        have ih := found_fir l p j (i + 1) (by omega) (by rw [e2]; exact hl)
        rw [ih, e2]
        congr 1
        show _ = (if p.getD (foundAt l p i).length 0 = l.getD i 0 then _ else fir (i + 1) (l.drop (i + 1)) (p.getD (foundAt l p i).length 0 :: p.drop ((foundAt l p i).length + 1)))
        rw [if_neg hd, drop_at hc]
    · have e2 : foundAt l p (i + 1) = foundAt l p i := es.trans (if_neg fun z => hc z.1)
      have ih := found_fir l p j (i + 1) (by omega) (by rw [e2]; exact hl)
      have ed : p.drop (foundAt l p i).length = [] := List.drop_of_length_le (by omega)
      rw [ih, e2, ed, fir_nil, fir_nil]
theorem found_len (l p : List Nat) : ∀ i, (foundAt l p i).length ≤ p.length
  | 0 => Nat.zero_le _
  | i + 1 => by
    have ih := found_len l p i
    show (stF l p (foundAt l p i) i).length ≤ p.length
    unfold stF
    split
    · rename_i h
      rw [List.length_append]
      exact h.1
    · exact ih
theorem found_reach (l p : List Nat) : foundAt l p l.length = reach l 0 p := by
  have h := found_fir l p l.length 0 (by omega) (Nat.zero_le _)
  rw [h]
  exact fir_reach l l.length 0 p (by omega)
section
open Evl
variable {P : Program} {w : World} {K : PySem.W.Frag} {mg : Str → Option Value} {base : Heap}
def spLFirst : Sp := fun vs H Q _ => ∃ l p : List Nat, vs = [vS l, vS p] ∧ l.length ≤ 1000 ∧ p.length ≤ 1000 ∧ ∀ q H', H q = none → Ex H H' → H' q = some (.lst (natV (reach l 0 p))) → Q (.ref q) H'
abbrev nm__law_first : List Str := ["text_here", "piece_here", "found", "place", "letter"]
theorem sc__law_first : FnScope nm__law_first ["text_here", "piece_here"] (defScope s__law_first) := ⟨rfl, rfl, rfl, by decide +kernel, rfl, by decide +kernel, by decide +kernel⟩
theorem b__law_first {K : PySem.W.Frag} {mg : Str → Option Value} (T : Txt K mg) : Binds K T.d__law_first ["text_here", "piece_here"] [] := T.F__law_first.bindsN fun _ _ _ _ _ _ us hl => match us, hl with | [_, _], _ => rfl
theorem ok__law_first (T : Txt K mg) : FnOk P w K mg base CX0 1 T.a__law_first T.d__law_first ["text_here", "piece_here"] spLFirst := by
  refine T.F__law_first.ok sc__law_first (fun vs H Q E h => ?_) (fun cdv A outer s H vs Q E hr h => ⟨_, PSs.nox (pss_cons (ps_set (i := 2) sc__law_first.nd rfl (by first | exact Or.inl rfl | exact Or.inr rfl) (pe_lst pa_nil))
      (pss_cons (ps_for PassesOwn.never rfl (pi_enumS (by rfl) T.n_enumerate (pa_cons (pv 0) pa_nil)) (pg_tup (by rfl) (pgs_cons (pg_name (i := 3) sc__law_first.nd rfl (by first | exact Or.inl rfl | exact Or.inr rfl)) (pgs_cons (pg_name (i := 4) sc__law_first.nd rfl (by first | exact Or.inl rfl | exact Or.inr rfl)) pgs_nil)))
      (pss_one (ps_if (PW.pt (pw_and (pt_cmpR op_lt (pe_callB (callk (K0 := K) rLenQ call_len_q rfl) (by rfl) T.n_len (by decide +kernel) (pa_cons (pv 2) pa_nil)) (pe_callB call_len_t (by rfl) T.n_len (by decide +kernel) (pa_cons (pv 1) pa_nil)) (nomark _)) (pw_and1 (pt_cmpR op_eq (pe_ix ix_str (pv 1) (pe_callB (callk (K0 := K) rLenQ call_len_q rfl) (by rfl) T.n_len (by decide +kernel) (pa_cons (pv 2) pa_nil)) (fun _ _ => rfl)) (pv 4) (nomark _))))) (pss_one (ps_expr (tbmk (K0 := K) (pe_bm PySem.F.plainAttrs_list PySem.F.slot_list_append PySem.F.type_list_append mt_append (pv 2) (pa_cons (pv 3) pa_nil)) rfl))) pss_nil)))
      (pss_one (ps_ret (pv 2))))), ?_⟩)
  · obtain ⟨l, p, rfl, _⟩ := h
    rfl
  · obtain ⟨l, p, rfl, hl, hp, k⟩ := h
    refine q_asgL (el_lst ea_nil (by decide)) fun pf H1 hpf e1 h1 => ?_
    refine q_forES (K := K) (z := mkS l) (ea_cons (ev_var rfl) ea_nil) (fun i σ H' => ∃ (x3 x4 : Option V), σ = [some (vS l), some (vS p), some (.ref pf), x3, x4] ∧ Ex H H' ∧ H' pf = some (.lst (natV (foundAt l p i))))
      (fun H2 e2 => ⟨_, _, rfl, e1.trans e2, e2 _ _ h1⟩) ?_ ?_
    · rintro i σ' H' H2 hi ⟨x3, x4, rfl, ex, hF⟩ e2
      rw [mkS_size] at hi
      rw [mkS_getD]
      have hF2 := e2 _ _ hF
      have fl := found_len l p i
      have es : foundAt l p (i + 1) = stF l p (foundAt l p i) i := rfl
      rw [es]
      generalize foundAt l p i = F at *
      have hzp : (mkS p).length ≤ sizeLine := by
        rw [mkS_len]
        exact sz_of (by omega)
      refine ⟨_, rfl, pf, _, rfl, .inl (sq_of hF2), _, rfl, _, rfl, hzp, _, _, rfl, rfl, _, rfl, ?_⟩
      rw [natV_len, mkS_len]
      refine ite2 (fun c => ?_) (fun c => ?_)
      · have c2 : F.length < p.length := by
          have := of_decide_eq_true c
          omega
        refine ⟨_, rfl, _, rfl, pf, _, rfl, .inl (sq_of hF2), mkS p, _, p.getD F.length 0, rfl, rfl, hzp, ?_, _, rfl, rfl, _, rfl, ?_⟩
        · rw [natV_len]
          exact atI_ch c2
        · have eq9 : decide (V.str ⟨#[p.getD F.length 0]⟩ = V.str ⟨#[l.getD i 0]⟩) = decide (p.getD F.length 0 = l.getD i 0) := vS_ceq _ _
          refine ite2 (fun c9 => ?_) (fun c9 => ?_)
          · have c3 : p.getD F.length 0 = l.getD i 0 := of_decide_eq_true (eq9.symm.trans c9)
            have e9 : stF l p F i = F ++ [i] := if_pos ⟨c2, c3⟩
            refine ⟨_, rfl, .inl ⟨rfl, _, sq_of hF2⟩, _, rfl, pf, _, _, rfl, rfl, hF2, ?_, ?_⟩
            · rw [natV_len]
              exact sz_lt (by omega)
            · rw [e9]
              refine ⟨_, _, rfl, Ex.mut (ex.trans e2) hpf, ?_⟩
              rw [upd_same]
              unfold natV
              rw [List.map_append]
              rfl
          · have c3 : ¬ p.getD F.length 0 = l.getD i 0 := fun z => c9 (eq9.trans (decide_eq_true z))
            have e9 : stF l p F i = F := if_neg fun z => c3 z.2
            rw [e9]
            exact ⟨_, _, rfl, ex.trans e2, hF2⟩
      · have c2 : ¬ F.length < p.length := fun z => c (decide_eq_true (by omega))
        have e9 : stF l p F i = F := if_neg fun z => c2 z.1
        rw [e9]
        exact ⟨_, _, rfl, ex.trans e2, hF2⟩
    · rintro σ' H' ⟨x3, x4, rfl, ex, hF⟩
      rw [mkS_size, found_reach] at hF
      exact ⟨_, rfl, k pf H' hpf ex hF⟩
end
section
open LamX
/-- a law's call, with tables of code objects, its def shown to keep its promise where nothing keeps watch -/
theorem law_atT {P : Program} {w : World} {K : PySem.W.Frag} {mg mb : Str → Option Value} {CX : CXT} {k : Nat} {fa a : Addr} {tbs : List (Addr × Addr)} {fd : FuncData} {x : Str} {sp : Sp} {sB : Shared} {us9 : List Value} {ns : List Int}
    (inK : K.In sB.heap) (nsG : sB.heap.Ns mainGlobals mg) (hbG : sB.heap.Ns builtinsNs mb) (hbb : ∀ x : Str, x ≠ "__name__" → mb x = bootBuiltins x) (hlim : sB.heap.NoLimit) (hg : sB.gens = #[])
    (emT : ∀ pp ∈ tbs, sB.heap.get? pp.2 = some { cls := .none, data := .fields #[] }) (nT : ∀ pp ∈ tbs, K.lookup pp.2 = none) (C : ∀ pp ∈ tbs, PySem.W.CodeHd sB.heap pp.1 pp.2)
    (hbm : ∃ (bm : Addr) (ob : Obj), mg "__builtins__" = some (.ref bm) ∧ bm ≠ builtinsNs ∧ sB.heap.get? bm = some ob ∧ ob.cls = .type "module" ∧ ob.dict = some builtinsNs ∧ ob.data = .plain)
    (ha : sB.heap.get? a = some { cls := .type "list", data := .seq us9.toArray }) (hi : IntsAre us9 ns) (hl : ns.length ≤ sizeLine) (hr : Room k callerA)
    (F : ∀ base : Heap, K.In base → base.Ns mainGlobals mg → (∀ pp ∈ tbs, TabB base mg pp.1 pp.2) → FnOkG P w K mg base CX k fa fd [x] sp) (hbind : ∀ (s : Shared) (uu : Value), BindsTo s fd ⟨[uu], []⟩ [(x, uu)])
    (hsp : ∀ Hh : Hp, (∀ pp ∈ tbs, Hh pp.2 = some (.tbl #[])) → SqL K Hh a (ns.map V.int) → sp [.ref a] Hh (fun v _ => v = .bl true) fun _ _ _ => False)
    (hCX : ∀ Hh ee s', CX [] Hh sB (fun _ _ _ => False) ee s' → False) :
    codeAny (model P w) callerA (.call (.ref fa) ⟨[.ref a], []⟩) (fun r s' => r = .ok (.ret (.bool true)) ∧ OldK sB.heap s'.heap ∧ s'.os = sB.os ∧ AllBare s'.gens) sB := by
  have rel9 := vals_ints hi
  have lenV := hi.length
  have isT : ∀ bb : Addr, bb ∈ tbs.map (·.2) → sB.heap.get? bb = some { cls := .none, data := .fields #[] } := fun bb hbG => by
    obtain ⟨pp, hp, ee⟩ := List.mem_map.mp hbG
    rw [← ee]
    exact emT pp hp
  have aT : a ∉ tbs.map (·.2) := fun zz => by
    have qq := isT a zz
    rw [ha] at qq
    have z' : Data.seq us9.toArray _ = Data.fields #[] := congrArg Obj.data (Option.some.inj qq)
    cases z'
  have memT : ∀ pp ∈ tbs, pp.2 ∈ tbs.map (·.2) := fun pp hp => List.mem_map.mpr ⟨pp, hp, rfl⟩
  -- from an abstract heap in which nothing but the script and the tables may be tracked
  have main9 : ∀ Hh : Hp, (∀ pp ∈ tbs, Hh pp.2 = some (.tbl #[])) → (∀ bb, Hh bb = none ∨ bb ∈ tbs.map (·.2) ∨ ∃ oo xs, Hh bb = some (.frz oo (.lst xs))) → SqL K Hh a (ns.map V.int) → HOk P w Hh sB.heap → (∀ bb, Hh bb ≠ none → bb = a ∨ bb ∈ tbs.map (·.2)) → (Hh a ≠ none → K.lookup a = none) →
      codeAny (model P w) callerA (.call (.ref fa) ⟨[.ref a], []⟩) (fun r s' => r = .ok (.ret (.bool true)) ∧ OldK sB.heap s'.heap ∧ s'.os = sB.os ∧ AllBare s'.gens) sB := by
    intro Hh hH hO hS okH hA hK
    have lowT : ∀ {bb : Addr} {oo : Obj}, sB.heap.get? bb = some oo → Hh bb = none → (hidT sB.heap Hh).get? bb = some oo := fun ee nn => hidT_get ee nn
    have offD : ∀ {bb : Addr} {oo : Obj}, sB.heap.get? bb = some oo → (∀ us9 nn, oo.data ≠ .seq us9 nn) → oo.data ≠ .fields #[] → Hh bb = none := fun {bb oo} ee h1 h2 => by
      cases qq : Hh bb with
      | none => rfl
      | some uu =>
        rcases hA bb (by rw [qq]; simp) with e' | e'
        · rw [e', ha] at ee
          cases ee
          exact (h1 _ _ rfl).elim
        · rw [isT bb e'] at ee
          cases ee
          exact (h2 rfl).elim
    have noA : ∀ {bb : Addr} {oo : Obj} {es : Array DictEntry} {ep : Nat}, sB.heap.get? bb = some oo → oo.data = .dict es ep → Hh bb = none := fun {bb oo es ep} ee dd => by
      refine offD ee (fun us9 nn zz => ?_) fun zz => ?_
      · rw [dd] at zz
        cases zz
      · rw [dd] at zz
        cases zz
    have nsK : ∀ {bb : Addr} {m : Str → Option Value}, sB.heap.Ns bb m → (hidT sB.heap Hh).Ns bb m := fun {bb m} ⟨oo, es, ep, ee, dd, r⟩ => ⟨oo, es, ep, lowT ee (noA ee dd), dd, r⟩
    have hKb : K.In (hidT sB.heap Hh) := fun bb oo ee => lowT (inK bb oo ee) (by
      cases qq : Hh bb with
      | none => rfl
      | some uu =>
        rcases hA bb (by rw [qq]; simp) with e' | e'
        · rw [e'] at ee qq
          rw [hK (by rw [qq]; simp)] at ee
          cases ee
        · obtain ⟨pp, hp, ep⟩ := List.mem_map.mp e'
          rw [← ep, nT pp hp] at ee
          cases ee)
    have hM : L2.Mod K mg (hidT sB.heap Hh) := ⟨hKb, nsK nsG, ⟨mb, nsK hbG, hbb⟩, let ⟨mc, h1, h2⟩ := hlim; ⟨mc, nsK h1, h2⟩⟩
    have TB : ∀ pp ∈ tbs, TabB (hidT sB.heap Hh) mg pp.1 pp.2 := fun pp hp => by
      have hTp := emT pp hp
      refine ⟨?_, ?_, fun zz => ?_⟩
      · obtain ⟨oo, us, file, tf, flags, tg, inF, text, tt, e1, r1, r2, r3, r4, r5, r6, r7, r8, hne⟩ := C pp hp
        refine ⟨oo, us, file, tf, flags, tg, inF, text, tt, lowT e1 (offD e1 (fun us9 nn zz => ?_) fun zz => ?_), r1, r2, r3, r4, r5, r6, r7, r8, hne⟩
        · rw [r2] at zz
          cases zz
        · rw [r2] at zz
          cases zz
          simp at r3
      · obtain ⟨bm, ob, b1, b2, b3, b4, b5, b6⟩ := hbm
        have nG : bm ≠ mainGlobals := fun qq => by
          obtain ⟨oo, es, ep, ee, hd, _⟩ := nsG
          rw [qq, ee] at b3
          cases b3
          rw [hd] at b6
          cases b6
        have nP : bm ≠ pp.2 := fun qq => by
          rw [qq, hTp] at b3
          cases b3
          cases b6
        refine ⟨bm, ob, b1, b2, nG, nP, lowT b3 (offD b3 (fun us9 nn zz => ?_) fun zz => ?_), b4, b5, b6⟩
        · rw [b6] at zz
          cases zz
        · rw [b6] at zz
          cases zz
      · obtain ⟨oo, es, ep, ee, hd, _⟩ := nsG
        rw [zz, hTp] at ee
        cases ee
        cases hd
    have e0 : Env0 P w K mg (hidT sB.heap Hh) callerA [] sB Hh := ⟨rfl, hM, fun bb oo ee => of_hidT ee, Nat.le_of_eq (hidT_size _ _), trivial, fun bb hbG => absurd (show bb ∈ ([] : List Addr) from hbG) (by simp), okH, .of_eq hg⟩
    refine codeAny_mono ((F _ hKb (nsK nsG) TB).goes callerA [] sB Hh ⟨[.ref a], []⟩ [.ref a] [.ref a] _ _ hr rfl e0 (hbind sB (.ref a)) (.cons rfl .nil) (hsp Hh hH hS)) fun r s' h => ?_
    cases r with
    | error ee => exact (hCX Hh ee s' h).elim
    | ok fl =>
      cases fl with
      | next => exact False.elim h
      | brk => exact False.elim h
      | cont => exact False.elim h
      | ret uu =>
        obtain ⟨v, H', os, bare, un, hok', r', qq⟩ := h
        have q' : v = .bl true := qq
        subst q'
        obtain rfl : uu = Value.bool true := r'
        have key : ∀ bb oo, bb ∉ tbs.map (·.2) → sB.heap.get? bb = some oo → s'.heap.get? bb = some oo := fun bb oo nb ee => by
          cases qq : Hh bb with
          | none => exact un.keep bb oo ee qq (by intro zz; exact absurd (show bb ∈ ([] : List Addr) from zz) (by simp)) (by simp)
          | some uu =>
            rcases hO bb with zz | zz | ⟨ob, xs, zz⟩
            · rw [qq] at zz; cases zz
            · exact absurd zz nb
            · have z2 := un.frzs bb ob _ zz
              obtain ⟨e1, _⟩ := okH bb _ zz
              obtain ⟨e2, _⟩ := hok' bb _ z2
              rw [ee] at e1; cases e1
              exact e2
        have grown : ∀ pp ∈ tbs, ∃ more : Array Value, s'.heap.get? pp.2 = some { cls := .none, data := .fields more } := fun pp hp => by
          obtain ⟨more, zz⟩ := un.tbls pp.2 #[] (hH pp hp)
          exact ⟨_, hok' pp.2 _ zz⟩
        refine ⟨rfl, ⟨fun bb oo ee => ?_, fun bb oo ee => ?_⟩, os, bare⟩
        · by_cases hbG : bb ∈ tbs.map (·.2)
          · obtain ⟨pp, hp, ep⟩ := List.mem_map.mp hbG
            obtain ⟨more, hm⟩ := grown pp hp
            rw [← ep] at ee ⊢
            rw [emT pp hp] at ee
            cases ee
            exact .inr (.inl ⟨((C pp hp).tab (emT pp hp)).isCodeTable, rfl, #[], more, rfl, by rw [Array.empty_append]; exact hm⟩)
          · exact .inl (key bb oo hbG ee)
        · by_cases hbG : bb ∈ tbs.map (·.2)
          · obtain ⟨pp, hp, ep⟩ := List.mem_map.mp hbG
            obtain ⟨more, hm⟩ := grown pp hp
            rw [← ep]
            exact ⟨_, hm⟩
          · exact ⟨oo, key bb oo hbG ee⟩
  cases hk : K.lookup a with
  | some oo =>
    have ee := inK a oo hk
    rw [ha] at ee
    cases ee
    refine main9 (fun bb => if bb ∈ tbs.map (·.2) then some (.tbl #[]) else none) (fun pp hp => if_pos (memT pp hp)) (fun bb => ?_) (.inr ⟨_, us9.toArray, _, hk, rfl, rfl, rfl, by rw [List.size_toArray, lenV]; exact hl, by simpa using rel9⟩) (fun bb uu zz => ?_) (fun bb zz => ?_) fun zz => absurd (show (if a ∈ tbs.map (·.2) then some (HO.tbl #[]) else none) = none from if_neg aT) zz
    · by_cases hbG : bb ∈ tbs.map (·.2)
      · exact .inr (.inl hbG)
      · exact .inl (if_neg hbG)
    · by_cases hbG : bb ∈ tbs.map (·.2)
      · have z' := (if_pos hbG).symm.trans zz
        cases z'
        exact isT bb hbG
      · have z' := (if_neg hbG).symm.trans zz
        cases z'
    · by_cases hbG : bb ∈ tbs.map (·.2)
      · exact .inr hbG
      · exact absurd (if_neg hbG) zz
  | none =>
    refine main9 (fun bb => if bb = a then some (.frz { cls := .type "list", data := .seq us9.toArray } (.lst (ns.map V.int))) else if bb ∈ tbs.map (·.2) then some (.tbl #[]) else none) (fun pp hp => (if_neg (show ¬ pp.2 = a from fun zz => aT (by rw [← zz]; exact memT pp hp))).trans (if_pos (memT pp hp))) (fun bb => ?_)
      (.inl (.inr ⟨{ cls := .type "list", data := .seq us9.toArray }, if_pos rfl⟩)) (fun bb uu zz => ?_) (fun bb zz => ?_) fun _ => hk
    · by_cases hbG : bb = a
      · exact .inr (.inr ⟨_, _, if_pos hbG⟩)
      · by_cases hb2 : bb ∈ tbs.map (·.2)
        · exact .inr (.inl hb2)
        · exact .inl ((if_neg hbG).trans (if_neg hb2))
    · by_cases hbG : bb = a
      · have z' := (if_pos hbG).symm.trans zz
        cases z'
        rw [hbG]
        exact ⟨ha, by rw [List.length_map]; exact hl, us9, _, rel9, ha⟩
      · have z1 := (if_neg hbG).symm.trans zz
        by_cases hb2 : bb ∈ tbs.map (·.2)
        · have z' := (if_pos hb2).symm.trans z1
          cases z'
          exact isT bb hb2
        · have z' := (if_neg hb2).symm.trans z1
          cases z'
    · by_cases hbG : bb = a
      · exact .inl hbG
      · by_cases hb2 : bb ∈ tbs.map (·.2)
        · exact .inr hb2
        · exact absurd ((if_neg hbG).trans (if_neg hb2)) zz
def LawAtG (l : PySem.W.OpenLaw) (w : World) (K : PySem.W.Frag) (CX : CXT) (k n : Nat) (x : Str) (mg : Str → Option Value) (fa : Addr) (h : Heap) : Prop :=
  ∃ (fd : FuncData) (tbs : List (Addr × Addr)) (sp : Sp), (∀ t ∈ tbs, h.get? t.2 = some { cls := .none, data := .fields #[] }) ∧ (∀ t ∈ tbs, K.lookup t.2 = none) ∧ (∀ t ∈ tbs, PySem.W.CodeHd h t.1 t.2) ∧ (∀ (s : Shared) (u : Value), BindsTo s fd ⟨[u], []⟩ [(x, u)]) ∧
    (∀ (H : Hp) (a : Addr) (ns : List Int), ns.length ≤ n → (∀ z ∈ ns, Builtin.Int.intBits z ≤ 1048576) → (∀ t ∈ tbs, H t.2 = some (.tbl #[])) → SqL K H a (ns.map V.int) → sp [.ref a] H (fun v _ => v = .bl true) fun _ _ _ => False) ∧
    ∀ base : Heap, K.In base → base.Ns mainGlobals mg → (∀ t ∈ tbs, TabB base mg t.1 t.2) → FnOkG l.prog w K mg base CX k fa fd [x] sp
theorem walk_tabsG {l : PySem.W.OpenLaw} {n k : Nat} {q : Program} {loose : List Str} {XP : (Str → Option Value) → Heap → Prop} {YP : World → Heap → Prop} {d : DefRec} {CX : World → CXT} {x : Str}
    (hmost : l.most = some n) (hsz : n ≤ sizeLine) (hdef : d.params.defaults = []) (hroom : Room k callerA)
    (given_ : ∀ (w : World) (mg : Str → Option Value) (f : Addr) (h : Heap), YP w h → h.Ns mainGlobals mg → mg d.name = some (.ref f) → ∃ K : PySem.W.Frag, K.In h ∧ LawAtG l w K (CX w) k n x mg f h)
    (hno : ∀ (w : World) (H : Hp) (s : Shared) (e : Value) (s' : Shared), CX w [] H s (fun _ _ _ => False) e s' → False) :
    PySem.W.WalkO q loose XP YP l.row.toRowW d [] (fun f vs => PySem.call f vs) := by
  refine Att.attach_callB hmost hdef fun wd sA sB mg mb fa ob pm cd doc adr vals nums Gd Yp hob hdt hcd hmg hobj hnums hcount hbit hgen => ?_
  obtain ⟨K, inK, fd, tbs, sp, hT, nT, hC, hbd, hok, hfn⟩ := given_ wd mg fa _ Yp Gd.T.g hmg
  exact law_atT inK Gd.T.g Gd.T.b Gd.T.builtins Gd.T.nolimit hgen hT nT hC Gd.T.bmain hobj hnums (Nat.le_trans hcount hsz) hroom hfn hbd (fun H hH hS => hok H adr nums hcount hbit hH hS) fun H e s' => hno wd H sB e s'
/-- the law's own def, its code object known -/
theorem FunD.okGL {P : Program} {w : World} {K : PySem.W.Frag} {mg : Str → Option Value} {CX : CXT} {base : Heap} {qual x : Str} {params : Arguments} {body : List Stmt} {scope : Scope} {dvs : List V} {kws : List (Str × V)} {f : Addr} {fd : FuncData} {N ps : List Str} {k : Nat} {sp : Sp} {pd : He.Defn} (F : FunD K x qual params body scope dvs kws f fd) (hp : f = He.fAd K pd) (S : FnScope N ps scope) (len : ∀ vs H Q E, sp vs H Q E → vs.length = ps.length)
    (walk : ∀ (A : Around) (outer : List Env) (s : Shared) (H : Hp) (vs : List V) (Q : VK) (E : XK), Room k (A.deeper (envOfC qual scope s.heap.objs.size f (.ref (He.codeOf K pd)))) → A.guards = some [] → sp vs H Q E →
      ∃ t, PSs (cxOf CX P w K mg base N qual scope f (.ref (He.codeOf K pd)) A outer s H E) body t ∧ t { nx := fun _ H' => Q .non H', rt := Q } (start N vs) H) : FnOkG P w K mg base CX (k + 1) f fd ps sp := by
  obtain ⟨u7, own, u1, u2, u3, u4, ann, u5, u6, sl, rfl, lk, hcode, _, _⟩ := F.ex
  obtain ⟨c, rfl⟩ := He.codeIn_ref hcode
  have ec : He.codeOf K pd = c := He.codeOf_eq (by rw [← hp]; exact lk) rfl
  refine ⟨len, fun A outer s H args us vs Q E hr hgd e0 hb rel hsp => call_at lk hcode S (len _ _ _ _ hsp) hr e0 hb rel fun hr2 => ?_⟩
  rw [ec] at walk
  exact walk A outer s H vs Q E hr2 hgd hsp
end
/-! ### all stays but the tape and the table of code objects -/
section
open Evl LamX
abbrev qLam : Str := ((Str.ofString "law") ++ ".<locals>.") ++ "<lambda>"
structure LW (tp Pt : Addr) (H : Hp) : Prop where
  t : TapeAt tp H
  c : Tabs [(Pt, qLam)] H
def ExL (tp Pt : Addr) (H H' : Hp) : Prop := (∀ a o, a ≠ tp → (∀ ps, o ≠ .tbl ps) → H a = some o → H' a = some o) ∧ LW tp Pt H'
variable {K : PySem.W.Frag} {tp Pt a : Addr} {H H' H1 H2 : Hp}
theorem LW.tbl (h : LW tp Pt H) : ∃ ps, H Pt = some (.tbl ps) := by
  obtain ⟨ps, h1, _⟩ := h.c (Pt, qLam) List.mem_cons_self
  exact ⟨ps, h1⟩
theorem ExL.refl (h : LW tp Pt H) : ExL tp Pt H H := ⟨fun _ _ _ _ e => e, h⟩
theorem ExL.trans (x : ExL tp Pt H H1) (y : ExL tp Pt H1 H2) : ExL tp Pt H H2 := ⟨fun a o n m e => y.1 a o n m (x.1 a o n m e), y.2⟩
theorem LW.ex (h : LW tp Pt H) (e : Ex H H') : LW tp Pt H' := ⟨h.t.ex e, h.c.ext e⟩
theorem ExL.ex (h : LW tp Pt H) (e : Ex H H') : ExL tp Pt H H' := ⟨fun a o _ _ x => e a o x, h.ex e⟩
theorem codeO_tape {c : Addr} {q : Str} {d m : Int} : CodeO c q ≠ tapeO d m := fun z => by
  unfold CodeO tapeO at z
  cases z
theorem LW.exT (h : LW tp Pt H) (e : ExT tp H H') : LW tp Pt H' := ⟨e.2, fun p hp => by
  obtain ⟨d, m, _, ht⟩ := h.t
  obtain ⟨ps, h1, h2, h3⟩ := h.c p hp
  refine ⟨ps, e.1 _ _ (fun z => by
    rw [z, ht] at h1
    cases h1) h1, h2, fun pos cv hc => ?_⟩
  obtain ⟨c, e1, e2⟩ := h3 pos cv hc
  exact ⟨c, e1, e.1 _ _ (fun z => by
    rw [z, ht] at e2
    exact codeO_tape (Option.some.inj e2).symm) e2⟩⟩
theorem ExL.exT (h : LW tp Pt H) (e : ExT tp H H') : ExL tp Pt H H' := ⟨fun a o n _ x => e.1 a o n x, h.exT e⟩
theorem ExL.extN (h : LW tp Pt H) (e : ExtN H H') (c : Tabs [(Pt, qLam)] H') : ExL tp Pt H H' := ⟨fun a o _ n x => e a o x n, ⟨by
    obtain ⟨d, m, ok, ht⟩ := h.t
    exact ⟨d, m, ok, e _ _ ht fun ps z => by cases z⟩, c⟩⟩
theorem codeO_lst {c : Addr} {q : Str} {xs : List V} : CodeO c q ≠ .lst xs := fun z => by
  unfold CodeO at z
  cases z
theorem ExL.lst {xs : List V} (e : ExL tp Pt H H') (t : TapeAt tp H) (h : H a = some (.lst xs)) : H' a = some (.lst xs) := e.1 a _ (fun z => by
  obtain ⟨d, m, _, ht⟩ := t
  rw [z, ht] at h
  cases h) (fun ps z => by cases z) h
theorem ExL.sq {xs : List V} (e : ExL tp Pt H H') (t : TapeAt tp H) (h : SqL K H a xs) : SqL K H' a xs := by
  rcases h with (h | ⟨o, h⟩) | h
  · exact .inl (.inl (e.lst t h))
  · exact .inl (.inr ⟨o, e.1 a _ (fun z => by
      obtain ⟨d, m, _, ht⟩ := t
      rw [z, ht] at h
      cases h) (fun ps z => by cases z) h⟩)
  · exact .inr h
/-- a list that was new some time may change -/
theorem LW.mut {xs : List V} {o : HO} (h : LW tp Pt H) (hl : H a = some (.lst xs)) : LW tp Pt (upd H a o) := ⟨by
  obtain ⟨d, m, ok, ht⟩ := h.t
  exact ⟨d, m, ok, by rw [upd_ne (fun z => by rw [z, hl] at ht; cases ht)]; exact ht⟩, fun p hp => by
  obtain ⟨ps, h1, h2, h3⟩ := h.c p hp
  refine ⟨ps, by rw [upd_ne (fun z => by rw [z, hl] at h1; cases h1)]; exact h1, h2, fun pos cv hc => ?_⟩
  obtain ⟨c, e1, e2⟩ := h3 pos cv hc
  exact ⟨c, e1, by rw [upd_ne (fun z => by rw [z, hl] at e2; exact codeO_lst (Option.some.inj e2).symm)]; exact e2⟩⟩
theorem ExL.mut {Hm : Hp} {xs : List V} {o : HO} (x : ExL tp Pt H Hm) (hp : Hm a = none) (y : ExL tp Pt Hm H2) (hl : H2 a = some (.lst xs)) : ExL tp Pt H (upd H2 a o) :=
  ⟨fun b u nb nu hb => by
    have h1 := x.1 b u nb nu hb
    rw [upd_ne (ne_of_none h1 hp)]
    exact y.1 b u nb nu h1, y.2.mut hl⟩
/-- what stood before the tape was laid stands -/
theorem ExL.ns {HA : Hp} {xs : List V} (e : ExL tp Pt HA H') (x : Ex H HA) (t : TapeAt tp HA) (h : SqL K H a xs) : SqL K H' a xs := e.sq t (ex_l x h)
end
theorem reach_full {l : List Nat} : ∀ (p : List Nat) (st : Nat), p.Sublist (l.drop st) → (reach l st p).length = p.length
  | [], _, _ => rfl
  | c :: p, st, h => by
    obtain ⟨k, h1, h2⟩ := sub_nxt.mp h
    rw [reach_go h1, List.length_cons, List.length_cons, reach_full p (k + 1) h2]
theorem full_sub {l : List Nat} : ∀ (p : List Nat) (st : Nat), (reach l st p).length = p.length → p.Sublist (l.drop st)
  | [], _, _ => List.nil_sublist _
  | c :: p, st, h => by
    cases hn : nxt l st c with
    | none =>
      rw [reach_no hn] at h
      cases h
    | some k =>
      rw [reach_go hn, List.length_cons, List.length_cons] at h
      exact sub_nxt.mpr ⟨k, hn, full_sub p (k + 1) (by omega)⟩
theorem holds_iff (l p : List Nat) : holdsB l p = true ↔ p.Sublist l := by
  unfold holdsB
  rw [decide_eq_true_iff]
  constructor
  · intro h
    exact full_sub p 0 h
  · intro h
    exact reach_full p 0 h
/-! ### two lists of places in a list -/
def natD (a : List Nat) : PyData := .list (a.map fun (k : Nat) => PyData.int (k : Int))
def nestD (a b : List Nat) : PyData := .list [natD a, natD b]
section
open Evl
variable {K : PySem.W.Frag} {H : Hp}
theorem dp_nat {f : Addr} {a : List Nat} (h : H f = some (.lst (natV a))) : Dp K H (.ref f) (natD a) := .lst (sq_of h) (dpAll_map fun k _ => .int (k : Int))
theorem dp_nest {p f g : Addr} {a b : List Nat} (hp : H p = some (.lst [.ref f, .ref g])) (hf : H f = some (.lst (natV a))) (hg : H g = some (.lst (natV b))) : Dp K H (.ref p) (nestD a b) := .lst (sq_of hp) (.cons (dp_nat hf) (.cons (dp_nat hg) .nil))
theorem nat_lay (a : List Nat) : PyData.canLay0 (natD a) = true := lay_map fun _ _ => rfl
theorem nat_dep (a : List Nat) : PyData.depth (natD a) ≤ 1 := by
  have h := dep_map (g := fun (k : Nat) => PyData.int (k : Int)) (n := 0) (xs := a) fun x _ => Nat.zero_le _
  show PyData.depthAll (a.map fun (k : Nat) => PyData.int (k : Int)) + 1 ≤ 1
  omega
theorem nest_shp (a b : List Nat) : SeqAt.shaped (nestD a b) = true := shp_map (g := natD) (xs := [a, b]) (fun x _ => nat_lay x) (fun x _ => Nat.le_trans (nat_dep x) (by decide))
theorem nat_same (a : List Nat) : PyData.eqv (natD a) (natD a) = true := by
  have h := eqv_map (g := fun (k : Nat) => PyData.int (k : Int)) (fun x y => by
    show ((x : Int) == (y : Int)) = decide (x = y)
    by_cases h : x = y
    · rw [h]
      simp
    · have h2 : ¬ ((x : Int) = (y : Int)) := by omega
      rw [decide_eq_false h]
      exact beq_false_of_ne h2) a a
  exact h.trans (decide_eq_true rfl)
theorem nest_same (a b : List Nat) : PyData.eqv (nestD a b) (nestD a b) = true := by
  show (PyData.eqv (natD a) (natD a) && (PyData.eqv (natD b) (natD b) && true)) = true
  rw [nat_same, nat_same] <;> rfl
theorem nest_show {a b : List Nat} (ha : a.length ≤ 2000) (hb : b.length ≤ 2000) (ha2 : ∀ k ∈ a, k < 1000000) (hb2 : ∀ k ∈ b, k < 1000000) : ShowOk (nestD a b) := by
  have conv : ∀ c : List Nat, natD c = .list ((c.map fun (k : Nat) => (k : Int)).map .int) := fun c => by
    unfold natD
    rw [List.map_map]
    rfl
  have one : ∀ c : List Nat, c.length ≤ 2000 → (∀ k ∈ c, k < 1000000) → PyData.showable (natD c) = true ∧ PyData.hasDict (natD c) = false ∧ PyData.leavesShort 1921 (natD c) = true ∧ PyData.bulk (natD c) = c.length := fun c hl hc => by
    have hs := show_ints (xs := c.map fun (k : Nat) => (k : Int)) (by rw [List.length_map]; omega) fun x hx => by
      obtain ⟨k, hk, rfl⟩ := List.mem_map.mp hx
      have h9 := hc k hk
      exact Nat.lt_of_lt_of_le (show ((k : Int)).natAbs < 2 ^ 20 by
        have e : (2 : Nat) ^ 20 = 1048576 := by decide
        rw [e]
        omega) (two_mono (by decide))
    rw [conv c]
    refine ⟨hs.sh, hs.nd, ?_, ?_⟩
    · clear hs hl
      show PyData.leavesShortAll 1921 ((c.map fun (k : Nat) => (k : Int)).map .int) = true
      induction c with
      | nil => rfl
      | cons k r ih =>
        have h1 := ih fun x hx => hc x (List.mem_cons_of_mem _ hx)
        have h2 := hc k List.mem_cons_self
        show (decide ((PyData.shown (.int (k : Int))).length ≤ 1921) && PyData.leavesShortAll 1921 ((r.map fun (k : Nat) => (k : Int)).map .int)) = true
        have h3 : (PyData.shown (.int (k : Int))).length ≤ 1921 := PyProof.Rows.int_text_len_1921 (by
          show k.log2 < 1920
          refine PySem.Flt.log2_lt_of (by decide) (Nat.lt_of_lt_of_le (m := 2 ^ 20) ?_ (two_mono (by decide)))
          have e : (2 : Nat) ^ 20 = 1048576 := by decide
          rw [e]
          omega)
        rw [h1, decide_eq_true h3] <;> rfl
    · clear hs hl hc
      show PyData.bulkAll ((c.map fun (k : Nat) => (k : Int)).map .int) = c.length
      induction c with
      | nil => rfl
      | cons k r ih =>
        show 0 + 1 + PyData.bulkAll ((r.map fun (k : Nat) => (k : Int)).map .int) = r.length + 1
        rw [ih]
        omega
  obtain ⟨a1, a2, a3, a4⟩ := one a ha ha2
  obtain ⟨b1, b2, b3, b4⟩ := one b hb hb2
  refine ⟨?_, ?_, ?_, ?_⟩
  · show (PyData.showable (natD a) && (PyData.showable (natD b) && true)) = true
    rw [a1, b1] <;> rfl
  · show (PyData.hasDict (natD a) || (PyData.hasDict (natD b) || false)) = false
    rw [a2, b2] <;> rfl
  · have := nat_dep a
    have := nat_dep b
    show max (PyData.depth (natD a)) (max (PyData.depth (natD b)) 0) + 1 ≤ 60
    omega
  · have h := PyData.shown_le_bulk 1921 (by decide) (nestD a b) (by
      show (PyData.leavesShort 1921 (natD a) && (PyData.leavesShort 1921 (natD b) && true)) = true
      rw [a3, b3] <;> rfl)
    have hbk : PyData.bulk (nestD a b) = a.length + 1 + (b.length + 1 + 0) := by
      show PyData.bulk (natD a) + 1 + (PyData.bulk (natD b) + 1 + 0) = _
      rw [a4, b4]
    rw [hbk] at h
    refine Nat.le_trans h ?_
    have h5 : (1921 + 2) * (a.length + 1 + (b.length + 1 + 0)) ≤ (1921 + 2) * 5000 := Nat.mul_le_mul_left _ (by omega)
    exact Nat.le_trans (Nat.add_le_add_right h5 _) (by decide)
theorem el_revL {te : TE} {σ : L2.St} {xs : List V} (h : EvL te σ H xs) : EvL (tRevL K te) σ H xs.reverse := fun H1 e Q q =>
  h H1 e _ fun p H2 hp e2 h2 => ⟨p, xs, rfl, sq_of h2, fun r hr => q r _ (fresh_back e2 hr) (e2.trans (Ex.new hr)) upd_same⟩
end
section
open Evl LamX
variable {P : Program} {w : World} {K : PySem.W.Frag} {mg : Str → Option Value} {base : Heap} {σ : L2.St} {H : Hp} {ta tb te : TE}
theorem kw_holds_piece_text {K : PySem.W.Frag} {mg : Str → Option Value} (T : Txt K mg) : KwAll K T.d_holds ["text", "piece"] ["piece", "text"] (fun ws => match ws with | [a0, a1] => [a1, a0] | z => z) (fun ws => match ws with | [a0, a1] => [a1, a0] | z => z) := FunD.kwAll T.F_holds ["piece", "text"] _ _ (fun {zs ws} hl r => match zs, ws, hl, r with | [_, _], _, _, (.cons r0 (.cons r1 .nil)) => (.cons r1 (.cons r0 .nil))) (fun _ _ _ _ _ _ ws hl => match ws, hl with | [_, _], _ => rfl)
theorem kw_first_places_piece_text {K : PySem.W.Frag} {mg : Str → Option Value} (T : Txt K mg) : KwAll K T.d_first_places ["text", "piece"] ["piece", "text"] (fun ws => match ws with | [a0, a1] => [a1, a0] | z => z) (fun ws => match ws with | [a0, a1] => [a1, a0] | z => z) := FunD.kwAll T.F_first_places ["piece", "text"] _ _ (fun {zs ws} hl r => match zs, ws, hl, r with | [_, _], _, _, (.cons r0 (.cons r1 .nil)) => (.cons r1 (.cons r0 .nil))) (fun _ _ _ _ _ _ ws hl => match ws, hl with | [_, _], _ => rfl)
theorem kw_last_places_piece_text {K : PySem.W.Frag} {mg : Str → Option Value} (T : Txt K mg) : KwAll K T.d_last_places ["text", "piece"] ["piece", "text"] (fun ws => match ws with | [a0, a1] => [a1, a0] | z => z) (fun ws => match ws with | [a0, a1] => [a1, a0] | z => z) := FunD.kwAll T.F_last_places ["piece", "text"] _ _ (fun {zs ws} hl r => match zs, ws, hl, r with | [_, _], _, _, (.cons r0 (.cons r1 .nil)) => (.cons r1 (.cons r0 .nil))) (fun _ _ _ _ _ _ ws hl => match ws, hl with | [_, _], _ => rfl)
def spLawT (K : PySem.W.Frag) (Pt : Addr) : Sp := fun vs H Q _ => ∃ (a : Addr) (ns : List Int), vs = [.ref a] ∧ SqL K H a (ns.map V.int) ∧ ns.length ≤ 63 ∧ (∀ z ∈ ns, Builtin.Int.intBits z ≤ 1048576) ∧ Tabs [(Pt, qLam)] H ∧ ∀ H', Q (.bl true) H'
theorem a_s : (mkS [97]) = ("a" : Str) := by decide +kernel
theorem ab_s : (mkS [97, 98]) = ("ab" : Str) := by decide +kernel
theorem abc_s : (mkS [97, 98, 99]) = ("abc" : Str) := by decide +kernel
theorem abcdxyz_s : (mkS [97, 98, 99, 100, 120, 121, 122]) = ("abcdxyz" : Str) := by decide +kernel
def Txts (n : Nat) (v : V) : Prop := ∃ l : List Nat, v = vS l ∧ l.length ≤ n ∧ txtB l = true
theorem show_b2 (b : Bool) : ShowOk (.list [.bool b, .bool b]) := by
  cases b <;> exact ⟨rfl, rfl, by decide, by decide +kernel⟩
theorem holds_strip (t p : List Nat) : holdsB t p = decide (strip t p = []) := by
  have h1 := holds_iff t p
  have h2 := strip_sub t p
  by_cases h : p.Sublist t
  · rw [h1.mpr h, decide_eq_true (h2.mpr h)]
  · rw [decide_eq_false fun e => h (h2.mp e)]
    cases hb : holdsB t p with
    | false => rfl
    | true => exact absurd (h1.mp hb) h
abbrev nm_law : List Str := ["script", "start", "tape", "turn", "letters", "text_here", "piece_here", "one", "due", "told", "ends", "place"]
theorem sc_law : FnScope nm_law ["script"] (defScope s_law) := ⟨rfl, rfl, rfl, by decide +kernel, rfl, by decide +kernel, by decide +kernel⟩
theorem b_law {K : PySem.W.Frag} {mg : Str → Option Value} (T : Txt K mg) : Binds K T.d_law ["script"] [] := T.F_law.bindsN fun _ _ _ _ _ _ us hl => match us, hl with | [_], _ => rfl
theorem ok_law (T : Txt K mg) {Pt : Addr} (ha : T.a_law = He.fAd K ("law", none)) (TB : TabB base mg (He.codeOf K ("law", none)) Pt) : FnOkG P w K mg base CX0 9 T.a_law T.d_law ["script"] (spLawT K Pt) := by
  refine FunD.okGL T.F_law ha sc_law (fun vs H Q E h => ?_) (fun A outer s H vs Q E hr hgd h => ⟨_, PSs.nox (pss_cons (ps_for PassesOwn.never rfl (pi_range1 (by rfl) T.n_range (pa_cons (pe_callB (call_max_q rfl) (by rfl) T.n_max (by decide +kernel) (pa_cons pe_int (pa_cons (pe_callB (call_min_q rfl) (by rfl) T.n_min (by decide +kernel) (pa_cons pe_int (pa_cons (pe_callB (callk (K0 := K) rLenQ call_len_q rfl) (by rfl) T.n_len (by decide +kernel) (pa_cons (pv 0) pa_nil)) pa_nil))) pa_nil))) pa_nil)) (pg_name (i := 1) sc_law.nd rfl (by first | exact Or.inl rfl | exact Or.inr rfl))
      (pss_cons (ps_set (i := 2) sc_law.nd rfl (by first | exact Or.inl rfl | exact Or.inr rfl) (pe_call (ok__law_tape T) (hr.mono (by decide)) (by rfl) T.g__law_tape T.F__law_tape.kp (b__law_tape T) .nil pass0 (pa_cons (pv 0) (pa_cons (pv 1) pa_nil))))
      (pss_one (ps_for PassesOwn.never rfl (pi_range1 (by rfl) T.n_range (pa_cons pe_int pa_nil)) (pg_name (i := 3) sc_law.nd rfl (by first | exact Or.inl rfl | exact Or.inr rfl))
      (pss_cons (ps_set (i := 4) sc_law.nd rfl (by first | exact Or.inl rfl | exact Or.inr rfl) (pe_call (ok__law_one_of T) (hr.mono (by decide)) (by rfl) T.g__law_one_of T.F__law_one_of.kp (b__law_one_of T) .nil pass0 (pa_cons (pv 2) (pa_cons (pe_lst (pa_cons pe_str (pa_cons pe_str (pa_cons pe_str (pa_cons pe_str pa_nil))))) pa_nil))))
      (pss_cons (ps_set (i := 5) sc_law.nd rfl (by first | exact Or.inl rfl | exact Or.inr rfl) (pe_call (ok__law_drawn_text T) (hr.mono (by decide)) (by rfl) T.g__law_drawn_text T.F__law_drawn_text.kp (b__law_drawn_text T) .nil pass0 (pa_cons (pv 2) (pa_cons (pv 4) (pa_cons (pe_call (ok__law_one_of T) (hr.mono (by decide)) (by rfl) T.g__law_one_of T.F__law_one_of.kp (b__law_one_of T) .nil pass0 (pa_cons (pv 2) (pa_cons (pe_lst (pa_cons pe_int (pa_cons pe_int (pa_cons pe_int pa_nil)))) pa_nil))) pa_nil)))))
      (pss_cons (ps_set (i := 6) sc_law.nd rfl (by first | exact Or.inl rfl | exact Or.inr rfl) (pe_call (ok__law_one_of T) (hr.mono (by decide)) (by rfl) T.g__law_one_of T.F__law_one_of.kp (b__law_one_of T) .nil pass0 (pa_cons (pv 2) (pa_cons (pe_lst (pa_cons (tbmk (K0 := K) (pe_bm PySem.F.plainAttrs_str PySem.F.slot_str_join PySem.F.type_str_join (mtk (K0 := K) rJoin mt_joinq rfl) pe_str (pa_cons (pe_lc (own := [("one", 7)]) (g := (gName 7))  rfl sc_law.nd (pilk (K0 := K) (pi_list (pe_callTy (call_listS rfl) (by rfl) T.n_list (by decide +kernel) (pa_cons (pv 5) pa_nil))) rfl) (blkOk_by (own := [("one", 7)]) (N := nm_law) (sc := defScope s_law) (by decide +kernel)) (fun _ _ _ _ _ => (pg_name (i := 7) sc_law.nd rfl (by first | exact Or.inl rfl | exact Or.inr rfl))) (fun _ _ _ _ _ => (pts_one (pt_cmpR op_eq (pe_call (ok__law_pick T) (hr.mono (by decide)) (by rfl) T.g__law_pick T.F__law_pick.kp (b__law_pick T) .nil pass0 (pa_cons (pv 2) (pa_cons pe_int pa_nil))) pe_int (nomark _)))) (fun _ _ _ _ _ => (pv 7))) pa_nil)) rfl) (pa_cons (pe_call (ok__law_drawn_text T) (hr.mono (by decide)) (by rfl) T.g__law_drawn_text T.F__law_drawn_text.kp (b__law_drawn_text T) .nil pass0 (pa_cons (pv 2) (pa_cons (pv 4) (pa_cons pe_int pa_nil)))) (pa_cons (pv 5) (pa_cons pe_str pa_nil))))) pa_nil))))
      (pss_cons (ps_set (i := 8) sc_law.nd rfl (by first | exact Or.inl rfl | exact Or.inr rfl) (pe_call (ok__law_holds T) (hr.mono (by decide)) (by rfl) T.g__law_holds T.F__law_holds.kp (b__law_holds T) .nil pass0 (pa_cons (pv 5) (pa_cons (pv 6) pa_nil))))
      (pss_cons (ps_if (pt_cmpR op_ne (pe_callB (callk (K0 := K) rReprD (call_reprD hgd (u64 hr)) rfl) (by rfl) T.n_repr (by decide +kernel) (pa_cons (pe_lst (pa_cons (pe_call (ok_holds T) (hr.mono (by decide)) (by rfl) T.g_holds T.F_holds.kp (b_holds T) .nil pass0 (pa_cons (pv 5) (pa_cons (pv 6) pa_nil))) (pa_cons (pe_callKw (ok_holds T) (hr.mono (by decide)) (by rfl) T.g_holds T.F_holds.kp (kw_holds_piece_text T) pass0 (pk_cons (pv 6) (pk_cons (pv 5) pk_nil))) pa_nil))) pa_nil)) (pe_callB (callk (K0 := K) rReprD (call_reprD hgd (u64 hr)) rfl) (by rfl) T.n_repr (by decide +kernel) (pa_cons (pe_lst (pa_cons (pv 8) (pa_cons (pv 8) pa_nil))) pa_nil)) (nomark _)) (pss_one (ps_ret pe_bl)) pss_nil)
      (pss_cons (ps_if (pt_not (pt_val (pv 8))) (pss_cons (ps_set (i := 9) sc_law.nd rfl (by first | exact Or.inl rfl | exact Or.inr rfl) (pe_lst (pa_cons (pe_lamW (T := [(Pt, qLam)]) (TT := TTf_law_refused T) (by rfl) T.g__law_refused T.F__law_refused.kp T.F__law_refused (b__law_refused T) sc__law_refused rfl (by first | exact Or.inl rfl | exact Or.inr (Or.inl rfl)) (fun cdv => gives_refused T rfl rfl cdv _) TB rfl (List.mem_singleton.mpr rfl) (fun p hp _ => by rw [List.mem_singleton.mp hp]; rfl) (hr.mono (by decide)) (LamX.lamS_by (sc := defScope s_law) (by decide +kernel)) rfl (fun _ _ _ _ _ => rfl) (fun A9 outer9 s9 H9 E9 f9 c9 hr9 => (pe_call (okX_first_places T) hr9 (by rfl) T.g_first_places T.F_first_places.kp (b_first_places T) .nil (passes_call (takes_of rfl rfl rfl rfl) (fun _ _ _ _ h => h)) (pa_cons (pe_var (i := 5) rfl (Or.inr (Or.inr rfl))) (pa_cons (pe_var (i := 6) rfl (Or.inr (Or.inr rfl))) pa_nil))))) pa_nil)))
      (pss_cons (ps_expr (tbmk (K0 := K) (pe_bm PySem.F.plainAttrs_list PySem.F.slot_list_append PySem.F.type_list_append mt_append (pv 9) (pa_cons (pe_lamW (T := [(Pt, qLam)]) (TT := TTf_law_refused T) (by rfl) T.g__law_refused T.F__law_refused.kp T.F__law_refused (b__law_refused T) sc__law_refused rfl (by first | exact Or.inl rfl | exact Or.inr (Or.inl rfl)) (fun cdv => gives_refused T rfl rfl cdv _) TB rfl (List.mem_singleton.mpr rfl) (fun p hp _ => by rw [List.mem_singleton.mp hp]; rfl) (hr.mono (by decide)) (LamX.lamS_by (sc := defScope s_law) (by decide +kernel)) rfl (fun _ _ _ _ _ => rfl) (fun A9 outer9 s9 H9 E9 f9 c9 hr9 => (pe_call (okX_last_places T) hr9 (by rfl) T.g_last_places T.F_last_places.kp (b_last_places T) .nil (passes_call (takes_of rfl rfl rfl rfl) (fun _ _ _ _ h => h)) (pa_cons (pe_var (i := 5) rfl (Or.inr (Or.inr rfl))) (pa_cons (pe_var (i := 6) rfl (Or.inr (Or.inr rfl))) pa_nil))))) pa_nil)) rfl))
      (pss_cons (ps_if (pt_cmpR (opk (K0 := K) rNeD (op_neD hr.units) rfl) (pv 9) (pe_lst (pa_cons (pe_lst (pa_cons (pv 6) pa_nil)) (pa_cons (pe_lst (pa_cons (pv 6) pa_nil)) pa_nil))) (nomark _)) (pss_one (ps_ret pe_bl)) pss_nil)
      (pss_one ps_continue)))) pss_nil)
      (pss_cons (ps_setLc (own := [("place", 11)]) (g := (gName 11)) (tt := tYes)  (i := 10) rfl sc_law.nd rfl rfl (sw_true rfl rfl rfl (by decide +kernel)) (pilk (K0 := K) (pi_list (revk (K0 := K) (pe_revL (pe_call (ok__law_first T) (hr.mono (by decide)) (by rfl) T.g__law_first T.F__law_first.kp (b__law_first T) .nil pass0 (pa_cons (pe_revS (pv 5)) (pa_cons (pe_revS (pv 6)) pa_nil)))) rfl)) rfl) (blkOk_by (own := [("place", 11)]) (N := nm_law) (sc := defScope s_law) (by decide +kernel)) (fun _ _ _ _ _ => (pg_name (i := 11) sc_law.nd rfl (by first | exact Or.inl rfl | exact Or.inr rfl))) (fun _ _ _ _ _ => pts_nil) (fun _ _ _ _ _ => (pe_op op_sub (pe_op op_sub (pe_callB call_len_t (by rfl) T.n_len (by decide +kernel) (pa_cons (pv 5) pa_nil)) pe_int) (pv 11))))
      (pss_cons (ps_set (i := 9) sc_law.nd rfl (by first | exact Or.inl rfl | exact Or.inr rfl) (pe_lst (pa_cons (pe_call (ok_first_places T) (hr.mono (by decide)) (by rfl) T.g_first_places T.F_first_places.kp (b_first_places T) .nil pass0 (pa_cons (pv 5) (pa_cons (pv 6) pa_nil))) (pa_cons (pe_call (ok_last_places T) (hr.mono (by decide)) (by rfl) T.g_last_places T.F_last_places.kp (b_last_places T) .nil pass0 (pa_cons (pv 5) (pa_cons (pv 6) pa_nil))) pa_nil))))
      (pss_cons (ps_if (PW.pt (pw_or (pt_cmpR op_ne (pe_callB (callk (K0 := K) rReprD (call_reprD hgd (u64 hr)) rfl) (by rfl) T.n_repr (by decide +kernel) (pa_cons (pv 9) pa_nil)) (pe_callB (callk (K0 := K) rReprD (call_reprD hgd (u64 hr)) rfl) (by rfl) T.n_repr (by decide +kernel) (pa_cons (pe_lst (pa_cons (pe_call (ok__law_first T) (hr.mono (by decide)) (by rfl) T.g__law_first T.F__law_first.kp (b__law_first T) .nil pass0 (pa_cons (pv 5) (pa_cons (pv 6) pa_nil))) (pa_cons (pv 10) pa_nil))) pa_nil)) (nomark _)) (pw_or1 (pt_cmpR (opk (K0 := K) rNeD (op_neD hr.units) rfl) (pe_lst (pa_cons (pe_callKw (ok_first_places T) (hr.mono (by decide)) (by rfl) T.g_first_places T.F_first_places.kp (kw_first_places_piece_text T) pass0 (pk_cons (pv 6) (pk_cons (pv 5) pk_nil))) (pa_cons (pe_callKw (ok_last_places T) (hr.mono (by decide)) (by rfl) T.g_last_places T.F_last_places.kp (kw_last_places_piece_text T) pass0 (pk_cons (pv 6) (pk_cons (pv 5) pk_nil))) pa_nil))) (pv 9) (nomark _))))) (pss_one (ps_ret pe_bl)) pss_nil)
      (pss_cons (ps_expr (tbmk (K0 := K) (pe_bm PySem.F.plainAttrs_list PySem.F.slot_list_append PySem.F.type_list_append mt_append (pe_ix (ixk (K0 := K) rIxL ix_list rfl) (pv 9) pe_int (fun _ _ => rfl)) (pa_cons pe_non pa_nil)) rfl))
      (pss_cons (ps_expr (tbmk0 (K0 := K) (pe_bm0 PySem.F.plainAttrs_list PySem.F.slot_list_clear PySem.F.type_list_clear mt_clear (pe_ix (ixk (K0 := K) rIxL ix_list rfl) (pv 9) pe_int (fun _ _ => rfl))) rfl))
      (pss_one (ps_if (pt_cmpR (opk (K0 := K) rNeD (op_neD hr.units) rfl) (pe_lst (pa_cons (pe_call (ok_first_places T) (hr.mono (by decide)) (by rfl) T.g_first_places T.F_first_places.kp (b_first_places T) .nil pass0 (pa_cons (pv 5) (pa_cons (pv 6) pa_nil))) (pa_cons (pe_call (ok_last_places T) (hr.mono (by decide)) (by rfl) T.g_last_places T.F_last_places.kp (b_last_places T) .nil pass0 (pa_cons (pv 5) (pa_cons (pv 6) pa_nil))) pa_nil))) (pe_lst (pa_cons (pe_call (ok__law_first T) (hr.mono (by decide)) (by rfl) T.g__law_first T.F__law_first.kp (b__law_first T) .nil pass0 (pa_cons (pv 5) (pa_cons (pv 6) pa_nil))) (pa_cons (pv 10) pa_nil))) (nomark _)) (pss_one (ps_ret pe_bl)) pss_nil)))))))))))))))))
      (pss_one (ps_ret (pe_and (pe_cmpR op_is_bl (pe_call (ok_holds T) (hr.mono (by decide)) (by rfl) T.g_holds T.F_holds.kp (b_holds T) .nil pass0 (pa_cons pe_str (pa_cons pe_str pa_nil))) pe_bl (nomark _)) (pe_one (pe_cmpR (opk (K0 := K) rEqD (op_eqD hr.units) rfl) (pe_call (ok_first_places T) (hr.mono (by decide)) (by rfl) T.g_first_places T.F_first_places.kp (b_first_places T) .nil pass0 (pa_cons pe_str (pa_cons pe_str pa_nil))) (pe_lst pa_nil) (nomark _))))))), ?_⟩)
  · obtain ⟨a, ns, rfl, _⟩ := h
    rfl
  · obtain ⟨a, ns, rfl, hS, hlen, hbits, hTab, k⟩ := h
    obtain ⟨n, hn3, hw⟩ := et_starts (σ := L2.start nm_law [V.ref a]) hS rfl
    refine q_forN hw (fun i σ H' => ∃ (x1 x2 x3 x4 x5 x6 x8 x9 x10 : Option V), σ = [some (.ref a), x1, x2, x3, x4, x5, x6, none, x8, x9, x10, none] ∧ SqL K H' a (ns.map V.int) ∧ Tabs [(Pt, qLam)] H')
      (fun H1 e1 => ⟨_, _, _, _, _, _, _, _, _, rfl, ex_l e1 hS, hTab.ext e1⟩) ?_ ?_
    · rintro i σ H' hi ⟨x1, x2, x3, x4, x5, x6, x8, x9, x10, rfl, hS', hTab'⟩
      refine ⟨_, rfl, _, rfl, a, ns, (i : Int), rfl, hS', hlen, hbits, by omega, by omega, fun tp d m htp htok => ?_⟩
      have exA : Ex H' (upd H' tp (tapeO d m)) := Ex.new htp
      have lA : LW tp Pt (upd H' tp (tapeO d m)) := ⟨⟨d, m, htok, upd_same⟩, hTab'.ext exA⟩
      have hSA : SqL K (upd H' tp (tapeO d m)) a (ns.map V.int) := ex_l exA hS'
      generalize upd H' tp (tapeO d m) = HA at *
      refine s_forN (et_rng1 (n := 6) (ea_cons ev_c ea_nil) (by decide)) (fun j σ H' => ∃ (y3 y4 y5 y6 y8 y9 y10 : Option V), σ = [some (.ref a), some (.int (i : Int)), some (.ref tp), y3, y4, y5, y6, none, y8, y9, y10, none] ∧ ExL tp Pt HA H')
        (fun H1 e1 => ⟨_, _, _, _, _, _, _, rfl, ExL.ex lA e1⟩) ?_ ?_
      · rintro j σ HB hj ⟨y3, y4, y5, y6, y8, y9, y10, rfl, xB⟩
        -- letters
        refine ⟨_, rfl, by show 4 ≤ sizeLine; decide, fun pl hpl => ⟨tp, .ref pl, Lts 7, 4, rfl, xB.2.t.ex (Ex.new hpl), .inl ⟨pl, _, rfl, sq_of upd_same, rfl, fun y hy => ?_⟩, by decide, by decide, fun y d1 m1 hy ok1 => ?_⟩⟩
        · rcases List.mem_cons.mp hy with e | hy
          · rw [e]
            exact lts _ a_s (by decide) (by decide) (by decide)
          · rcases List.mem_cons.mp hy with e | hy
            · rw [e]
              exact lts _ ab_s (by decide) (by decide) (by decide)
            · rcases List.mem_cons.mp hy with e | hy
              · rw [e]
                exact lts _ abc_s (by decide) (by decide) (by decide)
              · rw [List.mem_singleton.mp hy]
                exact lts _ abcdxyz_s (by decide) (by decide) (by decide)
        · obtain ⟨l0, rfl, l1, l2, l3⟩ := hy
          have xC : ExL tp Pt HA (upd (upd HB pl (.lst [.str "a", .str "ab", .str "abc", .str "abcdxyz"])) tp (tapeO d1 m1)) := xB.trans (ExL.exT xB.2 ((ExT.new xB.2.t (ExT.refl xB.2.t) hpl).trans (ExT.draw ok1)))
          generalize upd (upd HB pl (.lst [.str "a", .str "ab", .str "abc", .str "abcdxyz"])) tp (tapeO d1 m1) = HC at *
          -- text
          refine ⟨_, rfl, _, rfl, _, rfl, by show 3 ≤ sizeLine; decide, fun pm hpm => ⟨tp, .ref pm, (fun v => ∃ z : Nat, v = .int (z : Int) ∧ z ≤ 40), 3, rfl, xC.2.t.ex (Ex.new hpm), .inl ⟨pm, _, rfl, sq_of upd_same, rfl, fun y hy => ?_⟩, by decide, by decide, ?_⟩⟩
          · rcases List.mem_cons.mp hy with e | hy
            · exact ⟨4, e, by decide⟩
            · rcases List.mem_cons.mp hy with e | hy
              · exact ⟨12, e, by decide⟩
              · exact ⟨40, List.mem_singleton.mp hy, by decide⟩
          · rintro y d2 m2 ⟨most, rfl, hmost⟩ ok2
            have xT : ExT tp HC (upd (upd HC pm (.lst [.int 4, .int 12, .int 40])) tp (tapeO d2 m2)) := (ExT.new xC.2.t (ExT.refl xC.2.t) hpm).trans (ExT.draw ok2)
            refine ⟨tp, l0, most, rfl, xT.2, l1, by omega, by omega, fun t HD hD1 hD2 xD2 => ?_⟩
            have xD : ExL tp Pt HA HD := xC.trans (ExL.exT xC.2 (xT.trans xD2))
            have ht : txtB t = true := nil_in hD2 l3
            have ht40 : t.length ≤ 40 := by omega
            clear xT xD2
            -- piece
            have small : ∀ {n : Nat}, n ≤ 100000 → ((n : Int)).natAbs < 2 ^ 1000 := fun {n} hn => Nat.lt_of_le_of_lt (show ((n : Int)).natAbs ≤ 100000 by omega) (Nat.lt_of_lt_of_le (show 100000 < 2 ^ 17 by decide) (two_mono (by decide)))
            refine ⟨_, rfl, rfl, _, rfl, t, rfl, by omega, fun pq hpq => ⟨pq, rfl, ⟨_, sq_of upd_same⟩, fun D hD => ?_⟩⟩
            have xq : ExT tp HD (upd HD pq (.lst (t.map fun c => vS [c]))) := ExT.new xD.2.t (ExT.refl xD.2.t) hpq
            have hq0 : upd HD pq (.lst (t.map fun c => vS [c])) pq = some (.lst (t.map fun c => vS [c])) := upd_same
            generalize upd HD pq (.lst (t.map fun c => vS [c])) = HQ at *
            have nDq : D ≠ pq := fun z => by
              rw [z, hq0] at hD
              cases hD
            have hDD : HD D = none := ExT.back xD.2.t xq hD
            have nDt : D ≠ tp := xD.2.t.ne hDD
            have npt : pq ≠ tp := xD.2.t.ne hpq
            refine lc_it (walk_list (K := K) (a := pq) (xs := t.map fun c => vS [c])) (fun i H' => ∃ cs : List Nat, H' D = some (.lst (cs.map fun c => vS [c])) ∧ cs.length ≤ i ∧ (∀ c ∈ cs, c ∈ t) ∧ ExT tp HD H' ∧ H' pq = some (.lst (t.map fun c => vS [c])))
              ⟨[], upd_same, Nat.le_refl _, fun c hc => (by cases hc), ExT.new xD.2.t xq hD, by
                rw [upd_ne nDq.symm]
                exact hq0⟩ (fun _ _ _ ⟨_, _, _, _, _, h9⟩ => sq_of h9) ?_ ?_
            · rintro q x H3 H4 hq ⟨cs, hD3, hcl, hcm, ex, hq3⟩ ⟨rfl, hx⟩
              have hqt : q < t.length := by
                rw [List.length_map] at hq
                exact hq
              have ex9 : x = vS [t[q]] := by
                rw [List.getElem?_map, List.getElem?_eq_getElem hqt] at hx
                exact (Option.some.inj hx).symm
              obtain ⟨d3, m3, ok3, ht3⟩ := ex.2
              refine ⟨rfl, _, rfl, tp, d3, m3, 2, rfl, ht3, ok3, by decide, small (n := 2) (by decide), fun r d4 m4 r0 r1 ok4 => ⟨rfl, _, rfl, ?_⟩⟩
              have keepD : upd H4 tp (tapeO d4 m4) D = some (.lst (cs.map fun c => vS [c])) := (upd_ne nDt).trans hD3
              have keepq : upd H4 tp (tapeO d4 m4) pq = some (.lst (t.map fun c => vS [c])) := (upd_ne npt).trans hq3
              refine ite2 (fun c => ?_) (fun c => ⟨cs, keepD, by omega, hcm, ex.trans (ExT.draw ok4), keepq⟩)
              refine ⟨_, congrArg (fun z => some (some z)) ex9, _, keepD, by
                rw [List.length_map]
                exact sz_lt (by rw [List.length_map] at hq; omega), cs ++ [t[q]], by
                rw [upd_same, List.map_append]
                rfl, by
                rw [List.length_append]
                show cs.length + 1 ≤ q + 1
                omega, fun z hz => ?_, ExT.mut (ex.trans (ExT.draw ok4)) xD.2.t hDD, by
                rw [upd_ne nDq.symm]
                exact keepq⟩
              rcases List.mem_append.mp hz with hz | hz
              · exact hcm z hz
              · rw [List.mem_singleton.mp hz]
                exact List.getElem_mem hqt
            · rintro H3 ⟨cs, hD3, hcl, hcm, ex, hq3⟩
              rw [List.length_map] at hcl
              refine ⟨_, D, cs.map fun c => mkS [c], rfl, rfl, .inl (sq_of (by
                rw [List.map_map]
                exact hD3)), by
                rw [ones_sum]
                show _ + _ * 0 ≤ _
                omega, ?_⟩
              rw [join_ones]
              refine ⟨_, rfl, _, rfl, tp, l0, 5, rfl, ex.2, l1, by omega, by decide, fun t2 HE hE1 hE2 xE => ⟨_, rfl, by show 4 ≤ sizeLine; decide, fun pl hpl => ⟨tp, .ref pl, Txts 40, 4, rfl, xE.2.ex (Ex.new hpl), .inl ⟨pl, _, rfl, sq_of upd_same, rfl, fun y hy => ?_⟩, by decide, by decide, ?_⟩⟩⟩
              · rcases List.mem_cons.mp hy with e | hy
                · exact ⟨cs, e, by omega, nil_in hcm ht⟩
                · rcases List.mem_cons.mp hy with e | hy
                  · exact ⟨t2, e, by omega, nil_in hE2 l3⟩
                  · rcases List.mem_cons.mp hy with e | hy
                    · exact ⟨t, e, ht40, ht⟩
                    · exact ⟨[], by rw [List.mem_singleton.mp hy, ← no_str], by decide, by decide⟩
              · rintro y d5 m5 ⟨p, rfl, hp40, hpt⟩ ok5
                have xF : ExL tp Pt HA (upd (upd HE pl (.lst [.str (mkS cs), vS t2, vS t, .str ""])) tp (tapeO d5 m5)) := xD.trans (ExL.exT xD.2 ((ExT.new xD.2.t (ex.trans xE) hpl).trans (ExT.draw ok5)))
                generalize upd (upd HE pl (.lst [.str (mkS cs), vS t2, vS t, .str ""])) tp (tapeO d5 m5) = HF at *
                -- due
                refine q_asg (v := .bl (decide (strip t p = []))) (ev_call (ea_cons (ev_var (v := vS t) rfl) (ea_cons (ev_var (v := vS p) rfl) ea_nil)) (fun H1 e Q q E => ⟨t, p, rfl, by omega, by omega, q⟩)) fun HG eG => ?_
                have hst := holds_strip t p
                rw [← hst]
                refine q_when (b := false) (et_is (et_test (ev_op (ev_reprL (K := K) (xs := [.bl (holdsB t p), .bl (holdsB t p)]) (show_b2 (holdsB t p)) (el_lst (ea_cons (ev_call (ea_cons (ev_var (v := vS t) rfl) (ea_cons (ev_var (v := vS p) rfl) ea_nil)) (spv_holds (by omega) (by omega) ht hpt)) (ea_cons (ev_kw (zs := [vS p, vS t]) (ea_cons (ev_var rfl) (ea_cons (ev_var rfl) ea_nil)) rfl (spv_holds (by omega) (by omega) ht hpt)) ea_nil)) (by show 2 ≤ 100000; decide)) (fun H9 e9 => .cons (.bl _) (.cons (.bl _) .nil)))
                  (ev_reprL (K := K) (xs := [.bl (holdsB t p), .bl (holdsB t p)]) (show_b2 (holdsB t p)) (el_lst (ea_cons (ev_var (i := 8) rfl) (ea_cons (ev_var (i := 8) rfl) ea_nil)) (by show 2 ≤ 100000; decide)) (fun H9 e9 => .cons (.bl _) (.cons (.bl _) .nil))) (rv_ne rfl))) (same_no rfl)) (fun z => by cases z) (fun _ HH eH => ?_)
                have xH : ExL tp Pt HA HH := xF.trans (ExL.ex xF.2 (eG.trans eH))
                cases hb : holdsB t p with
                | false =>
                  refine ⟨_, rfl, _, rfl, ite2 (fun _ => ?_) (fun z => absurd rfl z)⟩
                  -- what is no piece is refused, twice
                  refine ⟨xH.2.c, fun H1 eN T1 p1 hp1 => ⟨_, rfl, _, rfl, t, p, rfl, by omega, by omega, ht, hpt, hb, fun H2 d2 e2 hd2 => ⟨d2, vS p, rfl, rfl, upd_same, fun q1 hq1 => ⟨by show 1 ≤ sizeLine; decide, fun pT hpT => ?_⟩⟩⟩⟩
                  have x2 : ExL tp Pt HH (upd (upd H2 d2 (.xd [("value", vS p)])) q1 (.lst [vS p])) := (ExL.extN xH.2 eN T1).trans (ExL.ex ⟨(ExL.extN xH.2 eN T1).2.t, T1⟩ ((Ex.new hp1).trans (e2.trans ((Ex.new hd2).trans (Ex.new hq1)))))
                  have hq1b : upd (upd H2 d2 (.xd [("value", vS p)])) q1 (.lst [vS p]) q1 = some (.lst [vS p]) := upd_same
                  generalize upd (upd H2 d2 (.xd [("value", vS p)])) q1 (.lst [vS p]) = HI at *
                  have x3 : ExL tp Pt HH (upd HI pT (.lst [.ref q1])) := x2.trans (ExL.ex x2.2 (Ex.new hpT))
                  have nq1 : q1 ≠ pT := fun z => by
                    rw [z, hpT] at hq1b
                    cases hq1b
                  refine ⟨_, rfl, .inl ⟨rfl, _, sq_of upd_same⟩, x3.2.c, fun H3 eN3 T3 p3 hp3 => ⟨_, rfl, _, rfl, t, p, rfl, by omega, by omega, ht, hpt, hb, fun H4 d4 e4 hd4 => ⟨d4, vS p, rfl, rfl, upd_same, fun q2 hq2 => ?_⟩⟩⟩
                  have hT3 : H3 pT = some (.lst [.ref q1]) := eN3 _ _ upd_same (fun ps z => by cases z)
                  have hQ3 : H3 q1 = some (.lst [vS p]) := eN3 _ _ (by rw [upd_ne nq1]; exact hq1b) (fun ps z => by cases z)
                  have e5 : Ex H3 (upd (upd H4 d4 (.xd [("value", vS p)])) q2 (.lst [vS p])) := (Ex.new hp3).trans (e4.trans ((Ex.new hd4).trans (Ex.new hq2)))
                  have x5 : ExL tp Pt HI (upd (upd H4 d4 (.xd [("value", vS p)])) q2 (.lst [vS p])) := (ExL.ex x2.2 (Ex.new hpT)).trans ((ExL.extN x3.2 eN3 T3).trans (ExL.ex ⟨(ExL.extN x3.2 eN3 T3).2.t, T3⟩ e5))
                  have hT5 := e5 _ _ hT3
                  have hQ5 := e5 _ _ hQ3
                  have hq2b : upd (upd H4 d4 (.xd [("value", vS p)])) q2 (.lst [vS p]) q2 = some (.lst [vS p]) := upd_same
                  have nq2 : q2 ≠ pT := fun z => by
                    rw [z] at hq2
                    have h9 := ((Ex.new hp3).trans (e4.trans (Ex.new (o := .xd [("value", vS p)]) hd4))) _ _ hT3
                    rw [hq2] at h9
                    cases h9
                  generalize upd (upd H4 d4 (.xd [("value", vS p)])) q2 (.lst [vS p]) = HJ at *
                  refine ⟨pT, _, _, rfl, rfl, hT5, by show 1 < sizeLine; decide, ?_⟩
                  have x6 : ExL tp Pt HH (upd HJ pT (.lst ([.ref q1] ++ [.ref q2]))) := x2.mut hpT x5 hT5
                  have hT6 : upd HJ pT (.lst ([.ref q1] ++ [.ref q2])) pT = some (.lst [.ref q1, .ref q2]) := upd_same
                  have hQ6 : upd HJ pT (.lst ([.ref q1] ++ [.ref q2])) q1 = some (.lst [vS p]) := by
                    rw [upd_ne nq1]
                    exact hQ5
                  have hR6 : upd HJ pT (.lst ([.ref q1] ++ [.ref q2])) q2 = some (.lst [vS p]) := by
                    rw [upd_ne nq2]
                    exact hq2b
                  generalize upd HJ pT (.lst ([.ref q1] ++ [.ref q2])) = HK at *
                  refine ⟨_, rfl, _, rfl, by show 1 ≤ sizeLine; decide, fun r1 hr1 => ⟨_, rfl, by show 1 ≤ sizeLine; decide, fun r2 hr2 => ⟨by show 2 ≤ sizeLine; decide, fun r3 hr3 => ?_⟩⟩⟩
                  have e9 : Ex HK (upd (upd (upd HK r1 (.lst [vS p])) r2 (.lst [vS p])) r3 (.lst [.ref r1, .ref r2])) := (Ex.new hr1).trans ((Ex.new hr2).trans (Ex.new hr3))
                  have hr1b : upd (upd (upd HK r1 (.lst [vS p])) r2 (.lst [vS p])) r3 (.lst [.ref r1, .ref r2]) r1 = some (.lst [vS p]) := ((Ex.new hr2).trans (Ex.new hr3)) _ _ upd_same
                  have hr2b : upd (upd (upd HK r1 (.lst [vS p])) r2 (.lst [vS p])) r3 (.lst [.ref r1, .ref r2]) r2 = some (.lst [vS p]) := (Ex.new hr3) _ _ upd_same
                  have hr3b : upd (upd (upd HK r1 (.lst [vS p])) r2 (.lst [vS p])) r3 (.lst [.ref r1, .ref r2]) r3 = some (.lst [.ref r1, .ref r2]) := upd_same
                  generalize upd (upd (upd HK r1 (.lst [vS p])) r2 (.lst [vS p])) r3 (.lst [.ref r1, .ref r2]) = HL at *
                  have one : ∀ {x : Addr}, HL x = some (.lst [vS p]) → Dp K HL (.ref x) (.list [.str (mkS p)]) := fun h => .lst (sq_of h) (.cons (.str _) .nil)
                  have shp : SeqAt.shaped (.list [.list [.str (mkS p)], .list [.str (mkS p)]]) = true := shp_map (g := fun z : List Nat => PyData.list [.str (mkS z)]) (xs := [p, p]) (fun x hx => by
                    have ex : x = p := by
                      rcases List.mem_cons.mp hx with e | hx
                      · exact e
                      · exact List.mem_singleton.mp hx
                    rw [ex]
                    show (PyData.canLay0 (.str (mkS p)) && true) = true
                    rw [str_ok hpt] <;> rfl) (fun x _ => by show max 0 0 + 1 ≤ 60; decide)
                  refine ⟨_, _, .lst (sq_of (e9 _ _ hT6)) (.cons (one (e9 _ _ hQ6)) (.cons (one (e9 _ _ hR6)) .nil)), .lst (sq_of hr3b) (.cons (one hr1b) (.cons (one hr2b) .nil)), shp, shp, _, rfl, ?_⟩
                  have same : PyData.eqv (.list [.list [.str (mkS p)], .list [.str (mkS p)]]) (.list [.list [.str (mkS p)], .list [.str (mkS p)]]) = true := by
                    show (((mkS p == mkS p) && true) && (((mkS p == mkS p) && true) && true)) = true
                    simp
                  rw [same]
                  refine ite2 (fun z => by cases z) (fun _ => ?_)
                  exact ⟨_, _, _, _, _, _, _, rfl, xH.trans (x6.trans (ExL.ex x6.2 e9))⟩
                | true =>
                  refine ⟨_, rfl, _, rfl, ite2 (fun z => by cases z) (fun _ => ?_)⟩
                  have spF : ∀ H9 : Hp, SpL spFirst [vS t, vS p] H9 (natV (reach t 0 p)) := fun H9 H1 e Q q E => ⟨t, p, rfl, by omega, by omega, ht, hpt, hb, q⟩
                  have spLs : ∀ H9 : Hp, SpL spLast [vS t, vS p] H9 (natV (lastM t p)) := fun H9 H1 e Q q E => ⟨t, p, rfl, by omega, by omega, ht, hpt, hb, q⟩
                  have spLF : ∀ H9 : Hp, SpL spLFirst [vS t, vS p] H9 (natV (reach t 0 p)) := fun H9 H1 e Q q E => ⟨t, p, rfl, by omega, by omega, q⟩
                  have argTP : ∀ {σ9 : L2.St} {H9 : Hp}, σ9[5]? = some (some (vS t)) → σ9[6]? = some (some (vS p)) → EvA (tCons (tVar 5) (tCons (tVar 6) tNil)) σ9 H9 [vS t, vS p] := fun h5 h6 => ea_cons (ev_var h5) (ea_cons (ev_var h6) ea_nil)
                  have argPT : ∀ {σ9 : L2.St} {H9 : Hp}, σ9[5]? = some (some (vS t)) → σ9[6]? = some (some (vS p)) → EvA (tCons (tVar 6) (tCons (tVar 5) tNil)) σ9 H9 [vS p, vS t] := fun h5 h6 => ea_cons (ev_var h6) (ea_cons (ev_var h5) ea_nil)
                  have hrl := reach_len t p 0
                  have hrb := reach_bd (l := t) p 0
                  have hlb : ∀ k ∈ lastM t p, k < 1000000 := fun k hk => by
                    obtain ⟨z, _, rfl⟩ := List.mem_map.mp hk
                    omega
                  have hll : (lastM t p).length ≤ 2000 := by
                    have h9 := reach_len t.reverse p.reverse 0
                    unfold lastM
                    rw [List.length_map, List.length_reverse]
                    rw [List.length_reverse] at h9
                    omega
                  have hsh : ShowOk (nestD (reach t 0 p) (lastM t p)) := nest_show (by omega) hll (fun k hk => by have := hrb k hk; omega) hlb
                  -- ends
                  have ge : EvL (tLc (iList K (tRevL K (tCall spLFirst [] E0 (tCons (tRevS (tVar 5)) (tCons (tRevS (tVar 6)) tNil))))) (gName 11) tYes (tOp (rI0 fun i j => .int (i - j)) (tOp (rI0 fun i j => .int (i - j)) (tCB rLenT (tCons (tVar 5) tNil)) (tC (.int 1))) (tVar 11)) [11]) [some (.ref a), some (.int (i : Int)), some (.ref tp), some (.int (j : Int)), some (vS l0), some (vS t), some (vS p), none, some (.bl true), y9, y10, none] HH (natV (lastM t p)) := by
                    have hbd := reach_bd (l := t.reverse) p.reverse 0
                    have hlm : lastM t p = (reach t.reverse 0 p.reverse).reverse.map fun k => t.length - 1 - k := rfl
                    have hq9 := reach_len t.reverse p.reverse 0
                    rw [List.length_reverse] at hq9
                    have gl := el_call (sp := spLFirst) (dvs := []) (E := E0) (vs := [vS t.reverse, vS p.reverse]) (ta := tCons (tRevS (tVar 5)) (tCons (tRevS (tVar 6)) tNil)) (σ := [some (.ref a), some (.int (i : Int)), some (.ref tp), some (.int (j : Int)), some (vS l0), some (vS t), some (vS p), none, some (.bl true), y9, y10, none]) (H := HH) (ea_cons (ev_revS (ev_var (v := vS t) rfl) (by omega)) (ea_cons (ev_revS (ev_var (v := vS p) rfl) (by omega)) ea_nil)) (fun H1 e Q q E => ⟨t.reverse, p.reverse, rfl, by rw [List.length_reverse]; omega, by rw [List.length_reverse]; omega, q⟩ : SpL spLFirst [vS t.reverse, vS p.reverse] HH (natV (reach t.reverse 0 p.reverse)))
                    generalize reach t.reverse 0 p.reverse = B at *
                    have er : (natV B).reverse = natV B.reverse := by
                      unfold natV
                      rw [List.map_reverse]
                    have g := el_lcY (j := 11) (vs := [11]) (te := tOp (rI0 fun i j => .int (i - j)) (tOp (rI0 fun i j => .int (i - j)) (tCB rLenT (tCons (tVar 5) tNil)) (tC (.int 1))) (tVar 11)) (fun q => .int ((t.length - 1 - B.reverse.getD q 0 : Nat) : Int)) (ew_listN (K := K) (el_is (el_revL (K := K) gl) er)) (by rw [natV_len, List.length_reverse]; omega) (fun x => rfl) (fun q H8 e8 hq => by
                      rw [natV_len] at hq
                      have ei : (natV B.reverse).getD q V.non = .int ((B.reverse.getD q 0 : Nat) : Int) := by
                        unfold natV
                        rw [List.getD_eq_getElem?_getD, List.getElem?_map, List.getD_eq_getElem?_getD, List.getElem?_eq_getElem hq]
                        rfl
                      rw [ei]
                      have hb9 := hbd (B.reverse.getD q 0) (by
                        rw [List.getD_eq_getElem?_getD, List.getElem?_eq_getElem hq]
                        exact List.mem_reverse.mp (List.getElem_mem hq))
                      rw [List.length_reverse] at hb9
                      refine ev_is (ev_op (ev_op (ev_cb (ea_cons (ev_var (v := vS t) rfl) ea_nil) (rc_lenS (by omega))) (ev_c (v := V.int 1)) (rv_I0 (g := fun i j => .int (i - j)))) (ev_var rfl) (rv_I0 (g := fun i j => .int (i - j)))) ?_
                      show V.int _ = V.int _
                      congr 1
                      omega)
                    refine el_is g ?_
                    rw [natV_len, hlm]
                    unfold natV
                    apply List.ext_getElem
                    · simp
                    · intro q h1' h2'
                      simp only [List.length_map, List.length_range] at h1'
                      simp only [List.getElem_map, List.getElem_range]
                      rw [List.getD_eq_getElem?_getD, List.getElem?_eq_getElem h1']
                      rfl
                  refine q_asgL ge fun pE HI hpE eI hE => ?_
                  have xI : ExL tp Pt HA HI := xH.trans (ExL.ex xH.2 eI)
                  -- told
                  refine ⟨_, rfl, _, rfl, t, p, rfl, by omega, by omega, ht, hpt, hb, fun f1 HJ hf1 eJ hJ => ⟨_, rfl, _, rfl, t, p, rfl, by omega, by omega, ht, hpt, hb, fun f2 HK hf2 eK hK => ⟨by show 2 ≤ sizeLine; decide, fun pT hpT => ?_⟩⟩⟩
                  have n12 : f2 ≠ f1 := fun z => by
                    rw [z, hJ] at hf2
                    cases hf2
                  have nT1 : pT ≠ f1 := fun z => by
                    rw [z, eK _ _ hJ] at hpT
                    cases hpT
                  have nT2 : pT ≠ f2 := fun z => by
                    rw [z, hK] at hpT
                    cases hpT
                  have eL : Ex HI (upd HK pT (.lst [.ref f1, .ref f2])) := eJ.trans (eK.trans (Ex.new hpT))
                  have hL1 : upd HK pT (.lst [.ref f1, .ref f2]) f1 = some (.lst (natV (reach t 0 p))) := by
                    rw [upd_ne nT1.symm]
                    exact eK _ _ hJ
                  have hL2 : upd HK pT (.lst [.ref f1, .ref f2]) f2 = some (.lst (natV (lastM t p))) := by
                    rw [upd_ne nT2.symm]
                    exact hK
                  have hLT : upd HK pT (.lst [.ref f1, .ref f2]) pT = some (.lst [.ref f1, .ref f2]) := upd_same
                  have hLE := eL _ _ hE
                  generalize upd HK pT (.lst [.ref f1, .ref f2]) = HL at *
                  have cnd1 : EvT (tTest (tOp rNe (tCB (rReprD K) (tCons (tVar 9) tNil)) (tCB (rReprD K) (tCons (tLst (tCons (tCall spLFirst [] E0 (tCons (tVar 5) (tCons (tVar 6) tNil))) (tCons (tVar 10) tNil))) tNil)))) [some (.ref a), some (.int (i : Int)), some (.ref tp), some (.int (j : Int)), some (vS l0), some (vS t), some (vS p), none, some (.bl true), some (.ref pT), some (.ref pE), none] HL false :=
                    et_is (et_test (ev_op (ev_repr (K := K) hsh (ev_var (i := 9) rfl) fun H9 e9 => dp_nest (e9 _ _ hLT) (e9 _ _ hL1) (e9 _ _ hL2))
                      (z := .bl false) (y := .str (PyData.shown (nestD (reach t 0 p) (lastM t p)))) (fun H9 e9 Q9 q9 => el_call (dvs := []) (argTP rfl rfl) (spLF _) H9 (Ex.refl _) _ fun g1 Ha hg1 ea ha => ⟨_, rfl, by show 2 ≤ sizeLine; decide, fun pl hpl => ⟨.ref pl, nestD (reach t 0 p) (lastM t p), rfl, dp_nest upd_same (Ex.new hpl _ _ ha) (Ex.new hpl _ _ (ea _ _ (e9 _ _ hLE))), hsh.sh, hsh.nd, hsh.dp, hsh.sz, q9 _ (ea.trans (Ex.new hpl))⟩⟩)
                      (by
                        have h9 := rv_ne (H := HL) (x := .str (PyData.shown (nestD (reach t 0 p) (lastM t p)))) (y := .str (PyData.shown (nestD (reach t 0 p) (lastM t p)))) rfl
                        rw [same_no rfl] at h9
                        exact h9))) rfl
                  refine q_when (b := false) (et_is (et_or (a := false) cnd1 (fun _ => (show EvT _ _ _ false from fun H9 e9 Q9 q9 => ?_))) rfl) (fun z => by cases z) (fun _ HM eM => ?_)
                  · refine ⟨_, rfl, _, rfl, rfl, t, p, rfl, by omega, by omega, ht, hpt, hb, fun g1 Ha hg1 ea ha => ⟨_, rfl, _, rfl, rfl, t, p, rfl, by omega, by omega, ht, hpt, hb, fun g2 Hb hg2 ebb hbb => ⟨by show 2 ≤ sizeLine; decide, fun pl hpl => ⟨_, rfl, nestD (reach t 0 p) (lastM t p), nestD (reach t 0 p) (lastM t p), dp_nest upd_same (Ex.new hpl _ _ (ebb _ _ ha)) (Ex.new hpl _ _ hbb), dp_nest ((e9.trans (ea.trans (ebb.trans (Ex.new hpl)))) _ _ hLT) ((e9.trans (ea.trans (ebb.trans (Ex.new hpl)))) _ _ hL1) ((e9.trans (ea.trans (ebb.trans (Ex.new hpl)))) _ _ hL2), nest_shp _ _, nest_shp _ _, _, rfl, ?_⟩⟩⟩⟩
                    rw [nest_same]
                    exact q9 _ (ea.trans (ebb.trans (Ex.new hpl)))
                  · have hMT := eM _ _ hLT
                    have hM1 := eM _ _ hL1
                    have hM2 := eM _ _ hL2
                    have hME := eM _ _ hLE
                    refine ⟨_, rfl, pT, _, ((0 : Nat) : Int), .ref f1, rfl, rfl, sq_of hMT, atI_nat rfl, .inl ⟨rfl, _, sq_of hM1⟩, f1, _, _, rfl, rfl, hM1, by rw [natV_len]; exact sz_lt (by omega), ?_⟩
                    have hN2 : upd HM f1 (.lst (natV (reach t 0 p) ++ [.non])) f2 = some (.lst (natV (lastM t p))) := by
                      rw [upd_ne n12]
                      exact hM2
                    refine ⟨_, rfl, pT, _, ((1 : Nat) : Int), .ref f2, rfl, rfl, sq_of ((upd_ne nT1).trans hMT), atI_nat rfl, .inl ⟨rfl, _, sq_of hN2⟩, f2, _, rfl, rfl, hN2, ?_⟩
                    have hf1I : HI f1 = none := hf1
                    have hf2I : HI f2 = none := fresh_back eJ hf2
                    have eN : Ex HI (upd (upd HM f1 (.lst (natV (reach t 0 p) ++ [.non]))) f2 (.lst [])) := Ex.mut (Ex.mut (eL.trans eM) hf1I) hf2I
                    have hNE : upd (upd HM f1 (.lst (natV (reach t 0 p) ++ [.non]))) f2 (.lst []) pE = some (.lst (natV (lastM t p))) := eN _ _ hE
                    generalize upd (upd HM f1 (.lst (natV (reach t 0 p) ++ [.non]))) f2 (.lst []) = HN at *
                    refine ⟨_, rfl, _, rfl, t, p, rfl, by omega, by omega, ht, hpt, hb, fun g1 Ha hg1 ea ha => ⟨_, rfl, _, rfl, t, p, rfl, by omega, by omega, ht, hpt, hb, fun g2 Hb hg2 ebb hbb => ⟨by show 2 ≤ sizeLine; decide, fun pl hpl => ⟨_, rfl, _, rfl, t, p, rfl, by omega, by omega, fun g3 Hc hg3 ec hc => ⟨_, rfl, by show 2 ≤ sizeLine; decide, fun pl2 hpl2 => ⟨nestD (reach t 0 p) (lastM t p), nestD (reach t 0 p) (lastM t p), dp_nest ((ec.trans (Ex.new hpl2)) _ _ upd_same) (((Ex.new hpl).trans (ec.trans (Ex.new hpl2))) _ _ (ebb _ _ ha)) (((Ex.new hpl).trans (ec.trans (Ex.new hpl2))) _ _ hbb), dp_nest upd_same (Ex.new hpl2 _ _ hc) (((ea.trans (ebb.trans ((Ex.new hpl).trans (ec.trans (Ex.new hpl2)))))) _ _ hNE), nest_shp _ _, nest_shp _ _, _, rfl, ?_⟩⟩⟩⟩⟩⟩
                    rw [nest_same]
                    refine ite2 (fun z => by cases z) (fun _ => ?_)
                    exact ⟨_, _, _, _, _, _, _, rfl, xI.trans (ExL.ex xI.2 (eN.trans (ea.trans (ebb.trans ((Ex.new hpl).trans (ec.trans (Ex.new hpl2)))))))⟩
      · rintro σ HB ⟨y3, y4, y5, y6, y8, y9, y10, rfl, xB⟩
        exact ⟨_, _, _, _, _, _, _, _, _, rfl, xB.sq lA.t hSA, xB.2.c⟩
    · rintro σ H' ⟨x1, x2, x3, x4, x5, x6, x8, x9, x10, rfl, hS', hTab'⟩
      refine s_ret (v := .bl true) (ev_is (ev_andV (a := true) (b := true) (ev_is (ev_op (ev_call (ea_cons (ev_txt no_str) (ea_cons (ev_txt no_str) ea_nil)) (spv_holds (l := []) (p := []) (by decide) (by decide) (by decide) (by decide))) (ev_c (v := V.bl true)) (rv_val fun H1 e Q1 q => ?_)) rfl)
        (fun _ => ev_is (ev_opLL (xs := []) (ys := []) (el_call (vs := [vS [97, 98], vS []]) (ea_cons (ev_txt ab_s) (ea_cons (ev_txt no_str) ea_nil)) (show SpL spFirst [vS [97, 98], vS []] H' [] from fun H1 e Q q E => ⟨[97, 98], [], rfl, by decide, by decide, by decide, by decide, by decide, q⟩)) (el_lst ea_nil (by decide)) fun p1 p2 H9 h1 h2 e9 => rv_eqP plain_int (xs := []) (ys := []) (fun _ _ => trivial) (fun _ _ => trivial) (sq_of h1) (sq_of h2)) rfl)) rfl) (fun H1 e1 => k H1)
      exact ⟨_, _, rfl, rfl, q⟩
end
def dd_is_text : He.DefD := ⟨("is_text", none), "is_text", "is_text", defArgs s_is_text, defBody s_is_text, defScope s_is_text, [], []⟩
def dd_check_text : He.DefD := ⟨("check_text", none), "check_text", "check_text", defArgs s_check_text, defBody s_check_text, defScope s_check_text, [], []⟩
def dd_reached_places : He.DefD := ⟨("reached_places", none), "reached_places", "reached_places", defArgs s_reached_places, defBody s_reached_places, defScope s_reached_places, [], []⟩
def dd_is_piece : He.DefD := ⟨("is_piece", none), "is_piece", "is_piece", defArgs s_is_piece, defBody s_is_piece, defScope s_is_piece, [], []⟩
def dd_holds : He.DefD := ⟨("holds", none), "holds", "holds", defArgs s_holds, defBody s_holds, defScope s_holds, [], []⟩
def dd_first_places : He.DefD := ⟨("first_places", none), "first_places", "first_places", defArgs s_first_places, defBody s_first_places, defScope s_first_places, [], []⟩
def dd_last_places : He.DefD := ⟨("last_places", none), "last_places", "last_places", defArgs s_last_places, defBody s_last_places, defScope s_last_places, [], []⟩
def dd__law_tape : He.DefD := ⟨("_law_tape", none), "_law_tape", "_law_tape", defArgs s__law_tape, defBody s__law_tape, defScope s__law_tape, [], []⟩
def dd__law_pick : He.DefD := ⟨("_law_pick", none), "_law_pick", "_law_pick", defArgs s__law_pick, defBody s__law_pick, defScope s__law_pick, [], []⟩
def dd__law_one_of : He.DefD := ⟨("_law_one_of", none), "_law_one_of", "_law_one_of", defArgs s__law_one_of, defBody s__law_one_of, defScope s__law_one_of, [], []⟩
def dd__law_drawn_text : He.DefD := ⟨("_law_drawn_text", none), "_law_drawn_text", "_law_drawn_text", defArgs s__law_drawn_text, defBody s__law_drawn_text, defScope s__law_drawn_text, [], []⟩
def dd__law_holds : He.DefD := ⟨("_law_holds", none), "_law_holds", "_law_holds", defArgs s__law_holds, defBody s__law_holds, defScope s__law_holds, [], []⟩
def dd__law_refused : He.DefD := ⟨("_law_refused", none), "_law_refused", "_law_refused", defArgs s__law_refused, defBody s__law_refused, defScope s__law_refused, [], []⟩
def dd__law_first : He.DefD := ⟨("_law_first", none), "_law_first", "_law_first", defArgs s__law_first, defBody s__law_first, defScope s__law_first, [], []⟩
def dd_law : He.DefD := ⟨("law", none), "law", "law", defArgs s_law, defBody s_law, defScope s_law, [], []⟩
def de_BadText : He.DefD := ⟨("BadText", some "__init__"), "__init__", "BadText.__init__", defArgs si_BadText, defBody si_BadText, defScope si_BadText, [], []⟩
def de_NoPiece : He.DefD := ⟨("NoPiece", some "__init__"), "__init__", "NoPiece.__init__", defArgs si_NoPiece, defBody si_NoPiece, defScope si_NoPiece, [], []⟩
def fn : List He.DefD := [dd_is_text, dd_check_text, dd_reached_places, dd_is_piece, dd_holds, dd_first_places, dd_last_places, dd__law_tape, dd__law_pick, dd__law_one_of, dd__law_drawn_text, dd__law_holds, dd__law_refused, dd__law_first, dd_law, de_BadText, de_NoPiece]
def fa : List He.Fa := [.glo "is_text", .glo "check_text", .glo "reached_places", .glo "is_piece", .glo "holds", .glo "first_places", .glo "last_places", .glo "_law_tape", .glo "_law_pick", .glo "_law_one_of", .glo "_law_drawn_text", .glo "_law_holds", .glo "_law_refused", .glo "_law_first", .glo "law", .free "isinstance", .free "str", .free "all", .free "int", .free "bool", .free "range", .free "reversed", .free "len", .free "list", .free "min", .free "max", .free "repr", .free "enumerate", .str "ALPHABET" v_ALPHABET, .glo "BadText", .glo "NoPiece", .exm "BadText" "BadText" true, .exm "BadText" "NoPiece" false, .exm "NoPiece" "BadText" false, .exm "NoPiece" "NoPiece" true]
def exB (K : PySem.W.Frag) : Bool := errB K (He.ga K "BadText") (He.ma K (He.ga K "BadText") "__init__") && errB K (He.ga K "NoPiece") (He.ma K (He.ga K "NoPiece") "__init__")
def tf : List He.Defn := [("law", none)]
abbrev R : PySem.W.OpenRow := PySem.W.OpenLaw.row PySem.Challenge.rw_scatteredpieces_k03_first_and_last_place
abbrev hk : PySem.W.Hook := He.hookX 4 fa fn [] tf exB
def ob (s : PySem.W.SharedT) : He.AlX := He.obsX 4 fa fn [] tf exB (HandSHeadRun.getT s)
theorem ob_eq (s : PySem.W.SharedT) : ob s = hk.obs s.abs := He.obsX_eq (HandSHeadRun.getT_eq s)
def loose : List PySem.Str := ["PieceError", "BadText", "NoPiece", "ALPHABET", "is_text", "check_text", "reached_places", "is_piece", "holds", "first_places", "last_places", "_law_tape", "_law_pick", "_law_one_of", "_law_drawn_text", "_law_holds", "_law_refused", "_law_first"]
theorem run (w : World) : HandSHeadRun.RunEq R (PySem.W.view R.prog [21]) hk ob 6000 loose w := by
  intro os
  kernel_rfl
theorem facts {K : PySem.W.Frag} {h : Heap} {mg : Str → Option Value} {f : Addr} {w : World} (X : K.In h) (G : h.Ns mainGlobals mg) (hfa : mg ("law" : Str) = some (.ref f)) (c0 : He.SaysX fa fn [] tf exB w h K) : ∃ T : Txt K mg, f = T.a_law ∧ f = He.fAd K ("law", none) := by
  have c : He.SaysD fa fn K := congrArg (fun z : He.AlT => z.1) c0.t
  obtain ⟨fd_is_text, F_is_text⟩ := c.def_ 0 (d := dd_is_text) rfl
  obtain ⟨fd_check_text, F_check_text⟩ := c.def_ 1 (d := dd_check_text) rfl
  obtain ⟨fd_reached_places, F_reached_places⟩ := c.def_ 2 (d := dd_reached_places) rfl
  obtain ⟨fd_is_piece, F_is_piece⟩ := c.def_ 3 (d := dd_is_piece) rfl
  obtain ⟨fd_holds, F_holds⟩ := c.def_ 4 (d := dd_holds) rfl
  obtain ⟨fd_first_places, F_first_places⟩ := c.def_ 5 (d := dd_first_places) rfl
  obtain ⟨fd_last_places, F_last_places⟩ := c.def_ 6 (d := dd_last_places) rfl
  obtain ⟨fd__law_tape, F__law_tape⟩ := c.def_ 7 (d := dd__law_tape) rfl
  obtain ⟨fd__law_pick, F__law_pick⟩ := c.def_ 8 (d := dd__law_pick) rfl
  obtain ⟨fd__law_one_of, F__law_one_of⟩ := c.def_ 9 (d := dd__law_one_of) rfl
  obtain ⟨fd__law_drawn_text, F__law_drawn_text⟩ := c.def_ 10 (d := dd__law_drawn_text) rfl
  obtain ⟨fd__law_holds, F__law_holds⟩ := c.def_ 11 (d := dd__law_holds) rfl
  obtain ⟨fd__law_refused, F__law_refused⟩ := c.def_ 12 (d := dd__law_refused) rfl
  obtain ⟨fd__law_first, F__law_first⟩ := c.def_ 13 (d := dd__law_first) rfl
  obtain ⟨fd_law, F_law⟩ := c.def_ 14 (d := dd_law) rfl
  obtain ⟨fe_BadText, G_BadText⟩ := c.def_ 15 (d := de_BadText) rfl
  obtain ⟨fe_NoPiece, G_NoPiece⟩ := c.def_ 16 (d := de_NoPiece) rfl
  obtain ⟨t_ALPHABET, c_ALPHABET⟩ := He.str_ok X G (c.fact 28 (f := .str "ALPHABET" v_ALPHABET) rfl)
  have cx := c0.more
  simp only [exB, Bool.and_eq_true] at cx
  obtain ⟨e_BadText, e_NoPiece⟩ := cx
  have e := hfa.symm.trans (He.glo_ok X G (c.fact 14 (f := .glo "law") rfl))
  cases e
  refine ⟨{
    a_is_text := _, d_is_text := fd_is_text, F_is_text := F_is_text, g_is_text := He.glo_ok X G (c.fact 0 (f := .glo "is_text") rfl),
    a_check_text := _, d_check_text := fd_check_text, F_check_text := F_check_text, g_check_text := He.glo_ok X G (c.fact 1 (f := .glo "check_text") rfl),
    a_reached_places := _, d_reached_places := fd_reached_places, F_reached_places := F_reached_places, g_reached_places := He.glo_ok X G (c.fact 2 (f := .glo "reached_places") rfl),
    a_is_piece := _, d_is_piece := fd_is_piece, F_is_piece := F_is_piece, g_is_piece := He.glo_ok X G (c.fact 3 (f := .glo "is_piece") rfl),
    a_holds := _, d_holds := fd_holds, F_holds := F_holds, g_holds := He.glo_ok X G (c.fact 4 (f := .glo "holds") rfl),
    a_first_places := _, d_first_places := fd_first_places, F_first_places := F_first_places, g_first_places := He.glo_ok X G (c.fact 5 (f := .glo "first_places") rfl),
    a_last_places := _, d_last_places := fd_last_places, F_last_places := F_last_places, g_last_places := He.glo_ok X G (c.fact 6 (f := .glo "last_places") rfl),
    a__law_tape := _, d__law_tape := fd__law_tape, F__law_tape := F__law_tape, g__law_tape := He.glo_ok X G (c.fact 7 (f := .glo "_law_tape") rfl),
    a__law_pick := _, d__law_pick := fd__law_pick, F__law_pick := F__law_pick, g__law_pick := He.glo_ok X G (c.fact 8 (f := .glo "_law_pick") rfl),
    a__law_one_of := _, d__law_one_of := fd__law_one_of, F__law_one_of := F__law_one_of, g__law_one_of := He.glo_ok X G (c.fact 9 (f := .glo "_law_one_of") rfl),
    a__law_drawn_text := _, d__law_drawn_text := fd__law_drawn_text, F__law_drawn_text := F__law_drawn_text, g__law_drawn_text := He.glo_ok X G (c.fact 10 (f := .glo "_law_drawn_text") rfl),
    a__law_holds := _, d__law_holds := fd__law_holds, F__law_holds := F__law_holds, g__law_holds := He.glo_ok X G (c.fact 11 (f := .glo "_law_holds") rfl),
    a__law_refused := _, d__law_refused := fd__law_refused, F__law_refused := F__law_refused, g__law_refused := He.glo_ok X G (c.fact 12 (f := .glo "_law_refused") rfl),
    a__law_first := _, d__law_first := fd__law_first, F__law_first := F__law_first, g__law_first := He.glo_ok X G (c.fact 13 (f := .glo "_law_first") rfl),
    a_law := _, d_law := fd_law, F_law := F_law, g_law := He.glo_ok X G (c.fact 14 (f := .glo "law") rfl),
    C_BadText := _, fI_BadText := _, dI_BadText := fe_BadText, I_BadText := G_BadText, m_BadText := He.glo_ok X G (c.fact 29 (f := .glo "BadText") rfl), E_BadText := errB_ok e_BadText,
    C_NoPiece := _, fI_NoPiece := _, dI_NoPiece := fe_NoPiece, I_NoPiece := G_NoPiece, m_NoPiece := He.glo_ok X G (c.fact 30 (f := .glo "NoPiece") rfl), E_NoPiece := errB_ok e_NoPiece,
    x_BadText_BadText := of_decide_eq_true (c.fact 31 (f := .exm "BadText" "BadText" true) rfl),
    x_BadText_NoPiece := of_decide_eq_true (c.fact 32 (f := .exm "BadText" "NoPiece" false) rfl),
    x_NoPiece_BadText := of_decide_eq_true (c.fact 33 (f := .exm "NoPiece" "BadText" false) rfl),
    x_NoPiece_NoPiece := of_decide_eq_true (c.fact 34 (f := .exm "NoPiece" "NoPiece" true) rfl),
    n_isinstance := He.free_ok X G (c.fact 15 (f := .free "isinstance") rfl),
    n_str := He.free_ok X G (c.fact 16 (f := .free "str") rfl),
    n_all := He.free_ok X G (c.fact 17 (f := .free "all") rfl),
    n_int := He.free_ok X G (c.fact 18 (f := .free "int") rfl),
    n_bool := He.free_ok X G (c.fact 19 (f := .free "bool") rfl),
    n_range := He.free_ok X G (c.fact 20 (f := .free "range") rfl),
    n_reversed := He.free_ok X G (c.fact 21 (f := .free "reversed") rfl),
    n_len := He.free_ok X G (c.fact 22 (f := .free "len") rfl),
    n_list := He.free_ok X G (c.fact 23 (f := .free "list") rfl),
    n_min := He.free_ok X G (c.fact 24 (f := .free "min") rfl),
    n_max := He.free_ok X G (c.fact 25 (f := .free "max") rfl),
    n_repr := He.free_ok X G (c.fact 26 (f := .free "repr") rfl),
    n_enumerate := He.free_ok X G (c.fact 27 (f := .free "enumerate") rfl),
    t_ALPHABET := t_ALPHABET, c_ALPHABET := c_ALPHABET }, rfl, rfl⟩
end My
open PySem PySem.W PySem.Calls PyProof.Rows
theorem PySem.Challenge.cw_scatteredpieces_k03_first_and_last_place_holds : PySem.Challenge.rw_scatteredpieces_k03_first_and_last_place.Holds := by
  w_on; o_law
  refine HandSHeadRun.head_any (r := My.R) (q := view My.R.prog [21]) (H := My.hk) (ob := My.ob) (M := 6000) (loose := My.loose) (d := HandSHeadRun.topDef My.R.prog 21) (kwd := []) My.ob_eq
    (by kernel_rfl) (fun s => by kernel_rfl) My.run (by kernel_rfl) (by kernel_rfl) (by kernel_rfl) (by rfl) (by first | assumption | decide +kernel) (by decide +kernel) ⟨rfl, rfl, rfl, rfl, rfl, by decide +kernel⟩ ?hw ?hc
  case hw => w_witness2
  case hc =>
    refine My.walk_tabsG (l := PySem.Challenge.rw_scatteredpieces_k03_first_and_last_place) (n := 63) (k := 9) (x := "script") (CX := fun _ => L2.CX0) rfl (by decide) (by kernel_rfl) ⟨rfl, by decide, by decide⟩ ?F (fun _ _ _ _ _ z => z)
    intro w mg fa h Y G hmg0
    obtain ⟨K, KX, c⟩ := Y
    have hmg : mg ("law" : PySem.Str) = some (.ref fa) := by
      have e : (HandSHeadRun.topDef My.R.prog 21).name = ("law" : PySem.Str) := by kernel_rfl
      rw [← e]
      exact hmg0
    obtain ⟨T, rfl, ea⟩ := My.facts KX G hmg c
    have hm : (("law", none) : He.Defn) ∈ My.tf := List.mem_cons_self
    exact ⟨K, KX, T.d_law, [He.cT K ("law", none)], My.spLawT K (He.cT K ("law", none)).2, fun t ht => by
      rw [List.mem_singleton.mp ht]
      exact c.empty _ hm, fun t ht => by
      rw [List.mem_singleton.mp ht]
      exact c.out _ hm, fun t ht => by
      rw [List.mem_singleton.mp ht]
      exact PySem.W.codeHd_of_K KX (c.hd _ hm), fun s v => L2.FunD.bindsA (ps := ["script"]) T.F_law (fun _ _ _ _ _ _ us hl => match us, hl with | [_], _ => rfl) s [v] rfl, fun H a ns hl hb hH hS => ⟨a, ns, rfl, hS, hl, hb, fun p hp => by
      rw [List.mem_singleton.mp hp]
      exact LamX.TabS.nil (hH _ List.mem_cons_self), fun _ => rfl⟩, fun base _ _ hT => My.ok_law T ea (hT _ List.mem_cons_self)⟩

