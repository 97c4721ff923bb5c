import PyProof.Rows.All
import Wide.All
import OpenK.AllK
import Wide.FinOn
import KE.KStateDown
import KE.SortData
import KE.KItemsList
import KE.GoesMore
import HandS.ForMost
import HandS.Evl
import HandS.Wide
import HandS.WideBits
import HandS.StrMore
import HandS.Style
import HandS.RevRange
import HandS.IsInst
import HandS.EndBits
import HandS.Defaults
import HandS.Exc
import HandS.TupLe
import HandS.Steps
import HandS.More
import HandS.ListItems
import HandS.Walk
import HandS.Head0
import HandS.Head1
import HandS.Head2
import HandS.HeadEnd
import HandS.HeadHook1
import HandS.HeadHook2
import PySem.Challenge.RW_scatteredpieces_k10_counts_by_hand
set_option Elab.async false
set_option linter.all false
set_option maxRecDepth 100000
set_option maxHeartbeats 4000000
--@defs is_text is_from_zero check_text check_length followers reached_places is_piece holds first_places counts_onward counts nth_piece number_of _law_tape _law_pick _law_choices _law_first law
--@free isinstance str all int bool range reversed len dict sorted enumerate sum list min max
--@const ALPHABET:str
--@sig is_text(value:str) -> bool
--@sig is_from_zero(value:int) -> bool
--@sig check_text(value:str) -> none
--@sig check_length(value:int) -> none
--@sig followers(text:str) -> list[dict[str,int]]
--@sig reached_places(text:str, piece:str) -> list[int]
--@sig is_piece(text:str, piece:str) -> bool
--@sig holds(text:str, piece:str) -> bool
--@sig first_places(text:str, piece:str) -> list[int]
--@sig counts_onward(text:str, rows:list[dict[str,int]]) -> dict[int,list[int]]
--@sig counts(text:str) -> list[int]
--@sig nth_piece(text:str, length:int, number:int) -> str
--@sig number_of(text:str, piece:str) -> int
--@sig _law_tape(script:list[int], start:int) -> dict[str,int]
--@sig _law_pick(tape:dict[str,int], many:int) -> int
--@sig _law_choices(many:int) -> list[int]
--@sig _law_first(many:int) -> str
--@sig law(script:list[int]) -> bool
namespace My
open PySem PySem.Spec PyProof.Rows L2
abbrev v_ALPHABET : Str := "abcdefghijklmnopqrstuvwxyz"
def top (i : Nat) : Stmt := PySem.Challenge.pw_scatteredpieces_k10_counts_by_hand.main.body.getD i (.Pass ⟨0, 0, 0, 0⟩)
abbrev FnP (K : PySem.W.Frag) (x : Str) (st : Stmt) (f : Addr) (fd : FuncData) : Prop := FunD K x x (defArgs st) (defBody st) (defScope st) [] [] f fd
abbrev s_is_text : Stmt := top 8
abbrev s_is_from_zero : Stmt := top 9
abbrev s_check_text : Stmt := top 10
abbrev s_check_length : Stmt := top 11
abbrev s_followers : Stmt := top 12
abbrev s_reached_places : Stmt := top 13
abbrev s_is_piece : Stmt := top 14
abbrev s_holds : Stmt := top 15
abbrev s_first_places : Stmt := top 16
abbrev s_counts_onward : Stmt := top 18
abbrev s_counts : Stmt := top 19
abbrev s_nth_piece : Stmt := top 20
abbrev s_number_of : Stmt := top 21
abbrev s__law_tape : Stmt := top 23
abbrev s__law_pick : Stmt := top 24
abbrev s__law_choices : Stmt := top 25
abbrev s__law_first : Stmt := top 26
abbrev s_law : Stmt := top 27
/-- what the top has written -/
structure Txt (K : PySem.W.Frag) (mg : Str → Option Value) where
  a_is_text : Addr
  d_is_text : FuncData
  F_is_text : FnP K "is_text" s_is_text a_is_text d_is_text
  g_is_text : mg "is_text" = some (.ref a_is_text)
  a_is_from_zero : Addr
  d_is_from_zero : FuncData
  F_is_from_zero : FnP K "is_from_zero" s_is_from_zero a_is_from_zero d_is_from_zero
  g_is_from_zero : mg "is_from_zero" = some (.ref a_is_from_zero)
  a_check_text : Addr
  d_check_text : FuncData
  F_check_text : FnP K "check_text" s_check_text a_check_text d_check_text
  g_check_text : mg "check_text" = some (.ref a_check_text)
  a_check_length : Addr
  d_check_length : FuncData
  F_check_length : FnP K "check_length" s_check_length a_check_length d_check_length
  g_check_length : mg "check_length" = some (.ref a_check_length)
  a_followers : Addr
  d_followers : FuncData
  F_followers : FnP K "followers" s_followers a_followers d_followers
  g_followers : mg "followers" = some (.ref a_followers)
  a_reached_places : Addr
  d_reached_places : FuncData
  F_reached_places : FnP K "reached_places" s_reached_places a_reached_places d_reached_places
  g_reached_places : mg "reached_places" = some (.ref a_reached_places)
  a_is_piece : Addr
  d_is_piece : FuncData
  F_is_piece : FnP K "is_piece" s_is_piece a_is_piece d_is_piece
  g_is_piece : mg "is_piece" = some (.ref a_is_piece)
  a_holds : Addr
  d_holds : FuncData
  F_holds : FnP K "holds" s_holds a_holds d_holds
  g_holds : mg "holds" = some (.ref a_holds)
  a_first_places : Addr
  d_first_places : FuncData
  F_first_places : FnP K "first_places" s_first_places a_first_places d_first_places
  g_first_places : mg "first_places" = some (.ref a_first_places)
  a_counts_onward : Addr
  d_counts_onward : FuncData
  F_counts_onward : FnP K "counts_onward" s_counts_onward a_counts_onward d_counts_onward
  g_counts_onward : mg "counts_onward" = some (.ref a_counts_onward)
  a_counts : Addr
  d_counts : FuncData
  F_counts : FnP K "counts" s_counts a_counts d_counts
  g_counts : mg "counts" = some (.ref a_counts)
  a_nth_piece : Addr
  d_nth_piece : FuncData
  F_nth_piece : FnP K "nth_piece" s_nth_piece a_nth_piece d_nth_piece
  g_nth_piece : mg "nth_piece" = some (.ref a_nth_piece)
  a_number_of : Addr
  d_number_of : FuncData
  F_number_of : FnP K "number_of" s_number_of a_number_of d_number_of
  g_number_of : mg "number_of" = some (.ref a_number_of)
  a__law_tape : Addr
  d__law_tape : FuncData
  F__law_tape : FnP K "_law_tape" s__law_tape a__law_tape d__law_tape
  g__law_tape : mg "_law_tape" = some (.ref a__law_tape)
  a__law_pick : Addr
  d__law_pick : FuncData
  F__law_pick : FnP K "_law_pick" s__law_pick a__law_pick d__law_pick
  g__law_pick : mg "_law_pick" = some (.ref a__law_pick)
  a__law_choices : Addr
  d__law_choices : FuncData
  F__law_choices : FnP K "_law_choices" s__law_choices a__law_choices d__law_choices
  g__law_choices : mg "_law_choices" = some (.ref a__law_choices)
  a__law_first : Addr
  d__law_first : FuncData
  F__law_first : FnP K "_law_first" s__law_first a__law_first d__law_first
  g__law_first : mg "_law_first" = some (.ref a__law_first)
  a_law : Addr
  d_law : FuncData
  F_law : FnP K "law" s_law a_law d_law
  g_law : mg "law" = some (.ref a_law)
  n_isinstance : mg "isinstance" = none
  n_str : mg "str" = none
  n_all : mg "all" = none
  n_int : mg "int" = none
  n_bool : mg "bool" = none
  n_range : mg "range" = none
  n_reversed : mg "reversed" = none
  n_len : mg "len" = none
  n_dict : mg "dict" = none
  n_sorted : mg "sorted" = none
  n_enumerate : mg "enumerate" = none
  n_sum : mg "sum" = none
  n_list : mg "list" = none
  n_min : mg "min" = none
  n_max : mg "max" = none
  t_ALPHABET : Tok
  c_ALPHABET : mg "ALPHABET" = some (.str v_ALPHABET t_ALPHABET)
section
variable {X : Cx}
def CPowX (i j : Int) : Prop := 0 ≤ j ∧ ((Builtin.Int.intBits i : Nat) : Int) * j ≤ 2 ^ 27
theorem op_powX : OpR X (binaryOp .Pow) (rI CPowX fun i j => .int (i ^ j.toNat)) := opI fun _ _ _ _ _ _ _ hc q => pow_int hc.1 hc.2 q
def ipS : TIp := fun x y H Q => ∃ a b, x = .str a ∧ y = .str b ∧ a.length + b.length ≤ sizeLine ∧ Q (.str (a ++ b)) H
theorem ip_add_str : PIp X .Add ipS := fun pins s σ H x y v u Q I rx ry h => iop_add_str pins s σ H x y v u Q I rx ry h
def rMulS : R2 := fun x y H Q => ∃ (a : Str) (n : Int), x = .str a ∧ y = .int n ∧ a.length ≤ 4000 ∧ 0 ≤ n ∧ n ≤ 4000 ∧ Q (.str (Txt.mul a n)) H
theorem op_mul_str : OpR X (binaryOp .Mult) rMulS := by
  intro pins s σ H x y v u Q I rx ry h
  obtain ⟨a, n, rfl, rfl, ha, h0, h1, q⟩ := h
  obtain ⟨t, rfl⟩ := rx
  obtain ⟨t2, rfl⟩ := ry
  exact SB.mul (mulOk_of 4000 4000 ha h1 (by omega) (by decide) (by decide)) fun t3 k => ⟨.str _, H, I.tok _, ⟨_, rfl⟩, q⟩
/-! the written part by its own name -/
variable {K0 : PySem.W.Frag}
theorem ixk (r : PySem.W.Frag → R2) (h : IxR X (r X.K)) (e : X.K = K0) : IxR X (r K0) := e ▸ h
theorem opk {f : Value → Value → Sem Value} (r : PySem.W.Frag → R2) (h : OpR X f (r X.K)) (e : X.K = K0) : OpR X f (r K0) := e ▸ h
theorem callk {f : Value} (r : PySem.W.Frag → List V → Hp → VK → Prop) (h : CallR X f (r X.K)) (e : X.K = K0) : CallR X f (r K0) := e ▸ h
theorem slk (r : PySem.W.Frag → V → Option Int → Option Int → Hp → VK → Prop) (h : SlR X (r X.K)) (e : X.K = K0) : SlR X (r K0) := e ▸ h
theorem pilk {tg ex : Expr} {te : TE} (h : PI X tg ex (iList X.K te)) (e : X.K = K0) : PI X tg ex (iList K0 te) := e ▸ h
theorem pitk {tg ex : Expr} {te : TE} (h : PI X tg ex (iTup X.K te)) (e : X.K = K0) : PI X tg ex (iTup K0 te) := e ▸ h
theorem tbmk {ex : Expr} {n : String} {r : V → List V → Hp → VK → Prop} {to : TE} {t : TA} (h : PE X ex (tBM X.K n r to t)) (e : X.K = K0) : PE X ex (tBM K0 n r to t) := e ▸ h
theorem tbmk0 {ex : Expr} {n : String} {r : V → List V → Hp → VK → Prop} {to : TE} (h : PE X ex (tBM0 X.K n r to)) (e : X.K = K0) : PE X ex (tBM0 K0 n r to) := e ▸ h
theorem revk {ex : Expr} {te : TE} (h : PE X ex (tRevL X.K te)) (e : X.K = K0) : PE X ex (tRevL K0 te) := e ▸ h
def rLenQ (K : PySem.W.Frag) : List V → Hp → VK → Prop := fun xs H Q => ∃ p ys, xs = [.ref p] ∧ (SqL K H p ys ∨ SqT K H p ys) ∧ Q (.int ys.length) H
def rLenT : List V → Hp → VK → Prop := fun xs H Q => ∃ z : Str, xs = [.str z] ∧ z.length ≤ sizeLine ∧ Q (.int z.length) H
def rListQ (K : PySem.W.Frag) : List V → Hp → VK → Prop := fun xs H Q => ∃ p ys, xs = [.ref p] ∧ (SqL K H p ys ∨ SqT K H p ys) ∧ ∀ l, H l = none → Q (.ref l) (upd H l (.lst ys))
theorem call_len_q : CallR X (.builtin "len") (rLenQ X.K) := call_len_seq
theorem call_len_t : CallR X (.builtin "len") rLenT := call_len_str
theorem call_list_q : CallR X (.type "list") (rListQ X.K) := call_list_of
def rIntQ : List V → Hp → VK → Prop := fun xs H Q => (∃ i, xs = [.int i] ∧ Q (.int i) H) ∨ ∃ k, xs = [.bl k] ∧ Q (.int (if k then 1 else 0)) H
theorem call_int_q : CallR X (.type "int") rIntQ := call_int1
def rMaxQ : List V → Hp → VK → Prop := fun xs H Q => ∃ i j, xs = [.int i, .int j] ∧ Q (.int (if j > i then j else i)) H
theorem call_max_q (hc : X.calm = true) : CallR X (.builtin "max") rMaxQ := call_max2 hc
def rMinQ : List V → Hp → VK → Prop := fun xs H Q => ∃ i j, xs = [.int i, .int j] ∧ Q (.int (if j < i then j else i)) H
theorem call_min_q (hc : X.calm = true) : CallR X (.builtin "min") rMinQ := call_min2 hc
def rDictQ : List V → Hp → VK → Prop := fun xs H Q => ∃ (a : Addr) (kvs : List (Key × V)), xs = [.ref a] ∧ Rd H a (.dK kvs) ∧ ∀ p, H p = none → Q (.ref p) (upd H p (.dK kvs))
theorem call_dict_q : CallR X (.type "dict") rDictQ := call_dictD
def rFind3 : V → List V → Hp → VK → Prop := fun x xs H Q => ∃ (a b : Str) (i : Int), x = .str a ∧ xs = [.str b, .int i] ∧ Q (.int (Txt.find3 a b i)) H
theorem mt_find_q : MtR X "str.find" rFind3 := mt_find3
end
theorem bits_le {i : Int} {n : Nat} (h : i.natAbs < 2 ^ n) (h0 : 0 < n) : Builtin.Int.intBits i ≤ n := by
  have x := PySem.Flt.log2_lt_of h0 h
  unfold Builtin.Int.intBits
  split <;> omega
theorem of_bits {i : Int} {n : Nat} (h : Builtin.Int.intBits i ≤ n) : i.natAbs < 2 ^ n := by
  unfold Builtin.Int.intBits at h
  split at h
  · rename_i e
    have e2 : i.natAbs = 0 := by
      first
        | exact e
        | omega
        | simp_all
    rw [e2]
    exact Nat.two_pow_pos n
  · rename_i e
    have hz : i.natAbs ≠ 0 := by
      first
        | exact e
        | omega
        | (intro z; simp_all)
    exact (Nat.log2_lt hz).mp (by omega)
/-! ### walks and comprehensions, by what their items are worth -/
section
open Evl
variable {K : PySem.W.Frag} {σ : L2.St} {H H' : Hp} {te : TE} {tt : TT} {x y z v : V} {D : Ends} {tu tz : TS}
/-- what is walked gives n items, item 0, item 1, .., and the heap may grow meanwhile -/
def EvW (wi : TI) (σ : L2.St) (H : Hp) (n : Nat) (item : Nat → V) : Prop := ∀ H1, Ex H H1 → ∀ R : It → Hp → Prop, (∀ H2, Ex H1 H2 → ∀ (J : It) (G : Hp → Prop) (Y : Nat → Hp → V → Hp → Prop), Walk J n G Y → (∀ i H3 w H4, i < n → Y i H3 w H4 → H4 = H3 ∧ w = item i) → (∀ H3, Ex H2 H3 → G H3) → R J H2) → wi σ H1 R
theorem ew_str {w : Str} (h : Ev te σ H (.str w)) : EvW (iStr te) σ H w.cps.size (fun i => .str ⟨#[w.cps.getD i 0]⟩) := fun H1 e R k =>
  h H1 e _ fun H2 e2 => ⟨w, rfl, k H2 e2 _ _ _ walk_str (fun i H3 v H4 hi ⟨h1, c, h2, h3⟩ => ⟨h1, by
    have e3 : w.cps.getD i 0 = c := by
      rw [Array.getD_eq_getD_getElem?, h2]
      rfl
    show v = V.str ⟨#[w.cps.getD i 0]⟩
    rw [h3, e3]⟩) (fun _ _ => trivial)⟩
theorem ew_list {a : Addr} {xs : List V} (h : Ev te σ H (.ref a)) (hx : SqL K H a xs) : EvW (iList K te) σ H xs.length (fun i => xs.getD i .non) := fun H1 e R k =>
  h H1 e _ fun H2 e2 => ⟨a, rfl, ⟨xs, ex_l (e.trans e2) hx⟩, k H2 e2 _ _ _ (walk_list (K := K) (a := a) (xs := xs)) (fun i H3 v H4 hi ⟨h1, h2⟩ => ⟨h1, by
    show v = xs.getD i V.non
    rw [List.getD_eq_getElem?_getD, h2]
    rfl⟩) (fun H3 e3 => ex_l ((e.trans e2).trans e3) hx)⟩
theorem ew_listN {xs : List V} (h : EvL te σ H xs) : EvW (iList K te) σ H xs.length (fun i => xs.getD i .non) := fun H1 e R k =>
  h H1 e _ fun p H2 hp e2 hx => ⟨p, rfl, ⟨xs, sq_of hx⟩, k H2 e2 _ _ _ (walk_list (K := K) (a := p) (xs := xs)) (fun i H3 v H4 hi ⟨h1, h2⟩ => ⟨h1, by
    show v = xs.getD i V.non
    rw [List.getD_eq_getElem?_getD, h2]
    rfl⟩) (fun H3 e3 => sq_of (e3 p _ hx))⟩
theorem ew_rng1 {ta : TA} {n : Int} (h : EvA ta σ H [.int n]) (hn : -100000 ≤ n ∧ n ≤ 100000) : EvW (iRng1 ta) σ H n.toNat (fun i => .int (i : Nat)) := fun H1 e R k =>
  h H1 e _ fun H2 e2 => ⟨n, rfl, by omega, by omega, k H2 e2 _ _ _ (walk_range (lo := 0) (n := n.toNat)) (fun i H3 v H4 hi ⟨h1, h2⟩ => ⟨h1, by
    show v = V.int (i : Nat)
    rw [← Int.zero_add ((i : Nat) : Int)]
    exact h2⟩) (fun _ _ => trivial)⟩
theorem ew_rng2 {ta : TA} {lo hi : Int} (h : EvA ta σ H [.int lo, .int hi]) (hn : -100000 ≤ lo ∧ lo ≤ 100000 ∧ -100000 ≤ hi ∧ hi ≤ 100000) : EvW (iRng2 ta) σ H (hi - lo).toNat (fun i => .int (lo + (i : Nat))) := fun H1 e R k =>
  h H1 e _ fun H2 e2 => ⟨lo, hi, rfl, ⟨by omega, by omega, by omega, by omega⟩, k H2 e2 _ _ _ (walk_range (lo := lo) (n := (hi - lo).toNat)) (fun i H3 v H4 hi ⟨h1, h2⟩ => ⟨h1, h2⟩) (fun _ _ => trivial)⟩
/-- a comprehension, its target a name, whose items and tests are worth what f and v say -/
theorem el_lcW {wi : TI} {n : Nat} {item : Nat → V} {j : Nat} {vs : List Nat} (f : Nat → Bool) (v : Nat → V) (h : EvW wi σ H n item) (hz : n ≤ 40000) (hw : ∀ x, wipe ((wipe σ vs).set j (some x)) vs = wipe σ vs)
    (ht : ∀ (i : Nat) H1, Ex H H1 → i < n → EvT tt ((wipe σ vs).set j (some (item i))) H1 (f i)) (he : ∀ (i : Nat) H1, Ex H H1 → i < n → f i = true → Ev te ((wipe σ vs).set j (some (item i))) H1 (v i)) :
    EvL (tLc wi (gName j) tt te vs) σ H (given n f v) := fun H0 e Q q => h H0 e _ fun H1 e1 J G Y w hy hG Dl hD => by
  refine lc_it w (Cw H1 f v Dl) ⟨hD, Ex.new hD, upd_same⟩ (fun i H3 _ p => hG H3 p.2.1) (fun i x H3 H4 hi p y => ?_) (fun H3 p => q Dl H3 (fresh_back e1 p.1) (e1.trans p.2.1) p.2.2)
  obtain ⟨rfl, rfl⟩ := hy i H3 x H4 hi y
  exact ⟨hw _, cw_turn p (by omega) (ht i H1 (e.trans e1) hi) (fun hf => he i H1 (e.trans e1) hi hf)⟩
/-- a built-in's call upon a new list -/
theorem ev_cbL {r : List V → Hp → VK → Prop} {xs : List V} (h : EvL te σ H xs) (hr : ∀ p H1, Ex H H1 → H1 p = some (.lst xs) → ∀ Q : VK, (∀ H2, Ex H1 H2 → Q z H2) → r [.ref p] H1 Q) : Ev (tCB r (tCons te tNil)) σ H z := fun H1 e Q q =>
  h H1 e _ fun p H2 hp e2 hx => hr p H2 (e.trans e2) hx Q fun H3 e3 => q H3 (e2.trans e3)
theorem et_yes {H1 : Hp} : EvT tYes σ H1 true := fun H2 _ _ q => q H2 (Ex.refl H2)
/-- without a test -/
theorem el_lcY {wi : TI} {n : Nat} {item : Nat → V} {j : Nat} {vs : List Nat} (v : Nat → V) (h : EvW wi σ H n item) (hz : n ≤ 40000) (hw : ∀ x, wipe ((wipe σ vs).set j (some x)) vs = wipe σ vs)
    (he : ∀ (i : Nat) H1, Ex H H1 → i < n → Ev te ((wipe σ vs).set j (some (item i))) H1 (v i)) : EvL (tLc wi (gName j) tYes te vs) σ H ((List.range n).map v) := by
  have e : (List.range n).map v = given n (fun _ => true) v := by
    unfold given
    rw [List.filter_eq_self.mpr fun _ _ => rfl]
  rw [e]
  exact el_lcW (fun _ => true) v h hz hw (fun i H1 e1 hi => et_yes) (fun i H1 e1 hi _ => he i H1 e1 hi)
/-- the same where nothing that is walked can change -/
def EvWT (wi : TI) (σ : L2.St) (H : Hp) (n : Nat) (item : Nat → V) : Prop := ∀ H1, Ex H H1 → ∀ R : It → Hp → Prop, (∀ H2, Ex H1 H2 → ∀ (J : It) (Y : Nat → Hp → V → Hp → Prop), Walk J n (fun _ => True) Y → (∀ i H3 w H4, i < n → Y i H3 w H4 → H4 = H3 ∧ w = item i) → R J H2) → wi σ H1 R
theorem et_str {w : Str} (h : Ev te σ H (.str w)) : EvWT (iStr te) σ H w.cps.size (fun i => .str ⟨#[w.cps.getD i 0]⟩) := fun H1 e R k =>
  h H1 e _ fun H2 e2 => ⟨w, rfl, k H2 e2 _ _ walk_str (fun i H3 v H4 hi ⟨h1, c, h2, h3⟩ => ⟨h1, by
    have e3 : w.cps.getD i 0 = c := by
      rw [Array.getD_eq_getD_getElem?, h2]
      rfl
    show v = V.str ⟨#[w.cps.getD i 0]⟩
    rw [h3, e3]⟩)⟩
theorem et_rng1 {ta : TA} {n : Int} (h : EvA ta σ H [.int n]) (hn : -100000 ≤ n ∧ n ≤ 100000) : EvWT (iRng1 ta) σ H n.toNat (fun i => .int (i : Nat)) := fun H1 e R k =>
  h H1 e _ fun H2 e2 => ⟨n, rfl, by omega, by omega, k H2 e2 _ _ (walk_range (lo := 0) (n := n.toNat)) (fun i H3 v H4 hi ⟨h1, h2⟩ => ⟨h1, by
    show v = V.int (i : Nat)
    rw [← Int.zero_add ((i : Nat) : Int)]
    exact h2⟩)⟩
theorem et_rng2 {ta : TA} {lo hi : Int} (h : EvA ta σ H [.int lo, .int hi]) (hn : -100000 ≤ lo ∧ lo ≤ 100000 ∧ -100000 ≤ hi ∧ hi ≤ 100000) : EvWT (iRng2 ta) σ H (hi - lo).toNat (fun i => .int (lo + (i : Nat))) := fun H1 e R k =>
  h H1 e _ fun H2 e2 => ⟨lo, hi, rfl, ⟨by omega, by omega, by omega, by omega⟩, k H2 e2 _ _ (walk_range (lo := lo) (n := (hi - lo).toNat)) (fun i H3 v H4 hi ⟨h1, h2⟩ => ⟨h1, h2⟩)⟩
/-- reversed(range(n)) -/
theorem et_rev1 {n : Int} (h : Ev te σ H (.int n)) (hn : 0 ≤ n ∧ n ≤ 100000) : EvWT (iRevR (tRg1 te)) σ H n.toNat (fun i => .int (n - 1 - (i : Nat))) := fun H1 e R k =>
  h H1 e _ fun H2 e2 => ⟨n, rfl, by omega, by omega, by omega, by omega, by
    have en : (n - 0).toNat = n.toNat := by omega
    rw [en]
    exact k H2 e2 _ _ (walk_rangeC (n := n.toNat)) (fun i H3 v H4 hi ⟨h1, h2⟩ => ⟨h1, by
      show v = V.int (n - 1 - (i : Nat))
      have e4 : n - 1 - ((i : Nat) : Int) = 0 + (((n.toNat : Nat) : Int)) - 1 + ((i : Nat) : Int) * -1 := by omega
      rw [e4]
      exact h2⟩)⟩
/-- a for whose target is a name -/
theorem s_forN {wi : TI} {n : Nat} {item : Nat → V} {j : Nat} (h : EvWT wi σ H n item) (Pv : Nat → L2.St → Hp → Prop) (h0 : ∀ H1, Ex H H1 → Pv 0 σ H1)
    (hs : ∀ i σ' H', i < n → Pv i σ' H' → tu { D with nx := Pv (i + 1), ct := Pv (i + 1), bk := D.nx } (σ'.set j (some (item i))) H') (hd : ∀ σ' H', Pv n σ' H' → D.nx σ' H') : tFor wi (gName j) tu D σ H :=
  h H (Ex.refl H) _ fun H2 e2 J Y w hy => for_it w Pv (h0 H2 e2) (fun _ _ _ _ _ => trivial) (fun i x σ' H3 H4 hi p y => by
    obtain ⟨rfl, rfl⟩ := hy i H3 x H4 hi y
    exact hs i σ' _ hi p) hd
theorem q_forN {wi : TI} {n : Nat} {item : Nat → V} {j : Nat} (h : EvWT wi σ H n item) (Pv : Nat → L2.St → Hp → Prop) (h0 : ∀ H1, Ex H H1 → Pv 0 σ H1)
    (hs : ∀ i σ' H', i < n → Pv i σ' H' → tu { D with nx := Pv (i + 1), ct := Pv (i + 1), bk := tz D } (σ'.set j (some (item i))) H') (hd : ∀ σ' H', Pv n σ' H' → tz D σ' H') : tSeq (tFor wi (gName j) tu) tz D σ H :=
  s_forN (D := { D with nx := tz D }) h Pv h0 hs hd
end
/-! ### the draws -/
def tapeO (d m : Int) : HO := .dK [((Sum.inr "digits" : Key), V.int d), ((Sum.inr "mixed" : Key), V.int m)]
structure TapeOk (d m : Int) : Prop where
  d0 : 0 ≤ d
  dB : d.natAbs < 2 ^ 1048576
  m0 : 0 ≤ m
  mB : m < 4294967296
def spTape (K : PySem.W.Frag) : Sp := fun vs H Q _ => ∃ (a : Addr) (ns : List Int) (st : Int), vs = [.ref a, .int st] ∧ SqL K H a (ns.map V.int) ∧ ns.length ≤ 63 ∧ (∀ z ∈ ns, Builtin.Int.intBits z ≤ 1048576) ∧ 0 ≤ st ∧ st ≤ 100 ∧
  ∀ p d m, H p = none → TapeOk d m → Q (.ref p) (upd H p (tapeO d m))
def spPick : Sp := fun vs H Q _ => ∃ (tp : Addr) (d m many : Int), vs = [.ref tp, .int many] ∧ H tp = some (tapeO d m) ∧ TapeOk d m ∧ 1 ≤ many ∧ many.natAbs < 2 ^ 1000 ∧
  ∀ r d' m', 0 ≤ r → r < many → TapeOk d' m' → Q (.int r) (upd H tp (tapeO d' m'))
theorem small_bits {i : Int} (h : i.natAbs < 2 ^ 64) : Builtin.Int.intBits i ≤ 64 := bits_le h (by decide)
theorem sDM : ¬ (("mixed" : Str) = "digits") := by decide +kernel
theorem kDM : ¬ ((Sum.inr ("mixed" : Str) : Key) = Sum.inr ("digits" : Str)) := fun h => sDM (Sum.inr.inj h)
theorem kMD : ¬ ((Sum.inr ("digits" : Str) : Key) = Sum.inr ("mixed" : Str)) := fun h => sDM (Sum.inr.inj h).symm
theorem tape_d {H : Hp} {tp : Addr} {d m : Int} (h : H tp = some (tapeO d m)) : DGet H tp (.str "digits") (some (.int d)) := by
  have e := DGet.k (k := (Sum.inr "digits" : Key)) h
  rw [valV_pos rfl] at e
  exact e
theorem tape_m {H : Hp} {tp : Addr} {d m : Int} (h : H tp = some (tapeO d m)) : DGet H tp (.str "mixed") (some (.int m)) := by
  have e := DGet.k (k := (Sum.inr "mixed" : Key)) h
  rw [valV_neg kMD, valV_pos rfl] at e
  exact e
theorem tape_pd {H : Hp} {tp : Addr} {d m x : Int} (h : H tp = some (tapeO d m)) : DPut H tp (.str "digits") (.int x) (upd H tp (tapeO x m)) := by
  have e := DPut.k (k := (Sum.inr "digits" : Key)) (v := V.int x) h (by show 2 < sizeLine; decide)
  have ep : putK [((Sum.inr "digits" : Key), V.int d), ((Sum.inr "mixed" : Key), V.int m)] (Sum.inr "digits") (V.int x) = [((Sum.inr "digits" : Key), V.int x), ((Sum.inr "mixed" : Key), V.int m)] := by
    simp [putK, sDM]
  rw [ep] at e
  exact e
theorem tape_pm {H : Hp} {tp : Addr} {d m x : Int} (h : H tp = some (tapeO d m)) : DPut H tp (.str "mixed") (.int x) (upd H tp (tapeO d x)) := by
  have e := DPut.k (k := (Sum.inr "mixed" : Key)) (v := V.int x) h (by show 2 < sizeLine; decide)
  have ep : putK [((Sum.inr "digits" : Key), V.int d), ((Sum.inr "mixed" : Key), V.int m)] (Sum.inr "mixed") (V.int x) = [((Sum.inr "digits" : Key), V.int d), ((Sum.inr "mixed" : Key), V.int x)] := by
    simp [putK, Ne.symm sDM]
  rw [ep] at e
  exact e
theorem pow_small {i j : Int} (hi : i.natAbs < 2 ^ 64) (h0 : 0 ≤ j) (h1 : j ≤ 100) : CPowX i j := by
  refine ⟨h0, ?_⟩
  have h := small_bits hi
  have e27 : (2 : Int) ^ 27 = 134217728 := by decide
  rw [e27]
  have h2 : ((Builtin.Int.intBits i : Nat) : Int) * j ≤ 64 * 100 := Int.mul_le_mul (by omega) h1 h0 (by decide)
  omega
theorem mul_small {i j : Int} (hi : i.natAbs < 2 ^ 64) (hj : j.natAbs < 2 ^ 64) : CMulX i j := by
  have h1 := small_bits hi
  have h2 := small_bits hj
  show ((Builtin.Int.intBits i : Nat) : Int) + ((Builtin.Int.intBits j : Nat) : Int) ≤ 134217728
  omega
theorem div_ok {i j : Int} (h : 1 ≤ j) (hB : j.natAbs < 2 ^ 1000) : CDivW i j := wide_div (by omega) hB (by decide) (by decide)
theorem sq_bound {c : Int} {n : Nat} (h : c.natAbs < 2 ^ n) : (c * c).natAbs < 2 ^ (n + n) := wide_lt h h
theorem two_mono {a b : Nat} (h : a ≤ b) : 2 ^ a ≤ 2 ^ b := Nat.pow_le_pow_right (by decide) h
theorem mix_bound {m c : Int} {n : Nat} (hn : 64 ≤ n + n) (h0 : 0 ≤ m) (h1 : m < 4294967296) (hc : c.natAbs < 2 ^ n) : (m * 30029 + c * c + 13).natAbs < 2 ^ (n + n + 2) := by
  have h2 := sq_bound hc
  have e3 : 2 ^ (n + n + 2) = 2 ^ (n + n) * 4 := Nat.pow_add 2 (n + n) 2
  have h4 : (2 : Nat) ^ 64 ≤ 2 ^ (n + n) := two_mono hn
  have h5 : (2 : Nat) ^ 64 = 18446744073709551616 := by decide
  rw [h5] at h4
  rw [e3]
  generalize 2 ^ (n + n) = B at *
  generalize c * c = q at *
  omega
section
variable {P : Program} {w : World} {K : PySem.W.Frag} {mg : Str → Option Value} {base : Heap}
abbrev nm__law_tape : List Str := ["script", "start", "mixed", "cell", "digits"]
theorem sc__law_tape : FnScope nm__law_tape ["script", "start"] (defScope s__law_tape) := ⟨rfl, rfl, rfl, by decide +kernel, rfl, by decide +kernel, by decide +kernel⟩
theorem b__law_tape {K : PySem.W.Frag} {mg : Str → Option Value} (T : Txt K mg) : Binds K T.d__law_tape ["script", "start"] [] := T.F__law_tape.bindsN fun _ _ _ _ _ _ us hl => match us, hl with | [_, _], _ => rfl
theorem ok__law_tape (T : Txt K mg) : FnOk P w K mg base CX0 1 T.a__law_tape T.d__law_tape ["script", "start"] (spTape K) := by
  refine T.F__law_tape.ok sc__law_tape (fun vs H Q E h => ?_) (fun cdv A outer s H vs Q E hr h => ⟨_, PSs.nox (pss_cons (ps_set (i := 2) sc__law_tape.nd rfl (by first | exact Or.inl rfl | exact Or.inr rfl) (pe_op op_add pe_int (pe_op op_mulX (pv 1) pe_int)))
      (pss_cons (ps_for PassesOwn.never rfl (pilk (K0 := K) (pi_list (pv 0)) rfl) (pg_name (i := 3) sc__law_tape.nd rfl (by first | exact Or.inl rfl | exact Or.inr rfl))
      (pss_one (ps_set (i := 2) sc__law_tape.nd rfl (by first | exact Or.inl rfl | exact Or.inr rfl) (pe_op op_add (pe_op op_mod (pe_callTy call_int_q (by rfl) T.n_int (by decide +kernel) (pa_cons (pe_op op_powX (pe_op op_add (pe_op op_add (pe_op op_mulX (pv 2) pe_int) (pe_op op_mulX (pv 3) (pv 3))) pe_int) pe_int) pa_nil)) pe_int) pe_int))))
      (pss_cons (ps_set (i := 4) sc__law_tape.nd rfl (by first | exact Or.inl rfl | exact Or.inr rfl) (pe_ifExp (PW.pt (pw_and (pt_cmpR op_lt (pv 1) (pe_callB (callk (K0 := K) rLenQ call_len_q rfl) (by rfl) T.n_len (by decide +kernel) (pa_cons (pv 0) pa_nil)) (nomark _)) (pw_and1 (pt_cmpR op_ge1 (pe_ix (ixk (K0 := K) rIxL ix_list rfl) (pv 0) (pv 1) (fun _ _ => rfl)) (pe_op op_powX pe_int pe_int) (nomark _))))) (pe_op op_sub (pe_ix (ixk (K0 := K) rIxL ix_list rfl) (pv 0) (pv 1) (fun _ _ => rfl)) (pe_op op_powX pe_int pe_int)) pe_int))
      (pss_one (ps_ret (pe_disp (pps_cons pe_str (pv 4) (pps_cons pe_str (pv 2) pps_nil)) (by rfl) (by rfl) (fun z => by cases z) (by decide))))))), ?_⟩)
  · obtain ⟨a, ns, st, rfl, _⟩ := h
    rfl
  · obtain ⟨a, ns, st, rfl, hS, hl, hb, h0, h1, k⟩ := h
    refine ⟨_, rfl, _, _, rfl, rfl, (by
      have e1 : Builtin.Int.intBits st ≤ 64 := small_bits (by omega)
      have e2 : Builtin.Int.intBits 53 ≤ 64 := small_bits (by decide)
      show ((Builtin.Int.intBits st : Nat) : Int) + ((Builtin.Int.intBits 53 : Nat) : Int) ≤ 134217728
      omega), _, _, rfl, rfl, ?_⟩
    refine ⟨_, rfl, a, rfl, ⟨_, hS⟩, for_list (K := K) (a := a) (xs := ns.map V.int) (fun i σ H2 => H2 = H ∧ ∃ (m : Int) (c : Option V), σ = [some (.ref a), some (.int st), some (.int m), c, none] ∧ 0 ≤ m ∧ m < 4294967296)
      ⟨rfl, 101 + st * 53, none, rfl, by omega, by omega⟩ (fun i σ H2 _ ⟨e, _⟩ => by rw [e]; exact hS) ?_ ?_⟩
    · rintro i y σ H2 hi ⟨rfl, m, c, rfl, hm0, hm1⟩
      obtain ⟨z, hz, rfl⟩ : ∃ z, z ∈ ns ∧ y = V.int z := by
        rw [List.getElem?_map] at hi
        cases e : ns[i]? with
        | none =>
          rw [e] at hi
          cases hi
        | some z =>
          rw [e] at hi
          exact ⟨z, List.mem_of_getElem? e, (Option.some.inj hi).symm⟩
      have hzb := hb z hz
      have hzn := of_bits hzb
      have hmB : Builtin.Int.intBits m ≤ 64 := small_bits (by omega)
      refine ⟨_, rfl, _, _, rfl, rfl, (by
        have e2 : Builtin.Int.intBits 30029 ≤ 64 := small_bits (by decide)
        show ((Builtin.Int.intBits m : Nat) : Int) + ((Builtin.Int.intBits 30029 : Nat) : Int) ≤ 134217728
        omega), _, rfl, _, rfl, _, _, rfl, rfl, (by
        show ((Builtin.Int.intBits z : Nat) : Int) + ((Builtin.Int.intBits z : Nat) : Int) ≤ 134217728
        omega), _, _, rfl, rfl, _, _, rfl, rfl, _, _, rfl, rfl, ⟨by decide, ?_⟩, .inl ⟨_, rfl, _, _, rfl, rfl, (by show (0 : Int) < 2147483563; decide), _, _, rfl, rfl, ?_⟩⟩
      · have hq := bits_le (mix_bound (by decide) hm0 hm1 hzn) (by decide)
        have e27 : (2 : Int) ^ 27 = 134217728 := by decide
        rw [e27]
        omega
      · refine ⟨rfl, _, _, rfl, ?_, ?_⟩
        · have := Int.emod_nonneg ((m * 30029 + z * z + 13) ^ (2 : Int).toNat) (show (2147483563 : Int) ≠ 0 by decide)
          omega
        · have := Int.emod_lt_of_pos ((m * 30029 + z * z + 13) ^ (2 : Int).toNat) (show (0 : Int) < 2147483563 by decide)
          omega
    · rintro σ H2 ⟨rfl, m, c, rfl, hm0, hm1⟩
      have fin : ∀ d : Int, 0 ≤ d → d.natAbs < 2 ^ 1048576 → tSeq (tAsg (tC (.int d)) (gName 4)) (tRet (tDisp [(tC (V.str (Str.ofString "digits")), tVar 4), (tC (V.str (Str.ofString "mixed")), tVar 2)])) { nx := fun x H' => Q V.non H', rt := Q } [some (V.ref a), some (V.int st), some (V.int m), c, none] H2 := by
        intro d hd0 hdB
        refine fun p hp => ⟨_, rfl, _, rfl, upd_same, [((Sum.inr "digits" : Key), V.int d), ((Sum.inr "mixed" : Key), V.int m)], rfl, (by show 2 ≤ 15; decide), ?_⟩
        rw [upd_upd]
        exact k p d m hp ⟨hd0, hdB, hm0, hm1⟩
      have z0 : (0 : Int).natAbs < 2 ^ 1048576 := Nat.two_pow_pos _
      refine ⟨_, rfl, _, rfl, _, _, rfl, .inl hS, _, _, rfl, rfl, _, rfl, ?_⟩
      refine ite2 (fun c1 => ?_) (fun c1 => iteF (fin 0 (by decide) z0))
      have hlt := of_decide_eq_true c1
      rw [List.length_map] at hlt
      obtain ⟨j, rfl⟩ := Int.eq_ofNat_of_zero_le h0
      have hj : j < ns.length := by omega
      have hat : atI (ns.map V.int) (j : Int) = some (V.int ns[j]) := by
        refine atI_nat ?_
        rw [List.getElem?_map, List.getElem?_eq_getElem hj]
        rfl
      have hpow : CPowX 10 18 := ⟨by decide, by decide +kernel⟩
      have e18 : (10 : Int) ^ (18 : Int).toNat = 1000000000000000000 := by decide +kernel
      refine ⟨_, rfl, _, rfl, a, _, _, _, rfl, rfl, hS, hat, _, _, rfl, rfl, hpow, _, _, rfl, rfl, _, rfl, ?_⟩
      rw [e18]
      refine ite2 (fun c2 => ?_) (fun c2 => fin 0 (by decide) z0)
      have hge := of_decide_eq_true c2
      refine ⟨_, rfl, _, rfl, a, _, _, _, rfl, rfl, hS, hat, _, _, rfl, rfl, hpow, _, _, rfl, rfl, ?_⟩
      rw [e18]
      have hzn := of_bits (hb _ (List.getElem_mem hj))
      refine fin _ (by omega) ?_
      exact Nat.lt_of_le_of_lt (by omega) hzn
abbrev nm__law_pick : List Str := ["tape", "many", "found", "once"]
theorem sc__law_pick : FnScope nm__law_pick ["tape", "many"] (defScope s__law_pick) := ⟨rfl, rfl, rfl, by decide +kernel, rfl, by decide +kernel, by decide +kernel⟩
theorem b__law_pick {K : PySem.W.Frag} {mg : Str → Option Value} (T : Txt K mg) : Binds K T.d__law_pick ["tape", "many"] [] := T.F__law_pick.bindsN fun _ _ _ _ _ _ us hl => match us, hl with | [_, _], _ => rfl
theorem ok__law_pick (T : Txt K mg) : FnOk P w K mg base CX0 1 T.a__law_pick T.d__law_pick ["tape", "many"] spPick := by
  refine T.F__law_pick.ok sc__law_pick (fun vs H Q E h => ?_) (fun cdv A outer s H vs Q E hr h => ⟨_, PSs.nox (pss_cons (ps_if (pt_cmpR op_ge1 (pe_dget (hu_of hr) (pv 0) pe_str (fun _ _ => rfl)) (pv 1) (nomark _)) (pss_cons (ps_set (i := 2) sc__law_pick.nd rfl (by first | exact Or.inl rfl | exact Or.inr rfl) (pe_op op_mod (pe_callTy call_int_q (by rfl) T.n_int (by decide +kernel) (pa_cons (pe_dget (hu_of hr) (pv 0) pe_str (fun _ _ => rfl)) pa_nil)) (pv 1)))
      (pss_cons (ps_dput (hu_of hr) (pv 0) pe_str (pe_op op_fdivW (pe_dget (hu_of hr) (pv 0) pe_str (fun _ _ => rfl)) (pv 1)) rfl)
      (pss_one (ps_ret (pv 2))))) pss_nil)
      (pss_cons (ps_dput (hu_of hr) (pv 0) pe_str (pe_op op_mod (pe_callTy call_int_q (by rfl) T.n_int (by decide +kernel) (pa_cons (pe_op op_add (pe_op op_mulX (pe_dget (hu_of hr) (pv 0) pe_str (fun _ _ => rfl)) pe_int) pe_int) pa_nil)) pe_int) rfl)
      (pss_cons (ps_set (i := 3) sc__law_pick.nd rfl (by first | exact Or.inl rfl | exact Or.inr rfl) (pe_op op_mod (pe_callTy call_int_q (by rfl) T.n_int (by decide +kernel) (pa_cons (pe_op op_powX (pe_dget (hu_of hr) (pv 0) pe_str (fun _ _ => rfl)) pe_int) pa_nil)) pe_int))
      (pss_one (ps_ret (pe_op op_mod (pe_callTy call_int_q (by rfl) T.n_int (by decide +kernel) (pa_cons (pe_op op_fdivW (pe_op op_mod (pe_callTy call_int_q (by rfl) T.n_int (by decide +kernel) (pa_cons (pe_op op_powX (pv 3) pe_int) pa_nil)) pe_int) pe_int) pa_nil)) (pv 1))))))), ?_⟩)
  · obtain ⟨tp, d, m, many, rfl, _⟩ := h
    rfl
  · obtain ⟨tp, d, m, many, rfl, ht, ok, h1, hB, k⟩ := h
    have d0 := ok.d0
    have m0 := ok.m0
    have mB := ok.mB
    refine ⟨_, rfl, tp, _, rfl, tape_d ht, _, rfl, _, _, rfl, rfl, _, rfl, ?_⟩
    refine ite2 (fun _ => ?_) (fun _ => ?_)
    · refine ⟨_, rfl, tp, _, rfl, tape_d ht, .inl ⟨_, rfl, _, rfl, _, _, rfl, rfl, (by show (0 : Int) < many; omega), ?_⟩⟩
      refine ⟨_, rfl, tp, _, rfl, tape_d ht, _, rfl, _, _, rfl, rfl, div_ok h1 hB, _, rfl, tp, _, rfl, tape_pd ht, _, rfl, ?_⟩
      have q0 : 0 ≤ d / many := Int.ediv_nonneg d0 (by omega)
      have q1 : d / many ≤ d := Int.ediv_le_self _ d0
      exact k _ _ _ (Int.emod_nonneg _ (by omega)) (Int.emod_lt_of_pos _ (by omega)) ⟨q0, Nat.lt_of_le_of_lt (by omega) ok.dB, m0, mB⟩
    · have s1 : CMulX m 40014 := mul_small (by omega) (by decide)
      refine ⟨_, rfl, tp, _, rfl, tape_m ht, _, _, rfl, rfl, s1, _, _, rfl, rfl, .inl ⟨_, rfl, _, _, rfl, rfl, (by show (0 : Int) < 2147483563; decide), _, rfl, tp, _, rfl, tape_pm ht, ?_⟩⟩
      have n0 := Int.emod_nonneg (m * 40014 + 1031) (show (2147483563 : Int) ≠ 0 by decide)
      have n1 := Int.emod_lt_of_pos (m * 40014 + 1031) (show (0 : Int) < 2147483563 by decide)
      generalize (m * 40014 + 1031) % 2147483563 = m2 at *
      refine ⟨_, rfl, tp, _, rfl, tape_m upd_same, _, _, rfl, rfl, pow_small (by omega) (by decide) (by decide), .inl ⟨_, rfl, _, _, rfl, rfl, (by show (0 : Int) < 2147483399; decide), ?_⟩⟩
      have o0 := Int.emod_nonneg (m2 ^ (2 : Int).toNat) (show (2147483399 : Int) ≠ 0 by decide)
      have o1 := Int.emod_lt_of_pos (m2 ^ (2 : Int).toNat) (show (0 : Int) < 2147483399 by decide)
      generalize m2 ^ (2 : Int).toNat % 2147483399 = o at *
      refine ⟨_, rfl, _, _, rfl, rfl, pow_small (by omega) (by decide) (by decide), .inl ⟨_, rfl, _, _, rfl, rfl, (by show (0 : Int) < 998244353; decide), _, _, rfl, rfl, div_ok (by decide) (by decide), .inl ⟨_, rfl, _, rfl, _, _, rfl, rfl, (by show (0 : Int) < many; omega), ?_⟩⟩⟩
      exact k _ _ _ (Int.emod_nonneg _ (by omega)) (Int.emod_lt_of_pos _ (by omega)) ⟨d0, ok.dB, n0, by omega⟩
end
/-! ### texts as lists of codes -/
def mkS (l : List Nat) : Str := ⟨l.toArray⟩
abbrev vS (l : List Nat) : V := .str (mkS l)
def sg (c : Nat) : Str := ⟨#[c]⟩
theorem mkS_len (l : List Nat) : (mkS l).length = l.length := by
  show l.toArray.size = l.length
  simp
theorem mkS_list (l : List Nat) : (mkS l).cps.toList = l := rfl
theorem mkS_size (l : List Nat) : (mkS l).cps.size = l.length := by
  show l.toArray.size = l.length
  simp
theorem mkS_getD (l : List Nat) (i : Nat) : (mkS l).cps.getD i 0 = l.getD i 0 := by
  show l.toArray.getD i 0 = l.getD i 0
  simp [List.getD_eq_getElem?_getD, Array.getD_eq_getD_getElem?]
theorem mkS_inj {l m : List Nat} (h : mkS l = mkS m) : l = m := by
  have e : (mkS l).cps.toList = (mkS m).cps.toList := by rw [h]
  exact e
theorem str_mk (z : Str) : z = mkS z.cps.toList := rfl
def letterB (c : Nat) : Bool := decide (97 ≤ c ∧ c ≤ 122)
def txtB (l : List Nat) : Bool := l.all letterB
theorem alpha_mem (c : Nat) : decide (c ∈ v_ALPHABET.cps.toList) = letterB c := by
  have e : v_ALPHABET.cps.toList = (List.range 26).map (· + 97) := by decide +kernel
  rw [e]
  unfold letterB
  apply decide_eq_decide.mpr
  simp only [List.mem_map, List.mem_range]
  constructor
  · rintro ⟨a, h1, h2⟩
    omega
  · intro h
    exact ⟨c - 97, by omega, by omega⟩
section
open Evl
theorem range_map_getD {α : Type} (d : α) : ∀ l : List α, (List.range l.length).map (fun i => l.getD i d) = l := fun l => by
  apply List.ext_getElem
  · simp
  · intro i h1 h2
    simp at h1
    simp [List.getD_eq_getElem?_getD, List.getElem?_eq_getElem h2]
def spIsText : Sp := fun vs H Q _ => ∃ l : List Nat, vs = [vS l] ∧ l.length ≤ 30000 ∧ ∀ H', Ex H H' → Q (.bl (txtB l)) H'
def spCheckT : Sp := fun vs H Q _ => ∃ l : List Nat, vs = [vS l] ∧ l.length ≤ 30000 ∧ txtB l = true ∧ ∀ H', Ex H H' → Q .non H'
def spIsZero : Sp := fun vs H Q _ => ∃ n : Int, vs = [.int n] ∧ ∀ H', Ex H H' → Q (.bl (decide (0 ≤ n))) H'
def spCheckL : Sp := fun vs H Q _ => ∃ n : Int, vs = [.int n] ∧ 0 ≤ n ∧ ∀ H', Ex H H' → Q .non H'
section
variable {P : Program} {w : World} {K : PySem.W.Frag} {mg : Str → Option Value} {base : Heap}
theorem rc_isi {K : PySem.W.Frag} {H : Hp} {v : V} {a b : String} {r : Bool} (ht : ∀ H1, Ex H H1 → TyX K H1 v (.type a)) (h : kitB a b = some r) : RC (rIsi K) [v, .ty b] H (.bl r) :=
  fun H1 e Q q => ⟨v, .ty b, .type a, .type b, r, rfl, .ty b, ht H1 e, kit_ty h, q H1 (Ex.refl H1)⟩
theorem ty_int {K : PySem.W.Frag} {H : Hp} (n : Int) : TyX K H (.int n) (.type "int") := .base (.int n)
theorem ty_str {K : PySem.W.Frag} {H : Hp} (z : Str) : TyX K H (.str z) (.type "str") := .base (.str z)
abbrev nm_is_text : List Str := ["value", "sign"]
theorem sc_is_text : FnScope nm_is_text ["value"] (defScope s_is_text) := ⟨rfl, rfl, rfl, by decide +kernel, rfl, by decide +kernel, by decide +kernel⟩
theorem b_is_text {K : PySem.W.Frag} {mg : Str → Option Value} (T : Txt K mg) : Binds K T.d_is_text ["value"] [] := T.F_is_text.bindsN fun _ _ _ _ _ _ us hl => match us, hl with | [_], _ => rfl
theorem ok_is_text (T : Txt K mg) : FnOk P w K mg base CX0 1 T.a_is_text T.d_is_text ["value"] spIsText := by
  refine T.F_is_text.ok sc_is_text (fun vs H Q E h => ?_) (fun cdv A outer s H vs Q E hr h => ⟨_, PSs.nox (pss_one (ps_ret (pe_and (pe_callB (callk (K0 := K) rIsi call_isi rfl) (by rfl) T.n_isinstance (by decide +kernel) (pa_cons (pv 0) (pa_cons (pe_bltn (v := .ty "str") (by rfl) T.n_str (by decide +kernel) rfl) pa_nil))) (pe_one (pe_callB (callk (K0 := K) rAll (cr_all rfl) rfl) (by rfl) T.n_all (by decide +kernel) (pa_cons (pe_lc (own := [("sign", 1)]) (g := (gName 1)) (tt := tYes)  rfl sc_is_text.nd (pi_str (pv 0)) (blkOk_by (own := [("sign", 1)]) (N := nm_is_text) (sc := defScope s_is_text) (by decide +kernel)) (fun _ _ _ _ _ => (pg_name (i := 1) sc_is_text.nd rfl (by first | exact Or.inl rfl | exact Or.inr rfl))) (fun _ _ _ _ _ => pts_nil) (fun _ _ _ _ _ => (pe_cmpR op_inS (pv 1) (pe_glob (v := .str v_ALPHABET) rfl T.c_ALPHABET ⟨_, rfl⟩) rfl))) pa_nil)))))), ?_⟩)
  · obtain ⟨l, rfl, _⟩ := h
    rfl
  · obtain ⟨l, rfl, hl, k⟩ := h
    refine s_ret (v := .bl (true && txtB l)) (ev_andV (ev_cb (ea_cons (ev_var rfl) (ea_cons ev_c ea_nil)) (rc_isi (fun _ _ => ty_str _) (by decide +kernel))) fun _ => ?_) (fun H1 e => by
      rw [Bool.true_and]
      exact k H1 e)
    have hz : l.length ≤ 40000 := by omega
    refine ev_cbL (el_lcY (σ := [some (vS l), none]) (j := 1) (vs := [1]) (fun i => .bl (letterB (l.getD i 0))) (ew_str (ev_var (i := 0) rfl)) (by rw [mkS_size]; exact hz) (fun x => rfl) (fun i H2 e2 hi => ?_)) (fun p H2 e2 hx Q2 q => ?_)
    · refine ev_op (ev_var rfl) ev_c (rv_val fun H3 e3 Q2 q2 => ⟨_, _, rfl, rfl, ?_⟩)
      rw [alpha_mem, mkS_getD]
      exact q2
    · rw [mkS_size] at hx
      have em : (List.range l.length).map (fun i => V.bl (letterB (l.getD i 0))) = (l.map letterB).map V.bl := by
        have e3 := congrArg (fun m => (m.map letterB).map V.bl) (range_map_getD 0 l)
        rw [← e3, List.map_map, List.map_map]
        rfl
      rw [em] at hx
      refine ⟨p, _, rfl, sq_of hx, ?_⟩
      have ea : (l.map letterB).all id = txtB l := by
        unfold txtB
        rw [List.all_map]
        rfl
      rw [ea]
      exact q H2 (Ex.refl H2)
abbrev nm_check_text : List Str := ["value"]
theorem sc_check_text : FnScope nm_check_text ["value"] (defScope s_check_text) := ⟨rfl, rfl, rfl, by decide +kernel, rfl, by decide +kernel, by decide +kernel⟩
theorem b_check_text {K : PySem.W.Frag} {mg : Str → Option Value} (T : Txt K mg) : Binds K T.d_check_text ["value"] [] := T.F_check_text.bindsN fun _ _ _ _ _ _ us hl => match us, hl with | [_], _ => rfl
theorem ok_check_text (T : Txt K mg) : FnOk P w K mg base CX0 2 T.a_check_text T.d_check_text ["value"] spCheckT := by
  refine T.F_check_text.ok sc_check_text (fun vs H Q E h => ?_) (fun cdv A outer s H vs Q E hr h => ⟨_, PSs.nox (pss_one (ps_if (pt_not (pt_val (pe_call (ok_is_text T) (hr.mono (by decide)) (by rfl) T.g_is_text T.F_is_text.kp (b_is_text T) .nil pass0 (pa_cons (pv 0) pa_nil)))) (pss_one ps_never) pss_nil)), ?_⟩)
  · obtain ⟨l, rfl, _⟩ := h
    rfl
  · obtain ⟨l, rfl, hl, ht, k⟩ := h
    refine s_when (b := false) (et_is (et_not (et_B (b := txtB l) (ev_call (vs := [vS l]) (ea_cons (ev_var rfl) ea_nil) fun H1 e Q1 q E1 => ⟨l, rfl, hl, q⟩))) (by rw [ht] <;> rfl)) (fun z => by cases z) (fun _ H1 e => k H1 e)
end
end
section
open Evl
section
variable {P : Program} {w : World} {K : PySem.W.Frag} {mg : Str → Option Value} {base : Heap}
abbrev nm_is_from_zero : List Str := ["value"]
theorem sc_is_from_zero : FnScope nm_is_from_zero ["value"] (defScope s_is_from_zero) := ⟨rfl, rfl, rfl, by decide +kernel, rfl, by decide +kernel, by decide +kernel⟩
theorem b_is_from_zero {K : PySem.W.Frag} {mg : Str → Option Value} (T : Txt K mg) : Binds K T.d_is_from_zero ["value"] [] := T.F_is_from_zero.bindsN fun _ _ _ _ _ _ us hl => match us, hl with | [_], _ => rfl
theorem ok_is_from_zero (T : Txt K mg) : FnOk P w K mg base CX0 1 T.a_is_from_zero T.d_is_from_zero ["value"] spIsZero := by
  refine T.F_is_from_zero.ok sc_is_from_zero (fun vs H Q E h => ?_) (fun cdv A outer s H vs Q E hr h => ⟨_, PSs.nox (pss_one (ps_ret (pe_and (pe_callB (callk (K0 := K) rIsi call_isi rfl) (by rfl) T.n_isinstance (by decide +kernel) (pa_cons (pv 0) (pa_cons (pe_bltn (v := .ty "int") (by rfl) T.n_int (by decide +kernel) rfl) pa_nil))) (pe_and (pe_not (pe_callB (callk (K0 := K) rIsi call_isi rfl) (by rfl) T.n_isinstance (by decide +kernel) (pa_cons (pv 0) (pa_cons (pe_bltn (v := .ty "bool") (by rfl) T.n_bool (by decide +kernel) rfl) pa_nil)))) (pe_one (pe_cmpR op_ge1 (pv 0) pe_int (nomark _))))))), ?_⟩)
  · obtain ⟨n, rfl, _⟩ := h
    rfl
  · obtain ⟨n, rfl, k⟩ := h
    refine s_ret (v := .bl (true && (!false && decide (0 ≤ n)))) (ev_andV (ev_cb (ea_cons (ev_var rfl) (ea_cons ev_c ea_nil)) (rc_isi (fun _ _ => ty_int _) (by decide +kernel))) fun _ =>
      ev_andV (ev_notV (ev_cb (ea_cons (ev_var rfl) (ea_cons ev_c ea_nil)) (rc_isi (fun _ _ => ty_int _) (by decide +kernel)))) fun _ => ev_op (ev_var rfl) ev_c (rv_I0 (i := n) (j := 0))) (fun H1 e => k H1 e)
abbrev nm_check_length : List Str := ["value"]
theorem sc_check_length : FnScope nm_check_length ["value"] (defScope s_check_length) := ⟨rfl, rfl, rfl, by decide +kernel, rfl, by decide +kernel, by decide +kernel⟩
theorem b_check_length {K : PySem.W.Frag} {mg : Str → Option Value} (T : Txt K mg) : Binds K T.d_check_length ["value"] [] := T.F_check_length.bindsN fun _ _ _ _ _ _ us hl => match us, hl with | [_], _ => rfl
theorem ok_check_length (T : Txt K mg) : FnOk P w K mg base CX0 2 T.a_check_length T.d_check_length ["value"] spCheckL := by
  refine T.F_check_length.ok sc_check_length (fun vs H Q E h => ?_) (fun cdv A outer s H vs Q E hr h => ⟨_, PSs.nox (pss_one (ps_if (pt_not (pt_val (pe_call (ok_is_from_zero T) (hr.mono (by decide)) (by rfl) T.g_is_from_zero T.F_is_from_zero.kp (b_is_from_zero T) .nil pass0 (pa_cons (pv 0) pa_nil)))) (pss_one ps_never) pss_nil)), ?_⟩)
  · obtain ⟨n, rfl, _⟩ := h
    rfl
  · obtain ⟨n, rfl, h0, k⟩ := h
    refine s_when (b := false) (et_is (et_not (et_B (b := decide (0 ≤ n)) (ev_call (vs := [V.int n]) (ea_cons (ev_var rfl) ea_nil) fun H1 e Q1 q E1 => ⟨n, rfl, q⟩))) (by rw [decide_eq_true h0] <;> rfl)) (fun z => by cases z) (fun _ H1 e => k H1 e)
end
end
/-! ### the first places -/
/-- the first place from s on that bears c -/
def nxt (l : List Nat) (s c : Nat) : Option Nat := ((l.drop s).findIdx? (· == c)).map (· + s)
def reach (l : List Nat) : Nat → List Nat → List Nat
  | _, [] => []
  | s, c :: p => match nxt l s c with
    | none => []
    | some k => k :: reach l (k + 1) p
theorem reach_no {l : List Nat} {s c : Nat} {p : List Nat} (h : nxt l s c = none) : reach l s (c :: p) = [] := by
  show (match nxt l s c with
    | none => []
    | some k => k :: reach l (k + 1) p) = []
  rw [h]
theorem reach_go {l : List Nat} {s c k : Nat} {p : List Nat} (h : nxt l s c = some k) : reach l s (c :: p) = k :: reach l (k + 1) p := by
  show (match nxt l s c with
    | none => []
    | some k => k :: reach l (k + 1) p) = _
  rw [h]
theorem nxt_none {l : List Nat} {s c : Nat} (h : ∀ v, s ≤ v → v < l.length → l.getD v 0 ≠ c) : nxt l s c = none := by
  unfold nxt
  have e : (l.drop s).findIdx? (· == c) = none := by
    rw [List.findIdx?_eq_none_iff]
    intro x hx
    obtain ⟨i, hi, e⟩ := List.mem_iff_getElem.mp hx
    rw [List.getElem_drop] at e
    rw [List.length_drop] at hi
    have h2 := h (s + i) (by omega) (by omega)
    rw [List.getD_eq_getElem?_getD, List.getElem?_eq_getElem (by omega)] at h2
    have h3 : l[s + i] ≠ c := h2
    rw [e] at h3
    exact beq_eq_false_iff_ne.mpr h3
  rw [e]
  rfl
theorem nxt_some {l : List Nat} {s c k : Nat} (h1 : s ≤ k) (h2 : k < l.length) (h3 : l.getD k 0 = c) (h : ∀ v, s ≤ v → v < k → l.getD v 0 ≠ c) : nxt l s c = some k := by
  unfold nxt
  have e : (l.drop s).findIdx? (· == c) = some (k - s) := by
    rw [List.findIdx?_eq_some_iff_getElem]
    refine ⟨by rw [List.length_drop]; omega, ?_, ?_⟩
    · rw [List.getElem_drop]
      rw [List.getD_eq_getElem?_getD, List.getElem?_eq_getElem h2] at h3
      have h4 : l[k] = c := h3
      have e2 : s + (k - s) = k := by omega
      simp only [e2, h4, beq_self_eq_true]
    · intro j hj
      rw [List.getElem_drop]
      have h5 := h (s + j) (by omega) (by omega)
      rw [List.getD_eq_getElem?_getD, List.getElem?_eq_getElem (by omega)] at h5
      have h6 : l[s + j] ≠ c := h5
      simp [h6]
  rw [e]
  show some (k - s + s) = some k
  rw [Nat.sub_add_cancel h1]
theorem find3_nxt (l : List Nat) (c s : Nat) : Txt.find3 (mkS l) ⟨#[c]⟩ (s : Int) = match nxt l s c with
    | none => -1
    | some k => (k : Int) := by
  have ef : fromIndex (mkS l).length (s : Int) = s := by
    unfold fromIndex
    rw [if_neg (by omega)]
    omega
  rcases StrLaws.find3_spec (mkS l) c (s : Int) with ⟨h1, h2⟩ | ⟨k, h1, h2, h3, h4, h5⟩
  · rw [ef, mkS_len] at h2
    rw [h1, nxt_none (l := l) (s := s) (c := c) fun v a b => by
      have h3 := h2 v a b
      rw [mkS_getD] at h3
      exact h3]
  · rw [ef] at h2 h5
    rw [mkS_len] at h3
    rw [mkS_getD] at h4
    rw [h1, nxt_some h2 h3 h4 fun v a b => by
      have h6 := h5 v a b
      rw [mkS_getD] at h6
      exact h6]
theorem nxt_lt {l : List Nat} {s c k : Nat} (h : nxt l s c = some k) : s ≤ k ∧ k < l.length ∧ l.getD k 0 = c := by
  unfold nxt at h
  rw [Option.map_eq_some_iff] at h
  obtain ⟨j, h1, h2⟩ := h
  rw [List.findIdx?_eq_some_iff_getElem] at h1
  obtain ⟨h3, h4, _⟩ := h1
  rw [List.length_drop] at h3
  rw [List.getElem_drop] at h4
  have e : l[s + j] = c := eq_of_beq h4
  refine ⟨by omega, by omega, ?_⟩
  rw [List.getD_eq_getElem?_getD, List.getElem?_eq_getElem (by omega)]
  have e2 : k = s + j := by omega
  subst e2
  exact e
theorem small1000k {n : Nat} (h : n ≤ 1000000) : n < sizeLine := Nat.lt_of_le_of_lt h (by decide)
theorem reach_len (l : List Nat) : ∀ (p : List Nat) (s : Nat), (reach l s p).length ≤ p.length
  | [], _ => Nat.le_refl _
  | c :: p, s => by
    unfold reach
    cases nxt l s c with
    | none => exact Nat.zero_le _
    | some k => exact Nat.succ_le_succ (reach_len l p (k + 1))
def natV (l : List Nat) : List V := l.map fun (k : Nat) => V.int (k : Int)
def holdsB (l p : List Nat) : Bool := decide ((reach l 0 p).length = p.length)
theorem int_eqB (a b : Nat) : decide (V.int (a : Int) = V.int (b : Int)) = decide (a = b) := by
  apply decide_eq_decide.mpr
  constructor
  · intro h
    injection h with h1
    omega
  · intro h
    rw [h]
theorem natV_len (l : List Nat) : (natV l).length = l.length := by
  unfold natV
  rw [List.length_map]
section
open Evl
theorem rc_lenS {H : Hp} {l : List Nat} (hl : l.length ≤ 30000) : RC rLenT [vS l] H (.int (l.length : Int)) := fun H1 e Q q => ⟨mkS l, rfl, by
  rw [mkS_len]
  exact sz_of (by omega), by
  rw [mkS_len]
  exact q H1 (Ex.refl H1)⟩
end
section
open Evl
variable {P : Program} {w : World} {K : PySem.W.Frag} {mg : Str → Option Value} {base : Heap}
def spReach : Sp := fun vs H Q _ => ∃ l p : List Nat, vs = [vS l, vS p] ∧ l.length ≤ 30000 ∧ p.length ≤ 30000 ∧ ∀ q H', H q = none → Ex H H' → H' q = some (.lst (natV (reach l 0 p))) → Q (.ref q) H'
abbrev nm_reached_places : List Str := ["text", "piece", "places", "place", "letter"]
theorem sc_reached_places : FnScope nm_reached_places ["text", "piece"] (defScope s_reached_places) := ⟨rfl, rfl, rfl, by decide +kernel, rfl, by decide +kernel, by decide +kernel⟩
theorem b_reached_places {K : PySem.W.Frag} {mg : Str → Option Value} (T : Txt K mg) : Binds K T.d_reached_places ["text", "piece"] [] := T.F_reached_places.bindsN fun _ _ _ _ _ _ us hl => match us, hl with | [_, _], _ => rfl
theorem ok_reached_places (T : Txt K mg) : FnOk P w K mg base CX0 1 T.a_reached_places T.d_reached_places ["text", "piece"] spReach := by
  refine T.F_reached_places.ok sc_reached_places (fun vs H Q E h => ?_) (fun cdv A outer s H vs Q E hr h => ⟨_, PSs.nox (pss_cons (ps_set (i := 2) sc_reached_places.nd rfl (by first | exact Or.inl rfl | exact Or.inr rfl) (pe_lst pa_nil))
      (pss_cons (ps_set (i := 3) sc_reached_places.nd rfl (by first | exact Or.inl rfl | exact Or.inr rfl) (pe_un un_neg pe_int))
      (pss_cons (ps_for PassesOwn.never rfl (pi_str (pv 1)) (pg_name (i := 4) sc_reached_places.nd rfl (by first | exact Or.inl rfl | exact Or.inr rfl))
      (pss_cons (ps_set (i := 3) sc_reached_places.nd rfl (by first | exact Or.inl rfl | exact Or.inr rfl) (tbmk (K0 := K) (pe_bm PySem.F.plainAttrs_str PySem.F.slot_str_find PySem.F.type_str_find mt_find_q (pv 0) (pa_cons (pv 4) (pa_cons (pe_op op_add (pv 3) pe_int) pa_nil))) rfl))
      (pss_cons (ps_if (pt_cmpR op_lt (pv 3) pe_int (nomark _)) (pss_one ps_break) pss_nil)
      (pss_one (ps_expr (tbmk (K0 := K) (pe_bm PySem.F.plainAttrs_list PySem.F.slot_list_append PySem.F.type_list_append mt_append (pv 2) (pa_cons (pv 3) pa_nil)) rfl))))))
      (pss_one (ps_ret (pv 2)))))), ?_⟩)
  · obtain ⟨l, p, rfl, _⟩ := h
    rfl
  · obtain ⟨l, p, rfl, hl, hp, k⟩ := h
    refine q_asgL (el_lst ea_nil (by decide)) fun q H1 hq e1 h1 => ?_
    refine q_asg (v := .int (-1)) (ev_un ev_c ru_neg) fun H2 e2 => ?_
    refine q_forN (et_str (w := mkS p) (ev_var (i := 1) rfl)) (fun i σ H' => ∃ (done : List Nat) (st : Nat) (c : Option V), σ = [some (vS l), some (vS p), some (.ref q), some (.int ((st : Int) - 1)), c] ∧ done.length = i ∧ reach l 0 p = done ++ reach l st (p.drop i) ∧ Ex H H' ∧ H' q = some (.lst (natV done)))
      (fun H3 e3 => ⟨[], 0, none, rfl, rfl, rfl, (e1.trans e2).trans e3, (e2.trans e3) q _ h1⟩) ?_ ?_
    · rintro i σ H' hi ⟨done, st, c, rfl, hd, hre, ex, hq'⟩
      rw [mkS_size] at hi
      have ed : p.drop i = p.getD i 0 :: p.drop (i + 1) := by
        rw [List.drop_eq_getElem_cons hi, List.getD_eq_getElem?_getD, List.getElem?_eq_getElem hi]
        rfl
      have est : ((st : Int) - 1 + 1) = ((st : Nat) : Int) := by omega
      rw [mkS_getD]
      refine ⟨_, rfl, rfl, _, rfl, _, rfl, _, _, rfl, rfl, _, _, _, rfl, rfl, ?_⟩
      rw [est, find3_nxt]
      rw [ed] at hre
      cases hn : nxt l st (p.getD i 0) with
      | none =>
        refine ⟨_, rfl, _, _, rfl, rfl, _, rfl, iteT ?_⟩
        refine ⟨_, rfl, k q H' hq ex ?_⟩
        rw [reach_no hn, List.append_nil] at hre
        rw [hre]
        exact hq'
      | some kk =>
        have hdl : done.length < 30000 := by omega
        refine ⟨_, rfl, _, _, rfl, rfl, _, rfl, ?_⟩
        have c0 : decide (((kk : Nat) : Int) < 0) = false := decide_eq_false (by omega)
        show (if decide (((kk : Nat) : Int) < 0) = true then _ else _)
        rw [c0]
        refine iteF ?_
        refine ⟨_, rfl, .inl ⟨rfl, _, sq_of hq'⟩, _, rfl, q, _, _, rfl, rfl, hq', ?_, ?_⟩
        · unfold natV
          rw [List.length_map]
          exact small1000k (by omega)
        · rw [reach_go hn] at hre
          refine ⟨done ++ [kk], kk + 1, some (.str ⟨#[p.getD i 0]⟩), ?_, by rw [List.length_append, hd]; rfl, by rw [hre, List.append_assoc]; rfl, Ex.mut ex hq, ?_⟩
          · have e3 : (((kk + 1 : Nat) : Int) - 1) = (kk : Int) := by omega
            rw [e3]
            rfl
          · have e4 : natV (done ++ [kk]) = natV done ++ [V.int (kk : Int)] := by
              unfold natV
              rw [List.map_append]
              rfl
            rw [e4]
            exact upd_same
    · rintro σ H' ⟨done, st, c, rfl, hd, hre, ex, hq'⟩
      rw [mkS_size, List.drop_length] at hre
      refine ⟨_, rfl, k q H' hq ex ?_⟩
      have hre2 : reach l 0 p = done ++ [] := hre
      rw [List.append_nil] at hre2
      rw [hre2]
      exact hq'
def spHolds : Sp := fun vs H Q _ => ∃ l p : List Nat, vs = [vS l, vS p] ∧ l.length ≤ 30000 ∧ p.length ≤ 30000 ∧ txtB l = true ∧ txtB p = true ∧ ∀ H', Ex H H' → Q (.bl (holdsB l p)) H'
def spFirst : Sp := fun vs H Q _ => ∃ l p : List Nat, vs = [vS l, vS p] ∧ l.length ≤ 30000 ∧ p.length ≤ 30000 ∧ txtB l = true ∧ txtB p = true ∧ holdsB l p = true ∧ ∀ q H', H q = none → Ex H H' → H' q = some (.lst (natV (reach l 0 p))) → Q (.ref q) H'
theorem spl_reach {l p : List Nat} {H : Hp} (hl : l.length ≤ 30000) (hp : p.length ≤ 30000) : SpL spReach [vS l, vS p] H (natV (reach l 0 p)) := fun H1 e Q q E => ⟨l, p, rfl, hl, hp, q⟩
def spPieceB : Sp := fun vs H Q _ => ∃ l p : List Nat, vs = [vS l, vS p] ∧ l.length ≤ 30000 ∧ p.length ≤ 30000 ∧ ∀ H', Ex H H' → Q (.bl (holdsB l p)) H'
abbrev nm_is_piece : List Str := ["text", "piece"]
theorem sc_is_piece : FnScope nm_is_piece ["text", "piece"] (defScope s_is_piece) := ⟨rfl, rfl, rfl, by decide +kernel, rfl, by decide +kernel, by decide +kernel⟩
theorem b_is_piece {K : PySem.W.Frag} {mg : Str → Option Value} (T : Txt K mg) : Binds K T.d_is_piece ["text", "piece"] [] := T.F_is_piece.bindsN fun _ _ _ _ _ _ us hl => match us, hl with | [_, _], _ => rfl
theorem ok_is_piece (T : Txt K mg) : FnOk P w K mg base CX0 2 T.a_is_piece T.d_is_piece ["text", "piece"] spPieceB := by
  refine T.F_is_piece.ok sc_is_piece (fun vs H Q E h => ?_) (fun cdv A outer s H vs Q E hr h => ⟨_, PSs.nox (pss_one (ps_ret (pe_cmpR op_eq (pe_callB (callk (K0 := K) rLenQ call_len_q rfl) (by rfl) T.n_len (by decide +kernel) (pa_cons (pe_call (ok_reached_places T) (hr.mono (by decide)) (by rfl) T.g_reached_places T.F_reached_places.kp (b_reached_places T) .nil pass0 (pa_cons (pv 0) (pa_cons (pv 1) pa_nil))) pa_nil)) (pe_callB call_len_t (by rfl) T.n_len (by decide +kernel) (pa_cons (pv 1) pa_nil)) (nomark _)))), ?_⟩)
  · obtain ⟨l, p, rfl, _⟩ := h
    rfl
  · obtain ⟨l, p, rfl, hl, hp, k⟩ := h
    refine s_ret (v := .bl (holdsB l p)) (ev_is (ev_op (x := .int ((natV (reach l 0 p)).length : Int)) (y := .int (p.length : Int)) (ev_cbL (el_call (vs := [vS l, vS p]) (ea_cons (ev_var rfl) (ea_cons (ev_var rfl) ea_nil)) (spl_reach hl hp)) (fun q H3 e3 hx Q3 q3 => ⟨q, _, rfl, .inl (sq_of hx), q3 H3 (Ex.refl H3)⟩)) (ev_cb (ea_cons (ev_var rfl) ea_nil) (rc_lenS hp)) (rv_eq rfl)) ?_) (fun H3 e3 => k H3 e3)
    rw [natV_len, int_eqB]
    rfl
abbrev nm_holds : List Str := ["text", "piece"]
theorem sc_holds : FnScope nm_holds ["text", "piece"] (defScope s_holds) := ⟨rfl, rfl, rfl, by decide +kernel, rfl, by decide +kernel, by decide +kernel⟩
theorem b_holds {K : PySem.W.Frag} {mg : Str → Option Value} (T : Txt K mg) : Binds K T.d_holds ["text", "piece"] [] := T.F_holds.bindsN fun _ _ _ _ _ _ us hl => match us, hl with | [_, _], _ => rfl
theorem ok_holds (T : Txt K mg) : FnOk P w K mg base CX0 3 T.a_holds T.d_holds ["text", "piece"] spHolds := by
  refine T.F_holds.ok sc_holds (fun vs H Q E h => ?_) (fun cdv A outer s H vs Q E hr h => ⟨_, PSs.nox (pss_cons (ps_expr (pe_call (ok_check_text T) (hr.mono (by decide)) (by rfl) T.g_check_text T.F_check_text.kp (b_check_text T) .nil pass0 (pa_cons (pv 0) pa_nil)))
      (pss_cons (ps_expr (pe_call (ok_check_text T) (hr.mono (by decide)) (by rfl) T.g_check_text T.F_check_text.kp (b_check_text T) .nil pass0 (pa_cons (pv 1) pa_nil)))
      (pss_one (ps_ret (pe_call (ok_is_piece T) (hr.mono (by decide)) (by rfl) T.g_is_piece T.F_is_piece.kp (b_is_piece T) .nil pass0 (pa_cons (pv 0) (pa_cons (pv 1) pa_nil))))))), ?_⟩)
  · obtain ⟨l, p, rfl, _⟩ := h
    rfl
  · obtain ⟨l, p, rfl, hl, hp, tl, tp, k⟩ := h
    refine q_drop (v := .non) (ev_call (vs := [vS l]) (ea_cons (ev_var rfl) ea_nil) fun H1 e Q1 q E1 => ⟨l, rfl, hl, tl, q⟩) fun H1 e1 => ?_
    refine q_drop (v := .non) (ev_call (vs := [vS p]) (ea_cons (ev_var rfl) ea_nil) fun H2 e Q1 q E1 => ⟨p, rfl, hp, tp, q⟩) fun H2 e2 => ?_
    exact s_ret (v := .bl (holdsB l p)) (ev_call (vs := [vS l, vS p]) (ea_cons (ev_var rfl) (ea_cons (ev_var rfl) ea_nil)) fun H3 e Q1 q E1 => ⟨l, p, rfl, hl, hp, q⟩) (fun H3 e3 => k H3 ((e1.trans e2).trans e3))
abbrev nm_first_places : List Str := ["text", "piece"]
theorem sc_first_places : FnScope nm_first_places ["text", "piece"] (defScope s_first_places) := ⟨rfl, rfl, rfl, by decide +kernel, rfl, by decide +kernel, by decide +kernel⟩
theorem b_first_places {K : PySem.W.Frag} {mg : Str → Option Value} (T : Txt K mg) : Binds K T.d_first_places ["text", "piece"] [] := T.F_first_places.bindsN fun _ _ _ _ _ _ us hl => match us, hl with | [_, _], _ => rfl
theorem ok_first_places (T : Txt K mg) : FnOk P w K mg base CX0 4 T.a_first_places T.d_first_places ["text", "piece"] spFirst := by
  refine T.F_first_places.ok sc_first_places (fun vs H Q E h => ?_) (fun cdv A outer s H vs Q E hr h => ⟨_, PSs.nox (pss_cons (ps_if (pt_not (pt_val (pe_call (ok_holds T) (hr.mono (by decide)) (by rfl) T.g_holds T.F_holds.kp (b_holds T) .nil pass0 (pa_cons (pv 0) (pa_cons (pv 1) pa_nil))))) (pss_one ps_never) pss_nil)
      (pss_one (ps_ret (pe_call (ok_reached_places T) (hr.mono (by decide)) (by rfl) T.g_reached_places T.F_reached_places.kp (b_reached_places T) .nil pass0 (pa_cons (pv 0) (pa_cons (pv 1) pa_nil)))))), ?_⟩)
  · obtain ⟨l, p, rfl, _⟩ := h
    rfl
  · obtain ⟨l, p, rfl, hl, hp, tl, tp, hh, k⟩ := h
    refine q_when (b := false) (et_is (et_not (et_B (b := holdsB l p) (ev_call (vs := [vS l, vS p]) (ea_cons (ev_var rfl) (ea_cons (ev_var rfl) ea_nil)) fun H1 e Q1 q E1 => ⟨l, p, rfl, hl, hp, tl, tp, q⟩))) (by rw [hh] <;> rfl)) (fun z => by cases z) (fun _ H1 e1 => ?_)
    exact s_retL (el_call (vs := [vS l, vS p]) (ea_cons (ev_var rfl) (ea_cons (ev_var rfl) ea_nil)) (spl_reach hl hp)) fun q H2 hq e2 h2 => k q H2 (fresh_back e1 hq) (e1.trans e2) h2
end
/-! ### the rows of followers -/
theorem sg_inj {a b : Nat} (h : sg a = sg b) : a = b := by
  have e : (sg a).cps.toList = (sg b).cps.toList := by rw [h]
  have e2 : [a] = [b] := e
  injection e2
theorem key_sg {a b : Nat} : ((Sum.inr (sg a) : Key) = Sum.inr (sg b)) ↔ a = b := ⟨fun h => sg_inj (Sum.inr.inj h), fun h => by rw [h]⟩
def embK (kvs : List (Nat × Nat)) : List (Key × V) := kvs.map fun e => ((Sum.inr (sg e.1) : Key), V.int (e.2 : Int))
def putA (kvs : List (Nat × Nat)) (c b : Nat) : List (Nat × Nat) := if (kvs.any fun e => decide (e.1 = c)) = true then kvs.map (fun e => if e.1 = c then (e.1, b) else e) else kvs ++ [(c, b)]
def valA (kvs : List (Nat × Nat)) (c : Nat) : Option Nat := (kvs.find? fun e => decide (e.1 = c)).map (·.2)
theorem any_emb (c : Nat) : ∀ kvs : List (Nat × Nat), ((embK kvs).any fun kv => decide (kv.1 = (Sum.inr (sg c) : Key))) = kvs.any fun e => decide (e.1 = c)
  | [] => rfl
  | e :: r => by
    have ih := any_emb c r
    show (decide ((Sum.inr (sg e.1) : Key) = Sum.inr (sg c)) || (embK r).any _) = (decide (e.1 = c) || r.any _)
    rw [ih, decide_eq_decide.mpr (key_sg (a := e.1) (b := c))]
theorem putK_emb (kvs : List (Nat × Nat)) (c b : Nat) : putK (embK kvs) (Sum.inr (sg c)) (V.int (b : Int)) = embK (putA kvs c b) := by
  unfold putK putA
  rw [any_emb]
  by_cases h : (kvs.any fun e => decide (e.1 = c)) = true
  · rw [if_pos h, if_pos h]
    unfold embK
    rw [List.map_map, List.map_map]
    apply List.map_congr_left
    intro e _
    show (if (Sum.inr (sg e.1) : Key) = Sum.inr (sg c) then _ else _) = _
    by_cases h2 : e.1 = c
    · rw [if_pos (key_sg.mpr h2)]
      show ((Sum.inr (sg e.1) : Key), V.int (b : Int)) = ((Sum.inr (sg (if e.1 = c then (e.1, b) else e).1) : Key), V.int ((if e.1 = c then (e.1, b) else e).2 : Nat))
      rw [if_pos h2]
    · rw [if_neg (fun z => h2 (key_sg.mp z))]
      show _ = ((Sum.inr (sg (if e.1 = c then (e.1, b) else e).1) : Key), V.int ((if e.1 = c then (e.1, b) else e).2 : Nat))
      rw [if_neg h2]
  · rw [if_neg h, if_neg h]
    unfold embK
    rw [List.map_append]
    rfl
theorem valV_emb (c : Nat) : ∀ kvs : List (Nat × Nat), valV (embK kvs) (Sum.inr (sg c)) = (valA kvs c).map fun b => V.int (b : Int)
  | [] => rfl
  | e :: r => by
    have ih := valV_emb c r
    by_cases h : e.1 = c
    · have e1 : valV (embK (e :: r)) (Sum.inr (sg c)) = some (V.int (e.2 : Int)) := valV_pos (key_sg.mpr h)
      have e2 : valA (e :: r) c = some e.2 := by
        unfold valA
        rw [List.find?_cons_of_pos (by simp [h])]
        rfl
      rw [e1, e2]
      rfl
    · have e1 : valV (embK (e :: r)) (Sum.inr (sg c)) = valV (embK r) (Sum.inr (sg c)) := valV_neg (fun z => h (key_sg.mp z))
      have e2 : valA (e :: r) c = valA r c := by
        unfold valA
        rw [List.find?_cons_of_neg (by simp [h])]
      rw [e1, e2, ih]
theorem embK_len (kvs : List (Nat × Nat)) : (embK kvs).length = kvs.length := List.length_map _
theorem putA_len (kvs : List (Nat × Nat)) (c b : Nat) : (putA kvs c b).length ≤ kvs.length + 1 := by
  unfold putA
  split
  · rw [List.length_map]
    omega
  · rw [List.length_append]
    exact Nat.le_refl _
/-- for each letter from here on, the place behind its first place -/
def rowF : Nat → List Nat → List (Nat × Nat)
  | _, [] => []
  | o, c :: r => putA (rowF (o + 1) r) c (o + 1)
theorem rowF_len : ∀ (l : List Nat) (o : Nat), (rowF o l).length ≤ l.length
  | [], _ => Nat.le_refl _
  | c :: r, o => Nat.le_trans (putA_len _ _ _) (Nat.succ_le_succ (rowF_len r (o + 1)))
/-- the rows of l stand at p -/
def FolAt (H : Hp) (l : List Nat) (p : Addr) : Prop := ∃ ds : List Addr, ds.length = l.length + 1 ∧ H p = some (.lst (ds.map V.ref)) ∧ ∀ j d, ds[j]? = some d → H d = some (.dK (embK (rowF j (l.drop j))))
section
open Evl
theorem FolAt.mono {H H' : Hp} {l : List Nat} {p : Addr} (h : FolAt H l p) (e : Ex H H') : FolAt H' l p := by
  obtain ⟨ds, h1, h2, h3⟩ := h
  exact ⟨ds, h1, e _ _ h2, fun j d hj => e _ _ (h3 j d hj)⟩
def spFol : Sp := fun vs H Q _ => ∃ l : List Nat, vs = [vS l] ∧ l.length ≤ 30000 ∧ ∀ p H', H p = none → Ex H H' → FolAt H' l p → Q (.ref p) H'
variable {P : Program} {w : World} {K : PySem.W.Frag} {mg : Str → Option Value} {base : Heap}
theorem atI_end {α : Type} {xs : List α} {v : α} (h : xs[xs.length - 1]? = some v) : atI xs (-1) = some v := by
  have h1 := (List.getElem?_eq_some_iff.mp h)
  obtain ⟨h2, h3⟩ := h1
  have e : xs = xs.dropLast ++ [v] := by
    rw [← h3, ← List.getLast_eq_getElem (by intro z; rw [z] at h2; cases h2)]
    exact (List.dropLast_concat_getLast _).symm
  rw [e]
  exact atI_last _ _
theorem drop_at {l : List Nat} {k : Nat} (h : k < l.length) : l.drop k = l.getD k 0 :: l.drop (k + 1) := by
  rw [List.drop_eq_getElem_cons h, List.getD_eq_getElem?_getD, List.getElem?_eq_getElem h]
  rfl
theorem atI_ch {l : List Nat} {k : Nat} (h : k < l.length) : atI (mkS l).cps.toList (k : Int) = some (l.getD k 0) := by
  rw [mkS_list]
  refine atI_nat ?_
  rw [List.getElem?_eq_getElem h, List.getD_eq_getElem?_getD, List.getElem?_eq_getElem h]
  rfl
end
section
open Evl
variable {P : Program} {w : World} {K : PySem.W.Frag} {mg : Str → Option Value} {base : Heap}
abbrev nm_followers : List Str := ["text", "rows", "place", "row"]
theorem sc_followers : FnScope nm_followers ["text"] (defScope s_followers) := ⟨rfl, rfl, rfl, by decide +kernel, rfl, by decide +kernel, by decide +kernel⟩
theorem b_followers {K : PySem.W.Frag} {mg : Str → Option Value} (T : Txt K mg) : Binds K T.d_followers ["text"] [] := T.F_followers.bindsN fun _ _ _ _ _ _ us hl => match us, hl with | [_], _ => rfl
theorem ok_followers (T : Txt K mg) : FnOk P w K mg base CX0 1 T.a_followers T.d_followers ["text"] spFol := by
  refine T.F_followers.ok sc_followers (fun vs H Q E h => ?_) (fun cdv A outer s H vs Q E hr h => ⟨_, PSs.nox (pss_cons (ps_set (i := 1) sc_followers.nd rfl (by first | exact Or.inl rfl | exact Or.inr rfl) (pe_lst (pa_cons pe_dnewK pa_nil)))
      (pss_cons (ps_for PassesOwn.never rfl (pi_revR (by rfl) T.n_reversed (prg_1 (by rfl) T.n_range (pe_callB call_len_t (by rfl) T.n_len (by decide +kernel) (pa_cons (pv 0) pa_nil)))) (pg_name (i := 2) sc_followers.nd rfl (by first | exact Or.inl rfl | exact Or.inr rfl))
      (pss_cons (ps_set (i := 3) sc_followers.nd rfl (by first | exact Or.inl rfl | exact Or.inr rfl) (pe_callTy call_dict_q (by rfl) T.n_dict (by decide +kernel) (pa_cons (pe_ix (ixk (K0 := K) rIxL ix_list rfl) (pv 1) (pe_un un_neg pe_int) (fun _ _ => rfl)) pa_nil)))
      (pss_cons (ps_dput (hu_of hr) (pv 3) (pe_ix ix_str (pv 0) (pv 2) (fun _ _ => rfl)) (pe_op op_add (pv 2) pe_int) rfl)
      (pss_one (ps_expr (tbmk (K0 := K) (pe_bm PySem.F.plainAttrs_list PySem.F.slot_list_append PySem.F.type_list_append mt_append (pv 1) (pa_cons (pv 3) pa_nil)) rfl))))))
      (pss_one (ps_ret (revk (K0 := K) (pe_revL (pv 1)) rfl))))), ?_⟩)
  · obtain ⟨l, rfl, _⟩ := h
    rfl
  · obtain ⟨l, rfl, hl, k⟩ := h
    refine fun d0 hd0 => ⟨by show 1 ≤ sizeLine; decide, fun q hq => ?_⟩
    have nq : q ≠ d0 := fun z => by
      rw [z, upd_same] at hq
      cases hq
    have hq0 : H q = none := by
      rw [upd_ne nq] at hq
      exact hq
    refine q_forN (et_rev1 (n := (l.length : Int)) (ev_cb (ea_cons (ev_var rfl) ea_nil) (rc_lenS hl)) (by omega))
      (fun i σ H' => ∃ (ds : List Addr) (c r : Option V), σ = [some (vS l), some (.ref q), c, r] ∧ ds.length = i + 1 ∧ Ex H H' ∧ H' q = some (.lst (ds.map V.ref)) ∧ (∀ d ∈ ds, H d = none ∧ d ≠ q) ∧ i ≤ l.length ∧ ∀ j d, ds[j]? = some d → H' d = some (.dK (embK (rowF (l.length - j) (l.drop (l.length - j))))))
      (fun H1 e1 => ⟨[d0], none, none, rfl, rfl, ((Ex.new hd0).trans (Ex.new hq)).trans e1, e1 _ _ upd_same, fun d hd => ?_, Nat.zero_le _, fun j d hj => ?_⟩) ?_ ?_
    · rw [List.mem_singleton.mp hd]
      exact ⟨hd0, nq.symm⟩
    · cases j with
      | zero =>
        have ed : d0 = d := Option.some.inj hj
        subst ed
        rw [Nat.sub_zero, List.drop_length]
        refine e1 _ _ ?_
        rw [upd_ne nq.symm]
        exact upd_same
      | succ j => cases hj
    · rintro i σ H' hi ⟨ds, c, r, rfl, hlen, ex, hq', hds, hil, hrow⟩
      have hi2 : i < l.length := by omega
      obtain ⟨dl, hdl⟩ : ∃ d, ds[i]? = some d := ⟨ds[i], List.getElem?_eq_getElem (by omega)⟩
      have hlast : atI (ds.map V.ref) (-1) = some (V.ref dl) := by
        refine atI_end ?_
        rw [List.length_map, hlen, List.getElem?_map, Nat.add_sub_cancel, hdl]
        rfl
      have hrl := hrow i dl hdl
      have epl : (l.length : Int) - 1 - (i : Int) = ((l.length - 1 - i : Nat) : Int) := by omega
      rw [epl]
      have hk : l.length - 1 - i < l.length := by omega
      refine ⟨_, rfl, _, rfl, q, _, _, _, rfl, rfl, sq_of hq', hlast, dl, _, rfl, .inl hrl, fun dn hdn => ?_⟩
      have ndq : dn ≠ q := fun z => by
        rw [z, hq'] at hdn
        cases hdn
      have hn0 : H dn = none := fresh_back ex hdn
      refine ⟨_, rfl, _, _, rfl, rfl, _, rfl, _, rfl, _, rfl, mkS l, _, _, rfl, rfl, (by rw [mkS_len]; exact sz_of (by omega)), atI_ch hk, dn, _, rfl, DPut.k (k := Sum.inr (sg (l.getD (l.length - 1 - i) 0))) upd_same ?_, ?_⟩
      · rw [embK_len]
        have := rowF_len (l.drop (l.length - i)) (l.length - i)
        rw [List.length_drop] at this
        exact small1000k (by omega)
      rw [upd_upd]
      have hq2 : ∀ o, upd H' dn o q = some (.lst (ds.map V.ref)) := fun o => by
        rw [upd_ne ndq.symm]
        exact hq'
      refine ⟨_, rfl, .inl ⟨rfl, _, sq_of (hq2 _)⟩, _, rfl, q, _, _, rfl, rfl, hq2 _, (by rw [List.length_map, hlen]; exact small1000k (by omega)), ?_⟩
      have er : ((l.length - 1 - i : Nat) : Int) + 1 = ((l.length - 1 - i + 1 : Nat) : Int) := by omega
      simp only [er, putK_emb]
      have eds : ds.map V.ref ++ [V.ref dn] = (ds ++ [dn]).map V.ref := by
        rw [List.map_append]
        rfl
      rw [eds]
      refine ⟨ds ++ [dn], _, _, rfl, by rw [List.length_append, hlen]; rfl, Ex.mut (Ex.mut ex hn0) hq0, upd_same, fun d hd => ?_, by omega, fun j d hj => ?_⟩
      · rcases List.mem_append.mp hd with h | h
        · exact hds d h
        · rw [List.mem_singleton.mp h]
          exact ⟨hn0, ndq⟩
      · by_cases hji : j < ds.length
        · rw [List.getElem?_append_left hji] at hj
          have hm := List.mem_of_getElem? hj
          have e2 := hrow j d hj
          rw [upd_ne (hds d hm).2, upd_ne (fun z => by rw [z, hdn] at e2; cases e2)]
          exact e2
        · have ej : j = i + 1 := by
            have h2 := (List.getElem?_eq_some_iff.mp hj).1
            rw [List.length_append, hlen] at h2
            have h3 : [dn].length = 1 := rfl
            omega
          subst ej
          rw [List.getElem?_append_right (by omega), hlen, Nat.sub_self] at hj
          have ed : dn = d := Option.some.inj hj
          subst ed
          rw [upd_ne ndq, upd_same]
          have e3 : l.length - (i + 1) = l.length - 1 - i := by omega
          rw [e3, drop_at hk]
          have e4 : l.length - 1 - i + 1 = l.length - i := by omega
          show _ = some (HO.dK (embK (putA (rowF (l.length - 1 - i + 1) (l.drop (l.length - 1 - i + 1))) (l.getD (l.length - 1 - i) 0) (l.length - 1 - i + 1))))
          rw [e4]
    · rintro σ H' ⟨ds, c, r, rfl, hlen, ex, hq', hds, hil, hrow⟩
      have en : ((l.length : Int)).toNat = l.length := by omega
      rw [en] at hlen
      refine ⟨_, rfl, q, _, rfl, sq_of hq', fun p hp => ?_⟩
      refine k p _ (fresh_back ex hp) (ex.trans (Ex.new hp)) ⟨ds.reverse, by rw [List.length_reverse, hlen], by rw [upd_same, List.map_reverse], fun j d hj => ?_⟩
      have hj2 := (List.getElem?_eq_some_iff.mp hj).1
      rw [List.length_reverse, hlen] at hj2
      rw [List.getElem?_reverse (by omega)] at hj
      have h2 := hrow _ d hj
      have e3 : l.length - (ds.length - 1 - j) = j := by omega
      rw [e3] at h2
      exact (Ex.new hp) _ _ h2
end
/-! ### the numbers of pieces -/
theorem putK_length_le {κ : Type} [DecidableEq κ] (kvs : List (κ × V)) (k : κ) (v : V) : (putK kvs k v).length ≤ kvs.length + 1 := by
  unfold putK
  split
  · rw [List.length_map]
    omega
  · rw [List.length_append]
    exact Nat.le_refl _
def newRow (n : Nat) (sh tw : List Int) : List Int := 1 :: (List.range n).map fun m => sh.getD (m + 1) 0 + sh.getD m 0 - tw.getD m 0
def zeroRow (n : Nat) : List Int := List.replicate (n + 1) 0
def allC (n : Nat) : Nat → List Nat → List (List Int)
  | _, [] => [1 :: List.replicate n 0]
  | o, c :: r => newRow n ((allC n (o + 1) r).getD 0 []) (match valA (rowF (o + 1) r) c with
    | none => zeroRow n
    | some b => (allC n (o + 1) r).getD (b - (o + 1)) []) :: allC n (o + 1) r
def cR (l : List Nat) (i : Nat) : List Int := (allC l.length i (l.drop i)).getD 0 []
theorem allC_at {l : List Nat} {i : Nat} (h : i < l.length) : allC l.length i (l.drop i) = newRow l.length ((allC l.length (i + 1) (l.drop (i + 1))).getD 0 []) (match valA (rowF (i + 1) (l.drop (i + 1))) (l.getD i 0) with
    | none => zeroRow l.length
    | some b => (allC l.length (i + 1) (l.drop (i + 1))).getD (b - (i + 1)) []) :: allC l.length (i + 1) (l.drop (i + 1)) := by
  rw [drop_at h]
  rfl
theorem allC_getD (l : List Nat) : ∀ (j i : Nat), i + j ≤ l.length → (allC l.length i (l.drop i)).getD j [] = cR l (i + j)
  | 0, i, _ => rfl
  | j + 1, i, h => by
    rw [allC_at (show i < l.length by omega)]
    have ih := allC_getD l j (i + 1) (by omega)
    have e : i + 1 + j = i + (j + 1) := by omega
    rw [← e, ← ih]
    rfl
theorem putA_any {kvs : List (Nat × Nat)} {c b : Nat} {x : Nat × Nat} (h : x ∈ putA kvs c b) : x ∈ kvs ∨ x = (c, b) := by
  unfold putA at h
  split at h
  · obtain ⟨e, he, h2⟩ := List.mem_map.mp h
    split at h2
    · rename_i h3
      right
      rw [← h2, h3]
    · left
      rw [← h2]
      exact he
  · rcases List.mem_append.mp h with h2 | h2
    · exact .inl h2
    · exact .inr (List.mem_singleton.mp h2)
theorem rowF_bd : ∀ (l : List Nat) (o : Nat) (x : Nat × Nat), x ∈ rowF o l → o + 1 ≤ x.2 ∧ x.2 ≤ o + l.length
  | [], _, _, h => by cases h
  | c :: r, o, x, h => by
    rcases putA_any (show x ∈ putA (rowF (o + 1) r) c (o + 1) from h) with h2 | h2
    · have ih := rowF_bd r (o + 1) x h2
      have e : (c :: r).length = r.length + 1 := rfl
      omega
    · rw [h2]
      have e : (c :: r).length = r.length + 1 := rfl
      exact ⟨Nat.le_refl _, by show o + 1 ≤ _; omega⟩
theorem valA_mem {kvs : List (Nat × Nat)} {c b : Nat} (h : valA kvs c = some b) : (c, b) ∈ kvs := by
  unfold valA at h
  rw [Option.map_eq_some_iff] at h
  obtain ⟨e, h1, h2⟩ := h
  have h3 := List.find?_some h1
  have h4 : e.1 = c := by simpa using h3
  have h5 := List.mem_of_find?_eq_some h1
  rw [← h2, ← h4]
  exact h5
theorem valA_bd {l : List Nat} {i c b : Nat} (hi : i ≤ l.length) (h : valA (rowF i (l.drop i)) c = some b) : i + 1 ≤ b ∧ b ≤ l.length := by
  have h2 := rowF_bd _ _ _ (valA_mem h)
  rw [List.length_drop] at h2
  have h3 : i + 1 ≤ b ∧ b ≤ i + (l.length - i) := h2
  omega
theorem cR_end (l : List Nat) : cR l l.length = 1 :: List.replicate l.length 0 := by
  unfold cR
  rw [List.drop_length]
  rfl
theorem cR_step {l : List Nat} {i : Nat} (h : i < l.length) : cR l i = newRow l.length (cR l (i + 1)) (match valA (rowF (i + 1) (l.drop (i + 1))) (l.getD i 0) with
    | none => zeroRow l.length
    | some b => cR l b) := by
  have e : cR l i = newRow l.length ((allC l.length (i + 1) (l.drop (i + 1))).getD 0 []) (match valA (rowF (i + 1) (l.drop (i + 1))) (l.getD i 0) with
    | none => zeroRow l.length
    | some b => (allC l.length (i + 1) (l.drop (i + 1))).getD (b - (i + 1)) []) := by
    unfold cR
    rw [allC_at h]
    rfl
  rw [e]
  cases hv : valA (rowF (i + 1) (l.drop (i + 1))) (l.getD i 0) with
  | none => rfl
  | some b =>
    have hb := valA_bd (by omega) hv
    have e2 := allC_getD l (b - (i + 1)) (i + 1) (by omega)
    have e3 : i + 1 + (b - (i + 1)) = b := by omega
    rw [e3] at e2
    show newRow l.length _ ((allC l.length (i + 1) (l.drop (i + 1))).getD (b - (i + 1)) []) = newRow l.length _ (cR l b)
    rw [e2]
    rfl
theorem newRow_len (n : Nat) (a b : List Int) : (newRow n a b).length = n + 1 := by
  unfold newRow
  rw [List.length_cons, List.length_map, List.length_range]
theorem cR_len {l : List Nat} {i : Nat} (h : i ≤ l.length) : (cR l i).length = l.length + 1 := by
  by_cases e : i = l.length
  · rw [e, cR_end, List.length_cons, List.length_replicate]
  · rw [cR_step (by omega), newRow_len]
def intV (l : List Int) : List V := l.map V.int
theorem intV_len (l : List Int) : (intV l).length = l.length := List.length_map _
theorem intV_at {l : List Int} {j : Nat} (h : j < l.length) : atI (intV l) (j : Int) = some (V.int (l.getD j 0)) := by
  refine atI_nat ?_
  unfold intV
  rw [List.getElem?_map, List.getElem?_eq_getElem h, List.getD_eq_getElem?_getD, List.getElem?_eq_getElem h]
  rfl
/-- the numbers of l stand at a -/
def NumAt (H0 H : Hp) (l : List Nat) (a : Addr) : Prop := ∃ kvs : List (Key × V), H a = some (.dK kvs) ∧ ∀ i, i ≤ l.length → ∃ r, valV kvs (Sum.inl (i : Int)) = some (.ref r) ∧ H0 r = none ∧ H r = some (.lst (intV (cR l i)))
section
open Evl
variable {P : Program} {w : World} {K : PySem.W.Frag} {mg : Str → Option Value} {base : Heap} {σ : L2.St} {H : Hp} {ta tb td ty : TE} {v : V}
theorem el_cat {xs ys : List V} (ha : EvL ta σ H xs) (hb : EvL tb σ H ys) (hz : xs.length + ys.length ≤ 100000) : EvL (tOp rCat ta tb) σ H (xs ++ ys) := fun H1 e Q k =>
  ha H1 e _ fun p H2 hp e2 h2 => hb H2 (e.trans e2) _ fun q H3 hq e3 h3 => ⟨p, q, xs, ys, rfl, rfl, e3 p _ h2, h3, sz_of hz, fun t ht => k t _ (fresh_back (e2.trans e3) ht) ((e2.trans e3).trans (Ex.new ht)) upd_same⟩
theorem el_rep {xs : List V} {n : Int} (ha : EvL ta σ H xs) (hb : ∀ H1, Ex H H1 → Ev tb σ H1 (.int n)) (h0 : 0 ≤ n) (hz : (xs.length : Int) * n ≤ 100000) (hn : n ≤ 100000) : EvL (tOp rRep ta tb) σ H (List.replicate n.toNat xs).flatten := fun H1 e Q k =>
  ha H1 e _ fun p H2 hp e2 h2 => hb H2 (e.trans e2) H2 (Ex.refl H2) _ fun H3 e3 => ⟨p, n, xs, rfl, rfl, e3 p _ h2, by omega, by omega, sz_of (by
    have e4 : ((xs.length * n.toNat : Nat) : Int) = (xs.length : Int) * n := by
      rw [Int.natCast_mul, Int.toNat_of_nonneg h0]
    omega), fun t ht => k t _ (fresh_back (e2.trans e3) ht) ((e2.trans e3).trans (Ex.new ht)) upd_same⟩
theorem flat_rep (n : Nat) (x : V) : (List.replicate n [x]).flatten = List.replicate n x := by
  induction n with
  | zero => rfl
  | succ n ih =>
    rw [List.replicate_succ, List.flatten_cons, ih, List.replicate_succ]
    rfl
theorem ev_dget {a : Addr} {kvs : List (Key × V)} {k : Key} (hd : Ev td σ H (.ref a)) (hy : Ev ty σ H (kV k)) (ha : H a = some (.dK kvs)) (hv : valV kvs k = some v) : Ev (tDGet td ty) σ H v := fun H1 e Q q =>
  hd H1 e _ fun H2 e2 => hy H2 (e.trans e2) _ fun H3 e3 => ⟨a, v, rfl, by
    have g := DGet.k (k := k) (((e.trans e2).trans e3) a _ ha)
    rw [hv] at g
    exact g, q H3 (e2.trans e3)⟩
theorem ev_dget1 {a : Addr} {kvs : List (Key × V)} {k : Key} (hd : Ev td σ H (.ref a)) (hy : Ev ty σ H (kV k)) (ha : H a = some (.dK kvs)) (hv : (valV kvs k).getD .non = v) : Ev (tDGet1 td ty) σ H v := fun H1 e Q q =>
  hd H1 e _ fun H2 e2 => ⟨a, rfl, .inl ⟨kvs, .inl ((e.trans e2) a _ ha)⟩, hy H2 (e.trans e2) _ fun H3 e3 => ⟨valV kvs k, DGet.k (((e.trans e2).trans e3) a _ ha), by
    rw [hv]
    exact q H3 (e2.trans e3)⟩⟩
theorem rv_isN {x : V} : RV rIsN x .non H (.bl (decide (x = .non))) := fun H1 _ _ q => ⟨rfl, q H1 (Ex.refl H1)⟩
theorem natV_eq (n : Nat) : List.replicate n (V.int 0) = intV (List.replicate n 0) := by
  unfold intV
  rw [List.map_replicate]
theorem ev_lenS {i : Nat} {l : List Nat} (hi : σ[i]? = some (some (vS l))) (hl : l.length ≤ 30000) : Ev (tCB rLenT (tCons (tVar i) tNil)) σ H (.int (l.length : Int)) :=
  ev_cb (ea_cons (ev_var hi) ea_nil) (rc_lenS hl)
end
section
open Evl
variable {P : Program} {w : World} {K : PySem.W.Frag} {mg : Str → Option Value} {base : Heap} {σ : L2.St} {H : Hp} {ta tb td ty : TE} {v : V}
def spOnw : Sp := fun vs H Q _ => ∃ (l : List Nat) (p : Addr), vs = [vS l, .ref p] ∧ l.length ≤ 30000 ∧ FolAt H l p ∧ ∀ a H', H a = none → Ex H H' → NumAt H H' l a → Q (.ref a) H'
abbrev nm_counts_onward : List Str := ["text", "rows", "none", "numbers", "place", "shorter", "same", "twice", "many"]
theorem sc_counts_onward : FnScope nm_counts_onward ["text", "rows"] (defScope s_counts_onward) := ⟨rfl, rfl, rfl, by decide +kernel, rfl, by decide +kernel, by decide +kernel⟩
theorem b_counts_onward {K : PySem.W.Frag} {mg : Str → Option Value} (T : Txt K mg) : Binds K T.d_counts_onward ["text", "rows"] [] := T.F_counts_onward.bindsN fun _ _ _ _ _ _ us hl => match us, hl with | [_, _], _ => rfl
theorem ok_counts_onward (T : Txt K mg) : FnOk P w K mg base CX0 1 T.a_counts_onward T.d_counts_onward ["text", "rows"] spOnw := by
  refine T.F_counts_onward.ok sc_counts_onward (fun vs H Q E h => ?_) (fun cdv A outer s H vs Q E hr h => ⟨_, PSs.nox (pss_cons (ps_set (i := 2) sc_counts_onward.nd rfl (by first | exact Or.inl rfl | exact Or.inr rfl) (pe_op op_rep (pe_lst (pa_cons pe_int pa_nil)) (pe_op op_add (pe_callB call_len_t (by rfl) T.n_len (by decide +kernel) (pa_cons (pv 0) pa_nil)) pe_int)))
      (pss_cons (ps_set (i := 3) sc_counts_onward.nd rfl (by first | exact Or.inl rfl | exact Or.inr rfl) (pe_disp (pps_cons (pe_callB call_len_t (by rfl) T.n_len (by decide +kernel) (pa_cons (pv 0) pa_nil)) (pe_op op_cat (pe_lst (pa_cons pe_int pa_nil)) (pe_op op_rep (pe_lst (pa_cons pe_int pa_nil)) (pe_callB call_len_t (by rfl) T.n_len (by decide +kernel) (pa_cons (pv 0) pa_nil)))) pps_nil) (by rfl) (by rfl) (fun z => by cases z) (by decide)))
      (pss_cons (ps_for PassesOwn.never rfl (pi_revR (by rfl) T.n_reversed (prg_1 (by rfl) T.n_range (pe_callB call_len_t (by rfl) T.n_len (by decide +kernel) (pa_cons (pv 0) pa_nil)))) (pg_name (i := 4) sc_counts_onward.nd rfl (by first | exact Or.inl rfl | exact Or.inr rfl))
      (pss_cons (ps_set (i := 5) sc_counts_onward.nd rfl (by first | exact Or.inl rfl | exact Or.inr rfl) (pe_dget (hu_of hr) (pv 3) (pe_op op_add (pv 4) pe_int) (fun _ _ => rfl)))
      (pss_cons (ps_set (i := 6) sc_counts_onward.nd rfl (by first | exact Or.inl rfl | exact Or.inr rfl) (pe_dget1 (hu_of hr) (pe_ix (ixk (K0 := K) rIxL ix_list rfl) (pv 1) (pe_op op_add (pv 4) pe_int) (fun _ _ => rfl)) (pe_ix ix_str (pv 0) (pv 4) (fun _ _ => rfl)) (by exact ⟨rfl, rfl, rfl, rfl⟩)))
      (pss_cons (ps_set (i := 7) sc_counts_onward.nd rfl (by first | exact Or.inl rfl | exact Or.inr rfl) (pe_ifExp (pt_cmpR op_isN1 (pv 6) pe_non (nomark _)) (pv 2) (pe_dget (hu_of hr) (pv 3) (pv 6) (fun _ _ => rfl))))
      (pss_one (ps_dput (hu_of hr) (pv 3) (pv 4) (pe_op op_cat (pe_lst (pa_cons pe_int pa_nil)) (pe_lc (own := [("many", 8)]) (g := (gName 8)) (tt := tYes)  rfl sc_counts_onward.nd (pi_range2 (by rfl) T.n_range (pa_cons pe_int (pa_cons (pe_op op_add (pe_callB call_len_t (by rfl) T.n_len (by decide +kernel) (pa_cons (pv 0) pa_nil)) pe_int) pa_nil))) (blkOk_by (own := [("many", 8)]) (N := nm_counts_onward) (sc := defScope s_counts_onward) (by decide +kernel)) (fun _ _ _ _ _ => (pg_name (i := 8) sc_counts_onward.nd rfl (by first | exact Or.inl rfl | exact Or.inr rfl))) (fun _ _ _ _ _ => pts_nil) (fun _ _ _ _ _ => (pe_op op_sub (pe_op op_add (pe_ix (ixk (K0 := K) rIxL ix_list rfl) (pv 5) (pv 8) (fun _ _ => rfl)) (pe_ix (ixk (K0 := K) rIxL ix_list rfl) (pv 5) (pe_op op_sub (pv 8) pe_int) (fun _ _ => rfl))) (pe_ix (ixk (K0 := K) rIxL ix_list rfl) (pv 7) (pe_op op_sub (pv 8) pe_int) (fun _ _ => rfl)))))) rfl))))))
      (pss_one (ps_ret (pv 3)))))), ?_⟩)
  · obtain ⟨l, p, rfl, _⟩ := h
    rfl
  · obtain ⟨l, p, rfl, hl, hF, k⟩ := h
    obtain ⟨ds, hds, hpl, hrows⟩ := hF
    -- none = [0] * (len(text) + 1)
    refine q_asgL (xs := intV (zeroRow l.length)) (fun H1 e Q1 q => ?_) fun z H1 hz e1 h1 => ?_
    · have g := el_rep (tb := tOp (rI0 fun i j => .int (i + j)) _ _) (n := (l.length : Int) + 1) (el_lst (σ := [some (vS l), some (.ref p), none, none, none, none, none, none, none]) (H := H) (ea_cons (ev_c (v := V.int 0)) ea_nil) (by decide))
        (fun H2 e2 => ev_op (ev_lenS (i := 0) rfl hl) (ev_c (v := V.int 1)) (rv_I0 (g := fun i j => .int (i + j)))) (by omega) (by
          show ((1 : Nat) : Int) * _ ≤ _
          omega) (by omega)
      have en : ((l.length : Int) + 1).toNat = l.length + 1 := by omega
      rw [en, flat_rep, natV_eq] at g
      exact g H1 e Q1 q
    -- numbers = {len(text): [1] + [0] * len(text)}
    refine fun a ha => ?_
    refine ev_lenS (i := 0) (l := l) rfl hl _ (Ex.refl _) _ fun H2 e2 => ?_
    have g : EvL (tOp rCat (tLst (tCons (tC (.int 1)) tNil)) (tOp rRep (tLst (tCons (tC (.int 0)) tNil)) (tCB rLenT (tCons (tVar 0) tNil)))) [some (vS l), some (.ref p), some (.ref z), none, none, none, none, none, none] H2 (intV (cR l l.length)) := by
      have g2 := el_cat (H := H2) (el_lst (σ := [some (vS l), some (.ref p), some (.ref z), none, none, none, none, none, none]) (ea_cons (ev_c (v := V.int 1)) ea_nil) (by decide)) (el_rep (n := (l.length : Int)) (el_lst (ea_cons (ev_c (v := V.int 0)) ea_nil) (by decide))
        (fun H2 e2 => ev_lenS (i := 0) rfl hl) (by omega) (by
          show ((1 : Nat) : Int) * _ ≤ _
          omega) (by omega)) (by
          have en : ((l.length : Int)).toNat = l.length := by omega
          rw [en, flat_rep, List.length_replicate]
          show 1 + _ ≤ _
          omega)
      have en : ((l.length : Int)).toNat = l.length := by omega
      rw [en, flat_rep, natV_eq] at g2
      rw [cR_end]
      exact g2
    refine g H2 (Ex.refl _) _ fun r0 H3 hr0 e3 h3 => ?_
    have ha2 : H3 a = some (.dK []) := e3 _ _ (e2 _ _ upd_same)
    refine ⟨ha2, [((Sum.inl (l.length : Int) : Key), V.ref r0)], rfl, (by show 1 ≤ 15; decide), ?_⟩
    have ha0 : H a = none := fresh_back e1 ha
    have exA : Ex H1 H3 := ((Ex.new ha).trans e2).trans e3
    have hr0n : H r0 = none := fresh_back (e1.trans ((Ex.new ha).trans e2)) hr0
    have nra : r0 ≠ a := fun q => by
      rw [q, e2 _ _ upd_same] at hr0
      cases hr0
    have em : mergeK [] [((Sum.inl (l.length : Int) : Key), V.ref r0)] = [((Sum.inl (l.length : Int) : Key), V.ref r0)] := rfl
    rw [em]
    -- the loop
    refine q_forN (et_rev1 (n := (l.length : Int)) (ev_lenS (i := 0) rfl hl) (by omega))
      (fun i σ H' => ∃ (kvs : List (Key × V)) (x4 x5 x6 x7 : Option V), σ = [some (vS l), some (.ref p), some (.ref z), some (.ref a), x4, x5, x6, x7, none] ∧ Ex H1 H' ∧ H' a = some (.dK kvs) ∧ kvs.length ≤ i + 1 ∧ i ≤ l.length ∧
        ∀ m, l.length - i ≤ m → m ≤ l.length → ∃ r, valV kvs (Sum.inl (m : Int)) = some (.ref r) ∧ r ≠ a ∧ H r = none ∧ H' r = some (.lst (intV (cR l m))))
      (fun H4 e4 => ⟨_, none, none, none, none, rfl, (Ex.mut exA ha).trans e4, e4 _ _ upd_same, Nat.le_refl _, Nat.zero_le _, fun m h1 h2 => ?_⟩) ?_ ?_
    · have em : m = l.length := by omega
      subst em
      exact ⟨r0, valV_pos rfl, nra, hr0n, e4 _ _ (by rw [upd_ne nra]; exact h3)⟩
    · rintro i σ H' hi ⟨kvs, x4, x5, x6, x7, rfl, ex, hA, hkl, hil, hrow⟩
      have hi2 : i < l.length := by omega
      have epl : (l.length : Int) - 1 - (i : Int) = ((l.length - 1 - i : Nat) : Int) := by omega
      rw [epl]
      have hkk : l.length - 1 - i < l.length := by omega
      generalize hkd : l.length - 1 - i = kk at *
      have ekk : ((kk : Int) + 1) = ((kk + 1 : Nat) : Int) := by omega
      obtain ⟨r1, hv1, nr1, _, hr1⟩ := hrow (kk + 1) (by omega) (by omega)
      obtain ⟨d1, hd1⟩ : ∃ d, ds[kk + 1]? = some d := ⟨ds[kk + 1], List.getElem?_eq_getElem (by omega)⟩
      have hdd : H' d1 = some (.dK (embK (rowF (kk + 1) (l.drop (kk + 1))))) := ex _ _ (e1 _ _ (hrows _ _ hd1))
      have hpl2 : SqL K H' p (ds.map V.ref) := sq_of (ex _ _ (e1 _ _ hpl))
      have hpat : atI (ds.map V.ref) ((kk + 1 : Nat) : Int) = some (V.ref d1) := by
        refine atI_nat ?_
        rw [List.getElem?_map, hd1]
        rfl
      -- shorter = numbers[place + 1]
      refine q_asg (v := .ref r1) (ev_dget (k := Sum.inl ((kk + 1 : Nat) : Int)) (ev_var rfl) (ev_is (ev_op (ev_var rfl) (ev_c (v := V.int 1)) (rv_I0 (g := fun i j => .int (i + j)) (i := (kk : Int)))) (by rw [ekk] <;> rfl)) hA hv1) fun H5 e5 => ?_
      -- same = rows[place + 1].get(text[place])
      refine q_asg (v := (valA (rowF (kk + 1) (l.drop (kk + 1))) (l.getD kk 0)).elim .non fun b => V.int (b : Int)) (ev_dget1 (a := d1) (k := Sum.inr (sg (l.getD kk 0))) (ev_op (ev_var rfl) (ev_is (ev_op (ev_var rfl) (ev_c (v := V.int 1)) (rv_I0 (g := fun i j => .int (i + j)) (i := (kk : Int)))) (by rw [ekk])) (rv_ixL (ex_l e5 hpl2) hpat))
        (ev_op (ev_var rfl) (ev_var rfl) (rv_ixS (w := mkS l) (by rw [mkS_len]; omega) (atI_ch hkk))) (e5 _ _ hdd) (by
          rw [valV_emb]
          cases valA (rowF (kk + 1) (l.drop (kk + 1))) (l.getD kk 0) <;> rfl)) fun H6 e6 => ?_
      -- twice
      obtain ⟨rt, tw, htw, hH6⟩ : ∃ (rt : Addr) (tw : List Int), tw = (match valA (rowF (kk + 1) (l.drop (kk + 1))) (l.getD kk 0) with
          | none => zeroRow l.length
          | some b => cR l b) ∧ H6 rt = some (.lst (intV tw)) ∧ Ev (tIf (tTest (tOp rIsN (tVar 6) (tC .non))) (tVar 2) (tDGet (tVar 3) (tVar 6))) [some (vS l), some (.ref p), some (.ref z), some (.ref a), some (.int (kk : Int)), some (.ref r1), some ((valA (rowF (kk + 1) (l.drop (kk + 1))) (l.getD kk 0)).elim .non fun b => V.int (b : Int)), x7, none] H6 (.ref rt) := by
        cases hv : valA (rowF (kk + 1) (l.drop (kk + 1))) (l.getD kk 0) with
        | none => exact ⟨z, _, rfl, e6 _ _ (e5 _ _ (ex _ _ h1)), ev_if (b := true) (et_test (ev_op (ev_var rfl) ev_c rv_isN)) (fun _ => ev_var rfl) (fun q => by cases q)⟩
        | some b =>
          have hb := valA_bd (show kk + 1 ≤ l.length by omega) hv
          obtain ⟨rb, hvb, nrb, _, hrb⟩ := hrow b (by omega) (by omega)
          exact ⟨rb, _, rfl, e6 _ _ (e5 _ _ hrb), ev_if (b := false) (et_test (ev_op (ev_var rfl) ev_c rv_isN)) (fun q => by cases q) (fun _ => ev_dget (k := Sum.inl (b : Int)) (ev_var rfl) (ev_var rfl) (e6 _ _ (e5 _ _ hA)) hvb)⟩
      refine q_asg (v := .ref rt) hH6.2 fun H7 e7 => ?_
      have exT : Ex H' H7 := (e5.trans e6).trans e7
      have hs7 : H7 r1 = some (.lst (intV (cR l (kk + 1)))) := exT _ _ hr1
      have ht7 : H7 rt = some (.lst (intV tw)) := e7 _ _ hH6.1
      have lsh : (cR l (kk + 1)).length = l.length + 1 := cR_len (by omega)
      have ltw : tw.length = l.length + 1 := by
        rw [htw]
        cases hv : valA (rowF (kk + 1) (l.drop (kk + 1))) (l.getD kk 0) with
        | none => exact List.length_replicate
        | some b => exact cR_len (valA_bd (by omega) hv).2
      generalize hσ : (((valA (rowF (kk + 1) (l.drop (kk + 1))) (l.getD kk 0)).elim V.non fun b => V.int (b : Int))) = x6n at *
      have em : ∀ i : Nat, (1 + (i : Int)) = ((i + 1 : Nat) : Int) := fun i => by omega
      have em2 : ∀ i : Nat, (1 + (i : Int)) - 1 = ((i : Nat) : Int) := fun i => by omega
      have gl := el_lcY (H := H7) (j := 8) (vs := [8]) (σ := [some (vS l), some (.ref p), some (.ref z), some (.ref a), some (.int (kk : Int)), some (.ref r1), some x6n, some (.ref rt), none])
        (te := tOp (rI0 fun i j => .int (i - j)) (tOp (rI0 fun i j => .int (i + j)) (tOp (rIxL K) (tVar 5) (tVar 8)) (tOp (rIxL K) (tVar 5) (tOp (rI0 fun i j => .int (i - j)) (tVar 8) (tC (.int 1))))) (tOp (rIxL K) (tVar 7) (tOp (rI0 fun i j => .int (i - j)) (tVar 8) (tC (.int 1)))))
        (fun i => .int ((cR l (kk + 1)).getD (i + 1) 0 + (cR l (kk + 1)).getD i 0 - tw.getD i 0))
        (ew_rng2 (lo := 1) (hi := (l.length : Int) + 1) (ea_cons (ev_c (v := V.int 1)) (ea_cons (ev_op (ev_lenS (i := 0) rfl hl) (ev_c (v := V.int 1)) (rv_I0 (g := fun i j => .int (i + j)))) ea_nil)) (by omega)) (by omega) (fun x => rfl)
        (fun i H8 e8 hi8 => by
          have hi9 : i < l.length := by omega
          refine ev_op (ev_op (ev_op (ev_var rfl) (ev_var rfl) (rv_ixL (v := .int ((cR l (kk + 1)).getD (i + 1) 0)) (i := 1 + (i : Int)) (sq_of (e8 _ _ hs7)) ?_)) (ev_op (ev_var rfl) (ev_op (ev_var rfl) (ev_c (v := V.int 1)) (rv_I0 (g := fun i j => .int (i - j)) (i := 1 + (i : Int)) (j := 1))) (rv_ixL (v := .int ((cR l (kk + 1)).getD i 0)) (i := 1 + (i : Int) - 1) (sq_of (e8 _ _ hs7)) ?_)) (rv_I0 (g := fun i j => .int (i + j))))
            (ev_op (ev_var rfl) (ev_op (ev_var rfl) (ev_c (v := V.int 1)) (rv_I0 (g := fun i j => .int (i - j)) (i := 1 + (i : Int)) (j := 1))) (rv_ixL (v := .int (tw.getD i 0)) (i := 1 + (i : Int) - 1) (sq_of (e8 _ _ ht7)) ?_)) (rv_I0 (g := fun i j => .int (i - j)))
          · rw [em]
            exact intV_at (by omega)
          · rw [em2]
            exact intV_at (by omega)
          · rw [em2]
            exact intV_at (by omega))
      have gc := el_cat (el_lst (σ := [some (vS l), some (.ref p), some (.ref z), some (.ref a), some (.int (kk : Int)), some (.ref r1), some x6n, some (.ref rt), none]) (H := H7) (ea_cons (ev_c (v := V.int 1)) ea_nil) (by decide)) gl (by
        rw [List.length_map, List.length_range]
        show 1 + _ ≤ _
        omega)
      have erow : [V.int 1] ++ (List.range ((l.length : Int) + 1 - 1).toNat).map (fun i => V.int ((cR l (kk + 1)).getD (i + 1) 0 + (cR l (kk + 1)).getD i 0 - tw.getD i 0)) = intV (cR l kk) := by
        have en : ((l.length : Int) + 1 - 1).toNat = l.length := by omega
        rw [en, cR_step hkk, ← htw]
        unfold newRow intV
        rw [List.map_cons, List.map_map]
        rfl
      rw [erow] at gc
      refine gc H7 (Ex.refl _) _ fun rn H8 hrn e8 h8 => ?_
      have hA8 : H8 a = some (.dK kvs) := e8 _ _ (exT _ _ hA)
      have nrn : rn ≠ a := fun q => by
        rw [q, exT _ _ hA] at hrn
        cases hrn
      refine ⟨_, rfl, _, rfl, a, _, rfl, DPut.k (k := Sum.inl (kk : Int)) hA8 (small1000k (by omega)), ?_⟩
      refine ⟨_, _, _, _, _, rfl, Ex.mut ((ex.trans exT).trans e8) ha, upd_same, ?_, by omega, fun m h1 h2 => ?_⟩
      · have := putK_length_le kvs (Sum.inl (kk : Int)) (V.ref rn)
        omega
      · rw [valV_put]
        by_cases hm : m = kk
        · subst hm
          rw [if_pos rfl]
          exact ⟨rn, rfl, nrn, fresh_back (e1.trans (ex.trans exT)) hrn, by rw [upd_ne nrn]; exact h8⟩
        · rw [if_neg (fun q => hm (by
            have q2 := Sum.inl.inj q
            omega))]
          obtain ⟨r, g1, g2, gn, g3⟩ := hrow m (by omega) h2
          exact ⟨r, g1, g2, gn, by rw [upd_ne g2]; exact e8 _ _ (exT _ _ g3)⟩
    · rintro σ H' ⟨kvs, x4, x5, x6, x7, rfl, ex, hA, hkl, hil, hrow⟩
      refine ⟨_, rfl, k a H' ha0 (e1.trans ex) ⟨kvs, hA, fun i hi => ?_⟩⟩
      obtain ⟨r, g1, g2, gn, g3⟩ := hrow i (by omega) hi
      exact ⟨r, g1, gn, g3⟩
def spCounts : Sp := fun vs H Q _ => ∃ l : List Nat, vs = [vS l] ∧ l.length ≤ 30000 ∧ txtB l = true ∧ ∀ p H', H p = none → Ex H H' → H' p = some (.lst (intV (cR l 0))) → Q (.ref p) H'
abbrev nm_counts : List Str := ["text"]
theorem sc_counts : FnScope nm_counts ["text"] (defScope s_counts) := ⟨rfl, rfl, rfl, by decide +kernel, rfl, by decide +kernel, by decide +kernel⟩
theorem b_counts {K : PySem.W.Frag} {mg : Str → Option Value} (T : Txt K mg) : Binds K T.d_counts ["text"] [] := T.F_counts.bindsN fun _ _ _ _ _ _ us hl => match us, hl with | [_], _ => rfl
theorem ok_counts (T : Txt K mg) : FnOk P w K mg base CX0 3 T.a_counts T.d_counts ["text"] spCounts := by
  refine T.F_counts.ok sc_counts (fun vs H Q E h => ?_) (fun cdv A outer s H vs Q E hr h => ⟨_, PSs.nox (pss_cons (ps_expr (pe_call (ok_check_text T) (hr.mono (by decide)) (by rfl) T.g_check_text T.F_check_text.kp (b_check_text T) .nil pass0 (pa_cons (pv 0) pa_nil)))
      (pss_one (ps_ret (pe_dget (hu_of hr) (pe_call (ok_counts_onward T) (hr.mono (by decide)) (by rfl) T.g_counts_onward T.F_counts_onward.kp (b_counts_onward T) .nil pass0 (pa_cons (pv 0) (pa_cons (pe_call (ok_followers T) (hr.mono (by decide)) (by rfl) T.g_followers T.F_followers.kp (b_followers T) .nil pass0 (pa_cons (pv 0) pa_nil)) pa_nil))) pe_int (fun _ _ => rfl))))), ?_⟩)
  · obtain ⟨l, rfl, _⟩ := h
    rfl
  · obtain ⟨l, rfl, hl, tl, k⟩ := h
    refine q_drop (v := .non) (ev_call (vs := [vS l]) (ea_cons (ev_var rfl) ea_nil) fun H1 e Q1 q E1 => ⟨l, rfl, hl, tl, q⟩) fun H1 e1 => ?_
    refine ⟨_, rfl, _, rfl, l, rfl, hl, fun p H2 hp e2 hF => ⟨l, p, rfl, hl, hF, fun a H3 ha e3 ⟨kvs, hN1, hN2⟩ => ?_⟩⟩
    obtain ⟨r, g1, gn, g2⟩ := hN2 0 (Nat.zero_le _)
    refine ⟨a, _, rfl, ?_, k r H3 (fresh_back (e1.trans e2) gn) ((e1.trans e2).trans e3) g2⟩
    have g := DGet.k (k := (Sum.inl (0 : Int) : Key)) hN1
    have g3 : valV kvs (Sum.inl (0 : Int) : Key) = some (.ref r) := g1
    rw [g3] at g
    exact g
end
/-! ### sorted(d.items()) of a dict from signs to ints -/
def leP (p q : Nat × Nat) : Bool := decide (p.1 < q.1 ∨ (p.1 = q.1 ∧ p.2 ≤ q.2))
def encP (b : Nat × Nat) : PyData := .tuple [.str (sg b.1), .int (b.2 : Int)]
def insA (x : Nat × Nat) : List (Nat × Nat) → List (Nat × Nat)
  | [] => [x]
  | y :: r => if leP x y = true then x :: y :: r else y :: insA x r
def sortA : List (Nat × Nat) → List (Nat × Nat)
  | [] => []
  | x :: r => insA x (sortA r)
theorem leP_trans {a b c : Nat × Nat} (h1 : leP a b = true) (h2 : leP b c = true) : leP a c = true := by
  have h3 := of_decide_eq_true h1
  have h4 := of_decide_eq_true h2
  exact decide_eq_true (by omega)
theorem leP_total (a b : Nat × Nat) : leP a b = true ∨ leP b a = true := by
  by_cases h : a.1 < b.1 ∨ (a.1 = b.1 ∧ a.2 ≤ b.2)
  · exact .inl (decide_eq_true h)
  · exact .inr (decide_eq_true (by omega))
theorem leP_anti {a b : Nat × Nat} (h1 : leP a b = true) (h2 : leP b a = true) : a = b := by
  have h3 := of_decide_eq_true h1
  have h4 := of_decide_eq_true h2
  exact Prod.ext (by omega) (by omega)
theorem insA_perm (x : Nat × Nat) : ∀ l : List (Nat × Nat), (insA x l).Perm (x :: l)
  | [] => List.Perm.refl _
  | y :: r => by
    show (if leP x y = true then x :: y :: r else y :: insA x r).Perm (x :: y :: r)
    split
    · exact List.Perm.refl _
    · exact ((insA_perm x r).cons y).trans (List.Perm.swap x y r)
theorem sortA_perm : ∀ l : List (Nat × Nat), (sortA l).Perm l
  | [] => List.Perm.refl _
  | x :: r => (insA_perm x (sortA r)).trans ((sortA_perm r).cons x)
theorem insA_sorted (x : Nat × Nat) : ∀ l : List (Nat × Nat), l.Pairwise (fun a b => leP a b = true) → (insA x l).Pairwise (fun a b => leP a b = true)
  | [], _ => List.pairwise_singleton _ _
  | y :: r, h => by
    show (if leP x y = true then x :: y :: r else y :: insA x r).Pairwise _
    rw [List.pairwise_cons] at h
    split
    · rename_i hxy
      rw [List.pairwise_cons]
      refine ⟨fun z hz => ?_, List.pairwise_cons.mpr h⟩
      rcases List.mem_cons.mp hz with e | e
      · rw [e]
        exact hxy
      · exact leP_trans hxy (h.1 z e)
    · rename_i hxy
      rw [List.pairwise_cons]
      refine ⟨fun z hz => ?_, insA_sorted x r h.2⟩
      rcases List.mem_cons.mp ((insA_perm x r).mem_iff.mp hz) with e | e
      · rw [e]
        exact (leP_total x y).resolve_left hxy
      · exact h.1 z e
theorem sortA_sorted : ∀ l : List (Nat × Nat), (sortA l).Pairwise (fun a b => leP a b = true)
  | [] => List.Pairwise.nil
  | x :: r => insA_sorted x _ (sortA_sorted r)
theorem merge_eq (kvs : List (Nat × Nat)) : kvs.mergeSort leP = sortA kvs := by
  have h1 : (kvs.mergeSort leP).Pairwise (fun a b => leP a b = true) := List.pairwise_mergeSort (le := leP) (fun a b c => leP_trans) (fun a b => by
    rcases leP_total a b with h | h <;> simp [h]) kvs
  exact List.Perm.eq_of_pairwise (fun a b _ _ h2 h3 => leP_anti h2 h3) h1 (sortA_sorted kvs) ((List.mergeSort_perm kvs leP).trans (sortA_perm kvs).symm)
theorem sg_lt (a b : Nat) : decide ((sg a).cps.toList < (sg b).cps.toList) = decide (a < b) := by
  have e1 : (sg a).cps.toList = [a] := rfl
  have e2 : (sg b).cps.toList = [b] := rfl
  rw [e1, e2]
  apply decide_eq_decide.mpr
  constructor
  · intro h
    cases h with
    | rel h => exact h
    | cons h => cases h
  · intro h
    exact List.Lex.rel h
theorem le_item : PySem.W.dataLe false encP = leP := by
  funext p q
  show (!PySem.W.dataLt (.tuple [.str (sg q.1), .int (q.2 : Int)]) (.tuple [.str (sg p.1), .int (p.2 : Int)])) = leP p q
  rw [PySem.W.dataLt_pair rfl rfl, PySem.W.dataLt_str, PySem.W.dataLt_int, sg_lt]
  have e1 : PyData.eqv (.str (sg q.1)) (.str (sg p.1)) = decide (q.1 = p.1) := by
    show decide (sg q.1 = sg p.1) = _
    exact decide_eq_decide.mpr ⟨sg_inj, fun h => by rw [h]⟩
  have e2 : PyData.eqv (.int (q.2 : Int)) (.int (p.2 : Int)) = decide (q.2 = p.2) := by
    show decide ((q.2 : Int) = (p.2 : Int)) = _
    apply decide_eq_decide.mpr
    omega
  rw [e1, e2]
  unfold leP
  by_cases h1 : q.1 = p.1 <;> by_cases h2 : q.2 = p.2 <;> by_cases h3 : q.1 < p.1 <;> by_cases h4 : (q.2 : Int) < p.2 <;> simp [h1, h2, h3, h4] <;> omega
section
open Evl PySem.W LiI
variable {X : Cx} {e : Expr} {te : TE} {p apos cpos pos : Pos}
def tSortIt (te : TE) : TE := fun σ H Q => te σ H fun x H1 => ∃ (d : Addr) (kvs : List (Nat × Nat)), x = .ref d ∧ H1 d = some (.dK (embK kvs)) ∧ kvs.length ≤ 1000 ∧
  ∀ (H' : Hp) (p : Addr) (ts : List Addr), Ex H1 H' → H1 p = none → H' p = some (.lst (ts.map V.ref)) → Paired (fun (t : Addr) (q : Nat × Nat) => H' t = some (.tup [.str (sg q.1), .int (q.2 : Int)])) ts (sortA kvs) → Q (.ref p) H'
theorem emb_at {kvs : List (Nat × Nat)} {j : Nat} {q : Key × V} (h : (embK kvs)[j]? = some q) : ∃ b, kvs[j]? = some b ∧ q = ((Sum.inr (sg b.1) : Key), V.int (b.2 : Int)) := by
  unfold embK at h
  rw [List.getElem?_map] at h
  cases e : kvs[j]? with
  | none =>
    rw [e] at h
    cases h
  | some b =>
    rw [e] at h
    exact ⟨b, rfl, (Option.some.inj h).symm⟩
theorem each_of {α β : Type} {R : α → β → Prop} : ∀ {as : List α} {bs : List β}, as.length = bs.length → (∀ (j : Nat) (a : α) (b : β), as[j]? = some a → bs[j]? = some b → R a b) → EachIs R as bs
  | [], [], _, _ => .nil
  | [], _ :: _, h, _ => by cases h
  | _ :: _, [], h, _ => by cases h
  | a :: as, b :: bs, h, k => .cons (k 0 a b rfl rfl) (each_of (Nat.succ.inj h) fun j x y h1 h2 => k (j + 1) x y h1 h2)
theorem each_refs {F : Addr → Nat × Nat → Prop} : ∀ {out : List Value} {bs : List (Nat × Nat)}, EachIs (fun v b => ∃ a, v = Value.ref a ∧ F a b) out bs → ∃ ts : List Addr, out = ts.map Value.ref ∧ Paired F ts bs
  | _, _, .nil => ⟨[], rfl, .nil⟩
  | _, _, .cons ⟨a, e, f⟩ t => by
    obtain ⟨ts, e1, e2⟩ := each_refs t
    exact ⟨a :: ts, by rw [e, e1]; rfl, .cons f e2⟩
theorem pair_get {α β : Type} {F : α → β → Prop} : ∀ {xs : List α} {ys : List β}, Paired F xs ys → ∀ {i : Nat} {x : α} {y : β}, xs[i]? = some x → ys[i]? = some y → F x y
  | _, _, .nil, i, x, y, h, _ => by cases h
  | _, _, .cons r t, 0, x, y, h, h2 => by
    cases h
    cases h2
    exact r
  | _, _, .cons r t, i + 1, x, y, h, h2 => pair_get t (i := i) h h2
theorem pair_to {α β : Type} {F G : α → β → Prop} : ∀ {xs : List α} {ys : List β}, Paired F xs ys → (∀ x y, F x y → G x y) → Paired G xs ys
  | _, _, .nil, _ => .nil
  | _, _, .cons r t, k => .cons (k _ _ r) (pair_to t k)
/-- a new list at B and new pairs at as are tracked -/
theorem laid_pairs {pins : List (Addr × Obj)} {σ : L2.St} {H : Hp} {s : Shared} {h2 : Heap} {tk : Nat} {kvs : List (Nat × Nat)} {as ts : List Addr} {B : Addr} (I : Inv X pins σ H s) (hk : ∀ b o, s.heap.get? b = some o → h2.get? b = some o)
    (hB : s.heap.objs.size ≤ B) (hA : ∀ t ∈ as, s.heap.objs.size ≤ t) (nd : as.Nodup) (nB : B ∉ as) (hl : as.length = kvs.length) (hz : ts.length ≤ sizeLine)
    (oB : ∃ c, h2.get? B = some { cls := .type "list", data := .seq (ts.map Value.ref).toArray c })
    (oT : ∀ (j : Nat) (t : Addr) (q : Nat × Nat), as[j]? = some t → kvs[j]? = some q → ∃ u v, h2.get? t = some { cls := .type "tuple", data := .seq #[Value.str (sg q.1) u, Value.int (q.2 : Int) v] }) :
    ∃ H' : Hp, Ex H H' ∧ H B = none ∧ H' B = some (.lst (ts.map V.ref)) ∧ (∀ (j : Nat) (t : Addr) (q : Nat × Nat), as[j]? = some t → kvs[j]? = some q → H' t = some (.tup [.str (sg q.1), .int (q.2 : Int)])) ∧ Inv X pins σ H' { s with heap := h2, toks := tk } := by
  have newA : ∀ t ∈ as, H t = none := fun t ht => I.hok.fresh (hA t ht)
  have newB : H B = none := I.hok.fresh hB
  have hl2 : as.length = (embK kvs).length := by rw [embK_len, hl]
  have paired := putT_at as (embK kvs) (upd H B (.lst (ts.map V.ref))) hl2 nd
  have away : ∀ b, b ∉ as → b ≠ B → putT (upd H B (.lst (ts.map V.ref))) as (embK kvs) b = H b := fun b n1 n2 => by rw [putT_off as (embK kvs) _ n1, upd_ne n2]
  have grow : ∀ b u, H b = some u → putT (upd H B (.lst (ts.map V.ref))) as (embK kvs) b = some u := fun b u e => by
    rw [away b (fun z => by rw [newA b z] at e; cases e) (fun z => by rw [z, newB] at e; cases e)]
    exact e
  have atB : putT (upd H B (.lst (ts.map V.ref))) as (embK kvs) B = some (.lst (ts.map V.ref)) := by rw [putT_off as (embK kvs) _ nB, upd_same]
  have atT : ∀ (j : Nat) (t : Addr) (q : Nat × Nat), as[j]? = some t → kvs[j]? = some q → putT (upd H B (.lst (ts.map V.ref))) as (embK kvs) t = some (.tup [.str (sg q.1), .int (q.2 : Int)]) := fun j t q h1 h3 => by
    have e2 : (embK kvs)[j]? = some ((Sum.inr (sg q.1) : Key), V.int (q.2 : Int)) := by
      unfold embK
      rw [List.getElem?_map, h3]
      rfl
    exact pair_get paired h1 e2
  have old : ∀ b o, s.heap.get? b = some o → b ∉ as ∧ b ≠ B := fun b o e => ⟨fun z => absurd (Heap.lt_size e) (Nat.not_lt.mpr (hA b z)), fun z => absurd (Heap.lt_size e) (Nat.not_lt.mpr (by rw [z]; exact hB))⟩
  refine ⟨putT (upd H B (.lst (ts.map V.ref))) as (embK kvs), grow, newB, atB, atT, ?_⟩
  refine I.call' (ch := []) rfl ⟨fun b o x _ _ _ => hk b o x, fun b o x _ _ _ => ⟨o.slots, hk b o x⟩, fun b o x n _ => ?_, fun b o x _ => ⟨o, hk b o x⟩, fun b xs x => grow b _ x, fun b o u x => grow b _ x, fun b ps x => ⟨#[], by rw [grow b _ x]; simp⟩⟩ (fun b u x => ?_) I.bare fun b z => by simp at z
  · obtain ⟨z1, z2⟩ := old b o x
    rw [away b z1 z2]
    exact n
  · by_cases hb : b ∈ as
    · obtain ⟨j, hj, ej⟩ := List.mem_iff_getElem.mp hb
      have e1 : as[j]? = some b := by rw [List.getElem?_eq_getElem hj, ej]
      have hj2 : j < kvs.length := by omega
      have e2 : kvs[j]? = some kvs[j] := List.getElem?_eq_getElem hj2
      rw [atT j b _ e1 e2] at x
      cases x
      obtain ⟨u1, v1, g⟩ := oT j b _ e1 e2
      exact ⟨by show 2 ≤ sizeLine; decide, [Value.str (sg kvs[j].1) u1, Value.int (kvs[j].2 : Int) v1], .cons ⟨_, rfl⟩ (.cons ⟨_, rfl⟩ .nil), ⟨_, g, rfl, _, rfl⟩⟩
    · by_cases hb2 : b = B
      · rw [hb2] at x ⊢
        rw [atB] at x
        cases x
        obtain ⟨c, g⟩ := oB
        exact ⟨by rw [List.length_map]; exact hz, ts.map Value.ref, c, LiI.vals_refs ts, g⟩
      · rw [away b hb hb2] at x
        exact (I.hok b u x).stay (fun d v _ y => hk d v y) (fun d y => grow d _ y) fun d xs y => grow d _ y
theorem pe_sortedItems (hr : Room 0 X.A) (hc : X.calm = true) (he : PE X e te) (hg : Gl X "sorted") (hm : X.mg "sorted" = none) (hbase : attributeBase e "items" X.env (eval e X.env) = eval e X.env := by rfl) (hline : (apos.endLine == cpos.line) = true := by rfl)
    (hs : starEach [.Call (.Attribute e "items" apos) [] [] cpos] X.env = (false, eval (.Call (.Attribute e "items" apos) [] [] cpos) X.env) :: starEach [] X.env := by rfl) :
    PE X (.Call (.Name "sorted" p) [.Call (.Attribute e "items" apos) [] [] cpos] [] pos) (tSortIt te) := by
  refine ⟨fun pins s σ H Q I hq => ?_⟩
  have hv : bootBuiltins "sorted" = some (.builtin "sorted") := by decide +kernel
  refine wpAny_Call_Name_kw (ld_blt I hg hm hv ?_)
  refine PyProof.Rows.callWith_builtin1 ?_ hs rfl
  rw [hs]
  show wpAny _ _ (spliced ((false, eval (.Call (.Attribute e "items" apos) [] [] cpos) X.env) :: backTo pos (starEach [] X.env))) _ _ s
  refine Calls.spliced_cons ?_
  refine wpAny_Call_method (T := "dict") (id := "dict.items") hbase rfl hline F.plainAttrs_dict F.slot_dict_items F.type_dict_items (thn (he.run pins s σ H _ I hq) fun u s1 ⟨x, H1, I1, rx, d, kvs, ex, hd, hkl, q⟩ => ?_)
  subst ex
  obtain rfl : u = Value.ref d := rx
  obtain ⟨hz, hs0, vs, kv, hdo⟩ := I1.hok d _ hd
  obtain ⟨ep, hat⟩ := hdo.dictAt
  have lk : (embK kvs).length = vs.length := Paired.length kv
  have lk2 : kvs.length = vs.length := by rw [← lk, embK_len]
  have I2 : Inv X pins σ H1 { s1 with heap := s1.heap.push { cls := .type "dict_items", data := .fields #[.ref d] } } := I1.kept (t' := s1.toks) fun b ob q => Heap.get?_push_of_some _ q
  refine ⟨hdo.typeIs, hdo.mapOf.noDict, ?_⟩
  show wpAny _ _ (callWith cpos (.builtin "dict.items") [.ref d] [] []) _ X.xe s1
  refine method_meetsIn F.slot_dict_items F.entry_dict_items rfl (PySem.evalArgs_none ⟨rfl, hdo.typeIs, F.args_dict_items_1 _, _, meets_dict_items (mixKind X.prog X.w) d hs0, ⟨vs, hdo⟩, ?_⟩)
  refine Calls.spliced_nil ?_
  refine Calls.call_function_entry kind_sorted plain_sorted entry_sorted (args_sorted1 _) ?_
  unfold Builtin.«sorted»
  refine wpAny_bind (m := checkCount "sorted" 1 1 _) (wpAny_pure ?_)
  refine wpAny_bind (kdx_collect (A := X.A.in1) (knd := mixKind X.prog X.w) (kvs := vs) (ep := ep) (I1.ok.hd hc) ⟨_, Heap.get?_push_size _ rfl, rfl, rfl⟩ (hat.push _) (by omega) fun h' tk as hk hl hG => ?_)
  refine wpAny_bind (wpAny_newList ?_ (by rw [List.length_map, hl]; omega))
  -- the pairs that stand there
  have pr : ∀ (j : Nat) (a : Addr) (b : Nat × Nat), as[j]? = some a → kvs[j]? = some b → ∃ u v, h'.get? a = some { cls := .type "tuple", data := .seq #[Value.str (sg b.1) u, Value.int (b.2 : Int) v] } := fun j a b ha hb => by
    obtain ⟨key, k, x, f1, f2, f3⟩ := hG.pairs j a ha
    have e2 : (embK kvs)[j]? = some ((Sum.inr (sg b.1) : Key), V.int (b.2 : Int)) := by
      unfold embK
      rw [List.getElem?_map, hb]
      rfl
    have r := pair_get kv e2 f1
    obtain ⟨r1, r2⟩ := r
    obtain ⟨t2, rfl⟩ := r2
    have f2' : keyIs k key = true := f2
    have r1' : (Sum.inr (sg b.1) : Key) = k := r1
    rw [← r1'] at f2'
    rcases keyIs_shape f2' with ⟨i, t, e, _⟩ | ⟨x, t, e, e4⟩
    · cases e
    · have e5 := Sum.inr.inj e
      rw [e4, ← e5] at f3
      exact ⟨t, t2, f3⟩
  have push_ok : ∀ b o, h'.get? b = some o → (h'.push { cls := .type "list", data := .seq (as.map Value.ref).toArray }).get? b = some o := fun b o e => Heap.get?_push_of_some _ e
  have hob : (h'.push { cls := .type "list", data := .seq (as.map Value.ref).toArray }).get? h'.objs.size = some (seqObj "list" (as.map Value.ref).toArray 0) := Heap.get?_push_size _ rfl
  have lak : as.length = kvs.length := by omega
  have s1le : s1.heap.objs.size ≤ h'.objs.size := by
    rcases Nat.lt_or_ge h'.objs.size s1.heap.objs.size with z | z
    · exfalso
      have z2 := hk s1.heap.objs.size _ (Heap.get?_push_size _ rfl)
      exact absurd (Heap.lt_size z2) (Nat.not_lt.mpr (Nat.le_of_lt z))
    · exact z
  have pushsz : (s1.heap.push { cls := .type "dict_items", data := .fields #[.ref d] }).objs.size = s1.heap.objs.size + 1 := size_push' _ _
  have hAs : ∀ t ∈ as, s1.heap.objs.size ≤ t ∧ t < h'.objs.size := fun t ht => ⟨by
    have z : (s1.heap.push { cls := .type "dict_items", data := .fields #[.ref d] }).objs.size < t := hG.above t ht
    rw [pushsz] at z
    omega, hG.there ht⟩
  have ndA : as.Nodup := List.Pairwise.imp (fun {a b} (h : a < b) => Nat.ne_of_lt h) hG.rise
  have hgoal : wpAny (model X.prog X.w) X.A.in1 (call (.builtin "list.sort") [.ref h'.objs.size]) (fun _ s' => EP X pins σ Q (.ref h'.objs.size) s') X.xe { s1 with heap := h'.push { cls := .type "list", data := .seq (as.map Value.ref).toArray }, toks := tk } := by
    refine list_sort_data (s := { s1 with heap := h'.push { cls := .type "list", data := .seq (as.map Value.ref).toArray }, toks := tk }) (bs := kvs) (enc := encP) (R := fun v b => ∃ a, v = Value.ref a ∧ ∃ j : Nat, as[j]? = some a ∧ kvs[j]? = some b) hob
      (each_of (by rw [List.length_map, lak]) fun j v b hv2 hb => ?_) (each_of (by rw [List.length_map, lak]) fun j v b hv2 hb => ?_) (fun x hx y hy => ?_) (.inl fun x hx => ?_) (by rw [sizeLine_eq]; omega) (fun b hb => ?_) (fun out hlen heach => ?_)
    · rw [List.getElem?_map] at hv2
      cases ea : as[j]? with
      | none =>
        rw [ea] at hv2
        cases hv2
      | some a =>
        rw [ea] at hv2
        exact ⟨a, (Option.some.inj hv2).symm, j, ea, hb⟩
    · rw [List.getElem?_map] at hv2
      cases ea : as[j]? with
      | none =>
        rw [ea] at hv2
        cases hv2
      | some a =>
        rw [ea] at hv2
        have ev : Value.ref a = v := Option.some.inj hv2
        rw [← ev]
        obtain ⟨u, v', g⟩ := pr j a b ea hb
        exact ⟨_, Reads.tuple (push_ok _ _ g) rfl rfl (ReadsAll.cons (Reads.str _ _) (ReadsAll.cons (Reads.int _ _) .nil)), by simp⟩
    · obtain ⟨a, _, rfl⟩ := List.mem_map.mp hx
      obtain ⟨b, _, rfl⟩ := List.mem_map.mp hy
      rfl
    · obtain ⟨a, _, rfl⟩ := List.mem_map.mp hx
      exact ⟨_, _, rfl⟩
    · have hun := hr.un
      have hdp : (encP b).depth ≤ 3 := by
        show PyData.depth (.tuple [.str (sg b.1), .int (b.2 : Int)]) ≤ 3
        simp [PyData.depth, PyData.depthAll]
      show X.A.units + 1 + 1 + (encP b).depth < cLine
      omega
    · rw [le_item, merge_eq] at heach
      obtain ⟨ts, e1, e2⟩ := each_refs heach
      rw [e1]
      have hBl : h'.objs.size < (h'.push { cls := .type "list", data := .seq (as.map Value.ref).toArray }).objs.size := Heap.lt_size hob
      have so : ∀ b o, b ≠ h'.objs.size → (h'.push { cls := .type "list", data := .seq (as.map Value.ref).toArray }).get? b = some o → (sortedHeap (h'.push { cls := .type "list", data := .seq (as.map Value.ref).toArray }) h'.objs.size (as.map Value.ref) (ts.map Value.ref).toArray).get? b = some o := fun b o hb e => by
        rw [sortedHeap_old hb (Heap.lt_size e)]
        exact e
      have low : ∀ b o, h'.get? b = some o → b ≠ h'.objs.size := fun b o e => Nat.ne_of_lt (Heap.lt_size e)
      obtain ⟨c, gB⟩ := sortedHeap_at (out := (ts.map Value.ref).toArray) hob
      have hlen2 : ts.length ≤ sizeLine := by
        have z : (ts.map Value.ref).length = kvs.length := by rw [← e1, hlen]
        rw [List.length_map] at z
        rw [sizeLine_eq]
        omega
      obtain ⟨H', x1, x2, x3, x4, J⟩ := laid_pairs (tk := tk) (ts := ts) (h2 := sortedHeap (h'.push { cls := .type "list", data := .seq (as.map Value.ref).toArray }) h'.objs.size (as.map Value.ref) (ts.map Value.ref).toArray) I1
        (fun b o e => have e9 := hk b o (Heap.get?_push_of_some _ e); so b o (low b o e9) (push_ok b o e9)) s1le (fun t ht => (hAs t ht).1) ndA (fun z => absurd (hAs _ z).2 (Nat.lt_irrefl _)) lak hlen2 ⟨c, gB⟩ (fun j t b h1 h3 => by
          obtain ⟨u, v, g⟩ := pr j t b h1 h3
          exact ⟨u, v, so _ _ (low _ _ g) (push_ok _ _ g)⟩)
      exact ⟨.ref h'.objs.size, H', J, rfl, q H' _ ts x1 x2 x3 (pair_to e2 fun t b ⟨j, h1, h3⟩ => x4 j t b h1 h3)⟩
  refine wpAny_bind (wpAny_holding (wpAny_mono hgoal (fun _ s' x => ?_) fun _ _ e => e))
  exact wpAny_pure ⟨_, rfl, x⟩
end
/-! ### enumerate(text) -/
section
open Evl
/-- a text's signs, each with its place in a new pair -/
def ItEs (z : Str) : It := ⟨fun i _ => i < z.cps.size, fun i H v H' => ∃ T c, v = .ref T ∧ H T = none ∧ H' = upd H T (.tup [.int (i : Nat), .str ⟨#[c]⟩]) ∧ z.cps[i]? = some c, fun i _ => z.cps.size ≤ i⟩
theorem turn_enumS {P : Program} {w : World} {K : PySem.W.Frag} {elts : List Expr} {kk : Nat} {tpos : Pos} (z : Str) (t : Tok) (e it : Addr) :
    Turn P w K (.Tuple elts kk tpos) (ItEs z) [e, it] e (fun i h => (∃ old, IsEnum h e it ((i : Nat) : Int) old) ∧ h.IsStrIter it (strIterType z) z t i ∧ e ≠ it ∧ i ≤ z.cps.size) where
  mem := by simp
  obj := fun i h st b hb => by
    obtain ⟨⟨old, he⟩, ⟨o, ho, hc, hd⟩, _⟩ := st
    have two : b = e ∨ b = it := by simpa using hb
    rcases two with q | q
    · rw [q]; exact ⟨_, he, fun v y => nomatch y⟩
    · rw [q]; exact ⟨o, ho, fun v y => by rw [hd] at y; cases y⟩
  keep := fun i h h' st k => let ⟨⟨old, he⟩, ⟨o, ho, r⟩, hne, hle⟩ := st; ⟨⟨old, k e (by simp) _ he⟩, ⟨o, k it (by simp) o ho, r⟩, hne, hle⟩
  item := by
    intro X hP hw hK hc i pins s σ H E I hf st hg
    subst hP hw hK
    obtain ⟨⟨old, he⟩, hit, hne, hle⟩ := st
    have le1 : e < s.heap.objs.size := Heap.lt_size he
    have le2 : it < s.heap.objs.size := by obtain ⟨_, q, _⟩ := hit; exact Heap.lt_size q
    have D := Draws.text (prog := X.prog) (w := X.w) (A := X.A.in1) (I.ok.hd hc) it z t
    refine wpAny_pyNext_enum_itemD D he hit hg hne (by simpa using hne) fun v h' tk hv ho hst2 hT hsz hk => ?_
    obtain ⟨c, u, hcx, rfl⟩ := hv
    refine ⟨_, rfl, wpAny_letOwnedTupleGo_enum (s := { s with heap := h', toks := tk + 1 }) ho fun h2 he2 sb => ?_⟩
    have g := (sb.2 _ (Nat.ne_of_gt le1)).trans hT
    have made : ObjOk X.prog X.w (upd H s.heap.objs.size (.tup [.int (i : Nat), .str ⟨#[c]⟩])) h2 s.heap.objs.size (.tup [.int (i : Nat), .str ⟨#[c]⟩]) :=
      ⟨by show 2 ≤ sizeLine; decide, [.int i tk, .str ⟨#[c]⟩ u], .cons ⟨_, rfl⟩ (.cons ⟨_, rfl⟩ .nil), ⟨_, g, rfl, _, rfl⟩⟩
    have J : Inv X pins σ (upd H s.heap.objs.size (.tup [.int (i : Nat), .str ⟨#[c]⟩])) { s with heap := h2, toks := tk + 1 } :=
      I.turnedNew (ch := [e, it]) (fun b ob hb q => (sb.2 b (fun y => hb (by simp [y]))).trans (hk b ob (fun y => hb (by simp [y])) (fun y => hb (by simp [y])) q)) hf (Nat.le_refl _) made
    obtain ⟨oi, g1, g2⟩ := hst2
    refine ⟨.ref s.heap.objs.size, _, J, rfl, ⟨_, c, rfl, I.hok.fresh (Nat.le_refl _), rfl, hcx⟩, ⟨⟨Value.str ⟨#[c]⟩ u, ?_⟩, ⟨oi, (sb.2 it (Ne.symm hne)).trans g1, g2⟩, hne, hg⟩, fun b hb => ?_⟩
    · have e1 : ((i + 1 : Nat) : Int) = (i : Int) + 1 := by omega
      rw [e1]
      exact he2
    · have hlt : b < s.heap.objs.size := by
        have two : b = e ∨ b = it := by simpa using hb
        rcases two with q | q
        · rw [q]; exact le1
        · rw [q]; exact le2
      rw [upd_ne (Nat.ne_of_lt hlt)]
      exact (hf b hb).1
  done := by
    intro X hP hw hK hc i pins s σ H E I hf st hg
    subst hP hw hK
    obtain ⟨⟨old, he⟩, hit, hne, hle⟩ := st
    obtain ⟨f0, f1, f2, f3, f4, f5⟩ := hf it (by simp)
    have hi : i = z.cps.size := Nat.le_antisymm hle hg
    rw [hi] at hit he
    have D := Draws.text (prog := X.prog) (w := X.w) (A := X.A.in1) (I.ok.hd hc) it z t
    exact wpAny_pyNext_enum_endD D he hit fun h' eb => ⟨rfl, I.turned (t' := s.toks) (fun b o hb q => eb b o hb q) f0 f1 f3 f4 f5⟩
  self := fun A i s Q E st h => let ⟨⟨_, he⟩, _⟩ := st; wpAny_pyIter_enum he h
def iEnumS (ta : TA) : TI := fun σ H R => ta σ H fun vs H1 => ∃ z, vs = [.str z] ∧ R (ItEs z) H1
theorem pi_enumS {X : Cx} {e : Expr} {ta : TA} {p pos tpos : Pos} {elts : List Expr} {kk : Nat} (hg : Gl X "enumerate") (hm : X.mg "enumerate" = none) (ha : PA X [e] ta) (hs : starEach [e] X.env = [(false, eval e X.env)] := by rfl) :
    PI X (.Tuple elts kk tpos) (.Call (.Name "enumerate" p) [e] [] pos) (iEnumS ta) := by
  refine ⟨fun pins s σ H R I h => ?_⟩
  refine Call_ (ld_blt I hg hm boot_enumerate (PyProof.Rows.callWith_type1 (thn (ha.run pos pins s σ H _ I h) fun us s1 ⟨vs, H1, I1, r1, q1⟩ => ?_) hs rfl))
  obtain ⟨z, ex, q⟩ := q1
  subst ex
  cases r1 with
  | cons r rr =>
    cases rr
    obtain ⟨t, rfl⟩ := r
    refine call_enumerate_str fun h' he hit hsz hk => wpAny_pyIter_enum he ?_
    have J : Inv X pins σ H1 { s1 with heap := h' } := I1.kept (t' := s1.toks) hk
    refine ⟨s1.heap.objs.size + 1, [s1.heap.objs.size + 1, s1.heap.objs.size], _, _, H1, rfl, J, turn_enumS z t (s1.heap.objs.size + 1) s1.heap.objs.size, ⟨⟨.none, he⟩, hit, Nat.succ_ne_self _, Nat.zero_le _⟩, fun b hb => ?_, q⟩
    have two : b = s1.heap.objs.size + 1 ∨ b = s1.heap.objs.size := by simpa using hb
    have hle : s1.heap.objs.size ≤ b := by
      rcases two with y | y
      · rw [y]; exact Nat.le_add_right _ _
      · rw [y]; exact Nat.le_refl _
    exact I1.fpOk hle (I1.hok.fresh hle)
theorem walk_enumS {z : Str} : Walk (ItEs z) z.cps.size (fun _ => True) (fun i H v H' => ∃ T c, v = .ref T ∧ H T = none ∧ H' = upd H T (.tup [.int (i : Nat), .str ⟨#[c]⟩]) ∧ z.cps[i]? = some c) :=
  ⟨fun _ _ hi _ => hi, fun _ _ => Nat.le_refl _, fun _ _ _ _ _ _ y => y⟩
end
/-! ### the piece with a number -/
def pickN (f : Nat → Int) : List (Nat × Nat) → Int → Option (Nat × Nat) × Int
  | [], left => (none, left)
  | cb :: r, left => if left < f cb.2 then (some cb, left) else pickN f r (left - f cb.2)
def rowS (l : List Nat) (i : Nat) : List (Nat × Nat) := sortA (rowF i (l.drop i))
def nthM (l : List Nat) : Nat → Nat → Int → List Nat
  | 0, _, _ => []
  | k + 1, pl, left => match pickN (fun b => (cR l b).getD k 0) (rowS l pl) left with
    | (some cb, left') => cb.1 :: nthM l k cb.2 left'
    | (none, left') => nthM l k pl left'
theorem nthM_some {l : List Nat} {k pl : Nat} {left left' : Int} {cb : Nat × Nat} (h : pickN (fun b => (cR l b).getD k 0) (rowS l pl) left = (some cb, left')) : nthM l (k + 1) pl left = cb.1 :: nthM l k cb.2 left' := by
  show (match pickN (fun b => (cR l b).getD k 0) (rowS l pl) left with
    | (some cb, left') => cb.1 :: nthM l k cb.2 left'
    | (none, left') => nthM l k pl left') = _
  rw [h]
theorem nthM_none {l : List Nat} {k pl : Nat} {left left' : Int} (h : pickN (fun b => (cR l b).getD k 0) (rowS l pl) left = (none, left')) : nthM l (k + 1) pl left = nthM l k pl left' := by
  show (match pickN (fun b => (cR l b).getD k 0) (rowS l pl) left with
    | (some cb, left') => cb.1 :: nthM l k cb.2 left'
    | (none, left') => nthM l k pl left') = _
  rw [h]
theorem sortA_mem {kvs : List (Nat × Nat)} {x : Nat × Nat} : x ∈ sortA kvs ↔ x ∈ kvs := (sortA_perm kvs).mem_iff
theorem rowS_bd {l : List Nat} {pl : Nat} (h : pl ≤ l.length) {cb : Nat × Nat} (hm : cb ∈ rowS l pl) : cb.2 ≤ l.length := by
  have h2 := rowF_bd _ _ _ (sortA_mem.mp hm)
  rw [List.length_drop] at h2
  omega
theorem mkS_snoc (l : List Nat) (c : Nat) : mkS l ++ sg c = mkS (l ++ [c]) := by
  show (⟨l.toArray ++ #[c]⟩ : Str) = ⟨(l ++ [c]).toArray⟩
  simp
section
open Evl
variable {P : Program} {w : World} {K : PySem.W.Frag} {mg : Str → Option Value} {base : Heap}
def spNth : Sp := fun vs H Q _ => ∃ (l : List Nat) (k : Nat) (number : Int), vs = [vS l, .int (k : Int), .int number] ∧ l.length ≤ 1000 ∧ txtB l = true ∧ k ≤ l.length ∧ 0 ≤ number ∧ number < (cR l 0).getD k 0 ∧ ∀ H', Ex H H' → Q (vS (nthM l k 0 number)) H'
theorem getD_nat {l : List V} {i : Nat} {v : V} (h : l[i]? = some v) : atI l (i : Int) = some v := atI_nat h
abbrev nm_nth_piece : List Str := ["text", "length", "number", "rows", "numbers", "piece", "place", "left", "lacking", "letter", "behind", "many"]
theorem sc_nth_piece : FnScope nm_nth_piece ["text", "length", "number"] (defScope s_nth_piece) := ⟨rfl, rfl, rfl, by decide +kernel, rfl, by decide +kernel, by decide +kernel⟩
theorem b_nth_piece {K : PySem.W.Frag} {mg : Str → Option Value} (T : Txt K mg) : Binds K T.d_nth_piece ["text", "length", "number"] [] := T.F_nth_piece.bindsN fun _ _ _ _ _ _ us hl => match us, hl with | [_, _, _], _ => rfl
theorem ok_nth_piece (T : Txt K mg) : FnOk P w K mg base CX0 3 T.a_nth_piece T.d_nth_piece ["text", "length", "number"] spNth := by
  refine T.F_nth_piece.ok sc_nth_piece (fun vs H Q E h => ?_) (fun cdv A outer s H vs Q E hr h => ⟨_, PSs.nox (pss_cons (ps_expr (pe_call (ok_check_text T) (hr.mono (by decide)) (by rfl) T.g_check_text T.F_check_text.kp (b_check_text T) .nil pass0 (pa_cons (pv 0) pa_nil)))
      (pss_cons (ps_expr (pe_call (ok_check_length T) (hr.mono (by decide)) (by rfl) T.g_check_length T.F_check_length.kp (b_check_length T) .nil pass0 (pa_cons (pv 1) pa_nil)))
      (pss_cons (ps_if (PW.pt (pw_or (pt_not (pt_val (pe_call (ok_is_from_zero T) (hr.mono (by decide)) (by rfl) T.g_is_from_zero T.F_is_from_zero.kp (b_is_from_zero T) .nil pass0 (pa_cons (pv 2) pa_nil)))) (pw_or1 (pt_cmpR op_gt1 (pv 1) (pe_callB call_len_t (by rfl) T.n_len (by decide +kernel) (pa_cons (pv 0) pa_nil)) (nomark _))))) (pss_one ps_never) pss_nil)
      (pss_cons (ps_set (i := 3) sc_nth_piece.nd rfl (by first | exact Or.inl rfl | exact Or.inr rfl) (pe_call (ok_followers T) (hr.mono (by decide)) (by rfl) T.g_followers T.F_followers.kp (b_followers T) .nil pass0 (pa_cons (pv 0) pa_nil)))
      (pss_cons (ps_set (i := 4) sc_nth_piece.nd rfl (by first | exact Or.inl rfl | exact Or.inr rfl) (pe_call (ok_counts_onward T) (hr.mono (by decide)) (by rfl) T.g_counts_onward T.F_counts_onward.kp (b_counts_onward T) .nil pass0 (pa_cons (pv 0) (pa_cons (pv 3) pa_nil))))
      (pss_cons (ps_if (pt_cmpR op_ge1 (pv 2) (pe_ix (ixk (K0 := K) rIxL ix_list rfl) (pe_dget (hu_of hr) (pv 4) pe_int (fun _ _ => rfl)) (pv 1) (fun _ _ => rfl)) (nomark _)) (pss_one ps_never) pss_nil)
      (pss_cons (ps_set (i := 5) sc_nth_piece.nd rfl (by first | exact Or.inl rfl | exact Or.inr rfl) pe_str)
      (pss_cons (ps_set (i := 6) sc_nth_piece.nd rfl (by first | exact Or.inl rfl | exact Or.inr rfl) pe_int)
      (pss_cons (ps_set (i := 7) sc_nth_piece.nd rfl (by first | exact Or.inl rfl | exact Or.inr rfl) (pv 2))
      (pss_cons (ps_for PassesOwn.never rfl (pi_revR (by rfl) T.n_reversed (prg_1 (by rfl) T.n_range (pv 1))) (pg_name (i := 8) sc_nth_piece.nd rfl (by first | exact Or.inl rfl | exact Or.inr rfl))
      (pss_one (ps_for PassesOwn.never rfl (pilk (K0 := K) (pi_list (pe_sortedItems (hr.mono (by decide)) rfl (pe_ix (ixk (K0 := K) rIxL ix_list rfl) (pv 3) (pv 6) (fun _ _ => rfl)) (by rfl) T.n_sorted)) rfl) (pg_tup (by rfl) (pgs_cons (pg_name (i := 9) sc_nth_piece.nd rfl (by first | exact Or.inl rfl | exact Or.inr rfl)) (pgs_cons (pg_name (i := 10) sc_nth_piece.nd rfl (by first | exact Or.inl rfl | exact Or.inr rfl)) pgs_nil)))
      (pss_cons (ps_set (i := 11) sc_nth_piece.nd rfl (by first | exact Or.inl rfl | exact Or.inr rfl) (pe_ix (ixk (K0 := K) rIxL ix_list rfl) (pe_dget (hu_of hr) (pv 4) (pv 10) (fun _ _ => rfl)) (pv 8) (fun _ _ => rfl)))
      (pss_cons (ps_if (pt_cmpR op_lt (pv 7) (pv 11) (nomark _)) (pss_cons (ps_aug (i := 5) sc_nth_piece.nd rfl (by first | exact Or.inl rfl | exact Or.inr rfl) (pv 9) ip_add_str)
      (pss_cons (ps_set (i := 6) sc_nth_piece.nd rfl (by first | exact Or.inl rfl | exact Or.inr rfl) (pv 10))
      (pss_one ps_break))) pss_nil)
      (pss_one (ps_aug (i := 7) sc_nth_piece.nd rfl (by first | exact Or.inl rfl | exact Or.inr rfl) (pv 11) ip_sub)))))))
      (pss_one (ps_ret (pv 5))))))))))))), ?_⟩)
  · obtain ⟨l, k, number, rfl, _⟩ := h
    rfl
  · obtain ⟨l, k, number, rfl, hl, tl, hk, h0, h1, kq⟩ := h
    have hl3 : l.length ≤ 30000 := by omega
    refine q_drop (v := .non) (ev_call (vs := [vS l]) (ea_cons (ev_var rfl) ea_nil) fun H1 e Q1 q E1 => ⟨l, rfl, hl3, tl, q⟩) fun H1 e1 => ?_
    refine q_drop (v := .non) (ev_call (vs := [V.int (k : Int)]) (ea_cons (ev_var rfl) ea_nil) fun H1 e Q1 q E1 => ⟨_, rfl, by omega, q⟩) fun H2 e2 => ?_
    refine q_when (b := false) (et_is (et_or (a := false) (et_is (et_not (et_B (b := decide (0 ≤ number)) (ev_call (vs := [V.int number]) (ea_cons (ev_var rfl) ea_nil) fun H1 e Q1 q E1 => ⟨number, rfl, q⟩))) (by rw [decide_eq_true h0] <;> rfl))
      (fun _ => et_is (b := false) (et_test (ev_op (ev_var rfl) (ev_lenS (i := 0) rfl hl3) (rv_I0 (g := fun i j => .bl (decide (j < i)))))) (decide_eq_false (by omega)))) rfl) (fun z => by cases z) (fun _ H3 e3 => ?_)
    have ex3 : Ex H H3 := (e1.trans e2).trans e3
    -- rows, numbers
    refine ⟨_, rfl, l, rfl, hl3, fun p H4 hp e4 hF => ?_⟩
    refine ⟨_, rfl, _, rfl, l, p, rfl, hl3, hF, fun a H5 ha e5 hN => ?_⟩
    obtain ⟨ds, hds, hpl, hrows⟩ := hF.mono e5
    obtain ⟨kvs, hA, hnum⟩ := hN
    have row_at : ∀ (i : Nat), i ≤ l.length → ∃ r, valV kvs (Sum.inl (i : Int)) = some (.ref r) ∧ H5 r = some (.lst (intV (cR l i))) := fun i hi => by
      obtain ⟨r, g1, _, g2⟩ := hnum i hi
      exact ⟨r, g1, g2⟩
    -- if number >= numbers[0][length]
    obtain ⟨r0, g1, g2⟩ := row_at 0 (Nat.zero_le _)
    refine q_when (b := false) (et_is (et_test (ev_op (ev_var rfl) (ev_op (ev_dget (k := Sum.inl (0 : Int)) (ev_var rfl) ev_c hA g1) (ev_var rfl) (rv_ixL (v := .int ((cR l 0).getD k 0)) (sq_of g2) (intV_at (by rw [cR_len (Nat.zero_le _)]; omega)))) (rv_I0 (g := fun i j => .bl (decide (j ≤ i)))))) (decide_eq_false (by omega))) (fun z => by cases z) (fun _ H6 e6 => ?_)
    refine q_asg (v := vS []) ev_c fun H7 e7 => ?_
    refine q_asg (v := .int ((0 : Nat) : Int)) ev_c fun H8 e8 => ?_
    refine q_asg (v := .int number) (ev_var rfl) fun H9 e9 => ?_
    have ex9 : Ex H5 H9 := ((e6.trans e7).trans e8).trans e9
    -- the outer loop
    refine q_forN (et_rev1 (n := (k : Int)) (ev_var rfl) (by omega)) (fun i σ H' => ∃ (acc : List Nat) (pl : Nat) (left : Int) (x8 x9 x10 x11 : Option V), σ = [some (vS l), some (.int (k : Int)), some (.int number), some (.ref p), some (.ref a), some (vS acc), some (.int (pl : Int)), some (.int left), x8, x9, x10, x11] ∧
        acc.length ≤ i ∧ pl ≤ l.length ∧ i ≤ k ∧ acc ++ nthM l (k - i) pl left = nthM l k 0 number ∧ Ex H5 H')
      (fun H10 e10 => ⟨[], 0, number, _, _, _, _, rfl, Nat.le_refl _, Nat.zero_le _, Nat.zero_le _, rfl, ex9.trans e10⟩) ?_ ?_
    · rintro i σ H' hi ⟨acc, pl, left, x8, x9, x10, x11, rfl, hacc, hpl2, hik, heq, ex⟩
      have hi2 : i < k := by omega
      have elk : (k : Int) - 1 - (i : Int) = ((k - 1 - i : Nat) : Int) := by omega
      rw [elk]
      have ekk : k - i = (k - 1 - i) + 1 := by omega
      rw [ekk] at heq
      generalize hlk : k - 1 - i = lk at *
      obtain ⟨d1, hd1⟩ : ∃ d, ds[pl]? = some d := ⟨ds[pl], List.getElem?_eq_getElem (by omega)⟩
      have hdd : H' d1 = some (.dK (embK (rowF pl (l.drop pl)))) := ex _ _ (hrows _ _ hd1)
      refine ⟨_, rfl, _, rfl, p, _, _, _, rfl, rfl, sq_of (ex _ _ hpl), atI_nat (by rw [List.getElem?_map, hd1]; rfl), d1, _, rfl, hdd, (by
        have := rowF_len (l.drop pl) pl
        rw [List.length_drop] at this
        omega), fun Hs q ts exs hq hql hpair => ?_⟩
      have hts : ∀ (j : Nat) (t : Addr), ts[j]? = some t → ∃ cb, (rowS l pl)[j]? = some cb ∧ Hs t = some (.tup [.str (sg cb.1), .int (cb.2 : Int)]) := fun j t ht => by
        have hlen := Paired.length hpair
        have hj := (List.getElem?_eq_some_iff.mp ht).1
        have e10 : (sortA (rowF pl (l.drop pl)))[j]? = some ((sortA (rowF pl (l.drop pl)))[j]'(by omega)) := List.getElem?_eq_getElem _
        exact ⟨_, e10, pair_get hpair ht e10⟩
      refine ⟨q, rfl, ⟨_, sq_of hql⟩, for_list (K := K) (a := q) (xs := ts.map V.ref) (fun j σ H2 => ∃ (lf : Int) (y9 y10 y11 : Option V), σ = [some (vS l), some (.int (k : Int)), some (.int number), some (.ref p), some (.ref a), some (vS acc), some (.int (pl : Int)), some (.int lf), some (.int (lk : Int)), y9, y10, y11] ∧
          pickN (fun b => (cR l b).getD lk 0) (rowS l pl) left = pickN (fun b => (cR l b).getD lk 0) ((rowS l pl).drop j) lf ∧ Ex Hs H2)
        ⟨left, x9, x10, x11, rfl, rfl, Ex.refl _⟩ (fun j σ H2 _ ⟨_, _, _, _, _, _, ex2⟩ => sq_of (ex2 _ _ hql)) ?_ ?_⟩
      · rintro j y σ H2 hj ⟨lf, y9, y10, y11, rfl, hpick, ex2⟩
        obtain ⟨t, ht, rfl⟩ : ∃ t, ts[j]? = some t ∧ y = V.ref t := by
          rw [List.getElem?_map] at hj
          cases e : ts[j]? with
          | none =>
            rw [e] at hj
            cases hj
          | some t =>
            rw [e] at hj
            exact ⟨t, rfl, (Option.some.inj hj).symm⟩
        obtain ⟨cb, hcb, htup⟩ := hts j t ht
        have hjl := (List.getElem?_eq_some_iff.mp hcb).1
        have edrop : (rowS l pl).drop j = cb :: (rowS l pl).drop (j + 1) := by
          rw [List.drop_eq_getElem_cons hjl, (List.getElem?_eq_some_iff.mp hcb).2]
        rw [edrop] at hpick
        have hmem : cb ∈ rowF pl (l.drop pl) := sortA_mem.mp (List.mem_of_getElem? hcb)
        have hbd := rowF_bd _ _ _ hmem
        rw [List.length_drop] at hbd
        have hb : cb.2 ≤ l.length := by omega
        obtain ⟨rb, gb1, gb2⟩ := row_at cb.2 hb
        refine ⟨t, _, rfl, st_of (ex2 _ _ htup), rfl, _, _, rfl, _, _, rfl, rfl, ?_⟩
        have exx : Ex H5 H2 := (ex.trans exs).trans ex2
        -- many = numbers[behind][lacking]
        refine q_asg (v := .int ((cR l cb.2).getD lk 0)) (ev_op (ev_dget (k := Sum.inl (cb.2 : Int)) (ev_var rfl) (ev_var rfl) (exx _ _ hA) gb1) (ev_var rfl) (rv_ixL (sq_of (exx _ _ gb2)) (intV_at (by rw [cR_len hb]; omega)))) fun H3 e3 => ?_
        by_cases hc : lf < (cR l cb.2).getD lk 0
        · have hp2 : pickN (fun b => (cR l b).getD lk 0) (rowS l pl) left = (some cb, lf) := by
            rw [hpick]
            exact if_pos hc
          rw [nthM_some hp2] at heq
          refine q_when (b := true) (et_is (et_test (ev_op (ev_var rfl) (ev_var rfl) (rv_I0 (g := fun i j => .bl (decide (i < j)))))) (decide_eq_true hc)) (fun _ H4 e4 => ?_) (fun z => by cases z)
          refine ⟨_, rfl, _, rfl, mkS acc, sg cb.1, rfl, rfl, (by
            rw [mkS_len]
            exact sz_of (by
              have : (sg cb.1).length = 1 := rfl
              omega)), ?_⟩
          rw [mkS_snoc]
          refine ⟨_, rfl, ⟨acc ++ [cb.1], cb.2, lf, _, _, _, _, rfl, by rw [List.length_append]; exact Nat.succ_le_succ hacc, hb, hi2, ?_, (exx.trans e3).trans e4⟩⟩
          have e11 : k - (i + 1) = lk := by omega
          rw [e11, List.append_assoc]
          exact heq
        · refine q_when (b := false) (et_is (et_test (ev_op (ev_var rfl) (ev_var rfl) (rv_I0 (g := fun i j => .bl (decide (i < j)))))) (decide_eq_false hc)) (fun z => by cases z) (fun _ H4 e4 => ?_)
          refine ⟨_, rfl, _, rfl, _, _, rfl, rfl, ⟨lf - (cR l cb.2).getD lk 0, _, _, _, rfl, ?_, (ex2.trans e3).trans e4⟩⟩
          rw [hpick]
          exact if_neg hc
      · rintro σ H2 ⟨lf, y9, y10, y11, rfl, hpick, ex2⟩
        have hlen := Paired.length hpair
        rw [List.length_map, hlen] at hpick
        have e10 : (rowS l pl).drop (sortA (rowF pl (l.drop pl))).length = [] := List.drop_length
        rw [e10] at hpick
        have hp2 : pickN (fun b => (cR l b).getD lk 0) (rowS l pl) left = (none, lf) := hpick
        rw [nthM_none hp2] at heq
        have e11 : k - (i + 1) = lk := by omega
        exact ⟨acc, pl, lf, _, _, _, _, rfl, by omega, hpl2, hi2, by rw [e11]; exact heq, (ex.trans exs).trans ex2⟩
    · rintro σ H' ⟨acc, pl, left, x8, x9, x10, x11, rfl, hacc, hpl2, hik, heq, ex⟩
      have ek : ((k : Int)).toNat = k := by omega
      rw [ek, Nat.sub_self] at heq
      have heq2 : acc ++ [] = nthM l k 0 number := heq
      rw [List.append_nil] at heq2
      refine ⟨_, rfl, ?_⟩
      rw [heq2]
      exact kq H' (((ex3.trans e4).trans e5).trans ex)
end
/-! ### the number of a piece -/
def sumL (l : List Nat) (st c lack : Nat) : List Int := ((rowF st (l.drop st)).filter fun e => decide (e.1 < c)).map fun e => (cR l e.2).getD lack 0
def sumF (l : List Nat) (st c lack : Nat) : Int := (sumL l st c lack).sum
def numM (l : List Nat) : Nat → List Nat → List Nat → Int
  | st, k :: ks, c :: r => sumF l st c r.length + numM l (k + 1) ks r
  | _, _, _ => 0
theorem putA_keys (kvs : List (Nat × Nat)) (c b : Nat) (h : (kvs.map (·.1)).Nodup) : ((putA kvs c b).map (·.1)).Nodup := by
  unfold putA
  split
  · have e : (kvs.map (fun e => if e.1 = c then (e.1, b) else e)).map (·.1) = kvs.map (·.1) := by
      rw [List.map_map]
      apply List.map_congr_left
      intro e _
      show (if e.1 = c then (e.1, b) else e).1 = e.1
      split <;> rfl
    rw [e]
    exact h
  · rename_i hn
    rw [List.map_append, List.nodup_append]
    refine ⟨h, List.pairwise_singleton _ _, fun x hx y hy z => ?_⟩
    have hy2 : y = c := List.mem_singleton.mp hy
    obtain ⟨e, he, h2⟩ := List.mem_map.mp hx
    apply hn
    rw [List.any_eq_true]
    exact ⟨e, he, decide_eq_true (by rw [h2, z, hy2])⟩
theorem rowF_keys : ∀ (l : List Nat) (o : Nat), ((rowF o l).map (·.1)).Nodup
  | [], _ => List.nodup_nil
  | c :: r, o => putA_keys _ _ _ (rowF_keys r (o + 1))
theorem valA_of : ∀ {kvs : List (Nat × Nat)}, (kvs.map (·.1)).Nodup → ∀ {e : Nat × Nat}, e ∈ kvs → valA kvs e.1 = some e.2
  | [], _, _, h => by cases h
  | x :: r, hn, e, h => by
    rw [List.map_cons, List.nodup_cons] at hn
    rcases List.mem_cons.mp h with h1 | h1
    · unfold valA
      rw [List.find?_cons_of_pos (by simp [h1]), h1]
      rfl
    · have ne : ¬ x.1 = e.1 := fun z => hn.1 (by
        rw [z]
        exact List.mem_map.mpr ⟨e, h1, rfl⟩)
      unfold valA
      rw [List.find?_cons_of_neg (by simp [ne])]
      exact valA_of hn.2 h1
theorem numM_step {l : List Nat} {st k c : Nat} {ks r : List Nat} : numM l st (k :: ks) (c :: r) = sumF l st c r.length + numM l (k + 1) ks r := rfl
section
open Evl
variable {K : PySem.W.Frag} {σ : L2.St} {H H' : Hp} {td te : TE} {D : Ends} {tu tz : TS}
theorem el_lock {t : TE} {d : Addr} {kvs : List (Key × V)} {xs : List V} (hd : H d = some (.dK kvs)) (h : ∀ H1, Ex H H1 → ∀ od, EvL t σ (upd H1 d (.frz od (.dK kvs))) xs) : EvL (tLockE t) σ H xs := fun H1 e Q q =>
  ⟨d, .dK kvs, e d _ hd, trivial, fun od => h H1 e od _ (Ex.refl _) _ fun p H2 hp e2 h2 => by
    have npd : p ≠ d := fun z => by
      rw [z, upd_same] at hp
      cases hp
    rw [upd_ne npd] at hp
    refine ⟨e2 d _ upd_same, q p _ hp (fun a o ha => ?_) (by rw [upd_ne npd]; exact h2)⟩
    by_cases hda : a = d
    · rw [hda, upd_same, ← e d _ hd, ← hda]
      exact ha
    · rw [upd_ne hda]
      exact e2 a o (by rw [upd_ne hda]; exact ha)⟩
theorem ew_keys {d : Addr} {o : Obj} {kvs : List (Key × V)} (h : Ev td σ H (.ref d)) (hd : H d = some (.frz o (.dK kvs))) : EvW (iKeys td) σ H kvs.length (fun i => (kvs.map fun kv => kV kv.1).getD i .non) := fun H1 e R k =>
  h H1 e _ fun H2 e2 => ⟨d, o, rfl, .inl ⟨kvs, e2 _ _ (e _ _ hd), k H2 e2 _ _ _ (walk_keys (d := d) (o := o) (kvs := kvs)) (fun i H3 v H4 hi ⟨h1, kk, vv, h2, h3⟩ => ⟨h1, by
    show v = (kvs.map fun kv => kV kv.1).getD i V.non
    rw [List.getD_eq_getElem?_getD, List.getElem?_map, h2, h3]
    rfl⟩) (fun H3 e3 => e3 _ _ (e2 _ _ (e _ _ hd)))⟩⟩
theorem ev_dgetF {td ty : TE} {a : Addr} {o : Obj} {kvs : List (Key × V)} {k : Key} {v : V} (hd : Ev td σ H (.ref a)) (hy : Ev ty σ H (kV k)) (ha : H a = some (.frz o (.dK kvs))) (hv : valV kvs k = some v) : Ev (tDGet td ty) σ H v := fun H1 e Q q =>
  hd H1 e _ fun H2 e2 => hy H2 (e.trans e2) _ fun H3 e3 => ⟨a, v, rfl, .inl ⟨kvs, k, .inr ⟨o, ((e.trans e2).trans e3) a _ ha⟩, rfl, hv.symm⟩, q H3 (e2.trans e3)⟩
theorem given_filter {α : Type} (d : α) (kvs : List α) (P : α → Bool) (g : α → V) : given kvs.length (fun i => P (kvs.getD i d)) (fun i => g (kvs.getD i d)) = (kvs.filter P).map g := by
  unfold given
  have e := range_map_getD d kvs
  have e2 : (kvs.filter P).map g = (((List.range kvs.length).map (fun i => kvs.getD i d)).filter P).map g := by rw [e]
  rw [e2, List.filter_map, List.map_map]
  rfl
/-- for i, c in enumerate(text) -/
theorem q_forES {ta : TA} {z : Str} {j1 j2 : Nat} (h : EvA ta σ H [.str z]) (Pv : Nat → L2.St → Hp → Prop) (h0 : ∀ H1, Ex H H1 → Pv 0 σ H1)
    (hs : ∀ i σ' H' H2, i < z.cps.size → Pv i σ' H' → Ex H' H2 → tu { D with nx := Pv (i + 1), ct := Pv (i + 1), bk := tz D } ((σ'.set j1 (some (.int (i : Nat)))).set j2 (some (.str ⟨#[z.cps.getD i 0]⟩))) H2)
    (hd : ∀ σ' H', Pv z.cps.size σ' H' → tz D σ' H') : tSeq (tFor (iEnumS ta) (gTup K 2 (gCons (gName j1) (gCons (gName j2) gNil))) tu) tz D σ H :=
  h H (Ex.refl H) _ fun H1 e1 => ⟨z, rfl, for_it walk_enumS Pv (h0 H1 e1) (fun _ _ _ _ _ => trivial) (fun i x σ' H3 H4 hi p ⟨T, c, hx, hT, hH, hc⟩ => by
    subst hx hH
    have e3 : z.cps.getD i 0 = c := by
      rw [Array.getD_eq_getD_getElem?, hc]
      rfl
    refine ⟨T, _, rfl, st_of upd_same, rfl, _, _, rfl, _, _, rfl, rfl, ?_⟩
    have g := hs i σ' H3 _ hi p (Ex.new (o := .tup [.int (i : Nat), .str ⟨#[c]⟩]) hT)
    rw [e3] at g
    exact g) hd⟩
end
section
open Evl
variable {K : PySem.W.Frag} {σ : L2.St} {H H' : Hp} {td te : TE} {D : Ends} {tu tz : TS}
variable {P : Program} {w : World} {mg : Str → Option Value} {base : Heap}
def spNum : Sp := fun vs H Q _ => ∃ l p : List Nat, vs = [vS l, vS p] ∧ l.length ≤ 1000 ∧ p.length ≤ 1000 ∧ txtB l = true ∧ txtB p = true ∧ holdsB l p = true ∧ ∀ H', Ex H H' → Q (.int (numM l 0 (reach l 0 p) p)) H'
theorem reach_at : ∀ (p : List Nat) (l : List Nat) (s j k : Nat), (reach l s p)[j]? = some k → k < l.length
  | [], l, s, j, k, h => by cases h
  | c :: p, l, s, j, k, h => by
    cases hn : nxt l s c with
    | none =>
      rw [reach_no hn] at h
      cases h
    | some k0 =>
      rw [reach_go hn] at h
      cases j with
      | zero =>
        have e : k0 = k := Option.some.inj h
        rw [← e]
        exact (nxt_lt hn).2.1
      | succ j => exact reach_at p l (k0 + 1) j k h
theorem reach_fit (l : List Nat) : ∀ (p : List Nat) (s : Nat), s ≤ l.length → (reach l s p).length + s ≤ l.length
  | [], s, hs => by
    show 0 + s ≤ l.length
    omega
  | c :: p, s, hs => by
    cases hn : nxt l s c with
    | none =>
      rw [reach_no hn]
      show 0 + s ≤ l.length
      omega
    | some k =>
      rw [reach_go hn]
      have h1 := nxt_lt hn
      have ih := reach_fit l p (k + 1) (by omega)
      rw [List.length_cons]
      omega
abbrev nm_number_of : List Str := ["text", "piece", "places", "rows", "numbers", "number", "start", "at", "letter", "lacking", "other"]
theorem sc_number_of : FnScope nm_number_of ["text", "piece"] (defScope s_number_of) := ⟨rfl, rfl, rfl, by decide +kernel, rfl, by decide +kernel, by decide +kernel⟩
theorem b_number_of {K : PySem.W.Frag} {mg : Str → Option Value} (T : Txt K mg) : Binds K T.d_number_of ["text", "piece"] [] := T.F_number_of.bindsN fun _ _ _ _ _ _ us hl => match us, hl with | [_, _], _ => rfl
theorem ok_number_of (T : Txt K mg) : FnOk P w K mg base CX0 5 T.a_number_of T.d_number_of ["text", "piece"] spNum := by
  refine T.F_number_of.ok sc_number_of (fun vs H Q E h => ?_) (fun cdv A outer s H vs Q E hr h => ⟨_, PSs.nox (pss_cons (ps_set (i := 2) sc_number_of.nd rfl (by first | exact Or.inl rfl | exact Or.inr rfl) (pe_call (ok_first_places T) (hr.mono (by decide)) (by rfl) T.g_first_places T.F_first_places.kp (b_first_places T) .nil pass0 (pa_cons (pv 0) (pa_cons (pv 1) pa_nil))))
      (pss_cons (ps_set (i := 3) sc_number_of.nd rfl (by first | exact Or.inl rfl | exact Or.inr rfl) (pe_call (ok_followers T) (hr.mono (by decide)) (by rfl) T.g_followers T.F_followers.kp (b_followers T) .nil pass0 (pa_cons (pv 0) pa_nil)))
      (pss_cons (ps_set (i := 4) sc_number_of.nd rfl (by first | exact Or.inl rfl | exact Or.inr rfl) (pe_call (ok_counts_onward T) (hr.mono (by decide)) (by rfl) T.g_counts_onward T.F_counts_onward.kp (b_counts_onward T) .nil pass0 (pa_cons (pv 0) (pa_cons (pv 3) pa_nil))))
      (pss_cons (ps_set (i := 5) sc_number_of.nd rfl (by first | exact Or.inl rfl | exact Or.inr rfl) pe_int)
      (pss_cons (ps_set (i := 6) sc_number_of.nd rfl (by first | exact Or.inl rfl | exact Or.inr rfl) pe_int)
      (pss_cons (ps_for PassesOwn.never rfl (pi_enumS (by rfl) T.n_enumerate (pa_cons (pv 1) pa_nil)) (pg_tup (by rfl) (pgs_cons (pg_name (i := 7) sc_number_of.nd rfl (by first | exact Or.inl rfl | exact Or.inr rfl)) (pgs_cons (pg_name (i := 8) sc_number_of.nd rfl (by first | exact Or.inl rfl | exact Or.inr rfl)) pgs_nil)))
      (pss_cons (ps_set (i := 9) sc_number_of.nd rfl (by first | exact Or.inl rfl | exact Or.inr rfl) (pe_op op_sub (pe_op op_sub (pe_callB call_len_t (by rfl) T.n_len (by decide +kernel) (pa_cons (pv 1) pa_nil)) (pv 7)) pe_int))
      (pss_cons (ps_aug (i := 5) sc_number_of.nd rfl (by first | exact Or.inl rfl | exact Or.inr rfl) (pe_callB (callk (K0 := K) rSum (cr_sum rfl) rfl) (by rfl) T.n_sum (by decide +kernel) (pa_cons (pe_lock (pe_lc (own := [("other", 10)]) (g := (gName 10))  rfl sc_number_of.nd (pi_keys (pe_ix (ixk (K0 := K) rIxL ix_list rfl) (pv 3) (pv 6) (fun _ _ => rfl))) (blkOk_by (own := [("other", 10)]) (N := nm_number_of) (sc := defScope s_number_of) (by decide +kernel)) (fun _ _ _ _ _ => (pg_name (i := 10) sc_number_of.nd rfl (by first | exact Or.inl rfl | exact Or.inr rfl))) (fun _ _ _ _ _ => (pts_one (pt_cmpR op_lt_str (pv 10) (pv 8) (nomark _)))) (fun _ _ _ _ _ => (pe_ix (ixk (K0 := K) rIxL ix_list rfl) (pe_dget (hu_of hr) (pv 4) (pe_dget (hu_of hr) (pe_ix (ixk (K0 := K) rIxL ix_list rfl) (pv 3) (pv 6) (fun _ _ => rfl)) (pv 10) (fun _ _ => rfl)) (fun _ _ => rfl)) (pv 9) (fun _ _ => rfl))))) pa_nil)) ip_add)
      (pss_one (ps_set (i := 6) sc_number_of.nd rfl (by first | exact Or.inl rfl | exact Or.inr rfl) (pe_op op_add (pe_ix (ixk (K0 := K) rIxL ix_list rfl) (pv 2) (pv 7) (fun _ _ => rfl)) pe_int))))))
      (pss_one (ps_ret (pv 5))))))))), ?_⟩)
  · obtain ⟨l, p, rfl, _⟩ := h
    rfl
  · obtain ⟨l, p, rfl, hl, hp, tl, tp, hh, k⟩ := h
    have hl3 : l.length ≤ 30000 := by omega
    have hp3 : p.length ≤ 30000 := by omega
    refine q_asgL (xs := natV (reach l 0 p)) (el_call (vs := [vS l, vS p]) (ea_cons (ev_var rfl) (ea_cons (ev_var rfl) ea_nil)) fun H1 e Q1 q E1 => ⟨l, p, rfl, hl3, hp3, tl, tp, hh, q⟩) fun q H1 hq e1 h1 => ?_
    refine ⟨_, rfl, l, rfl, hl3, fun pr H4 hpr e4 hF => ?_⟩
    refine ⟨_, rfl, _, rfl, l, pr, rfl, hl3, hF, fun a H5 ha e5 hN => ?_⟩
    obtain ⟨ds, hds, hpl4, hrows4⟩ := hF
    have hpl := e5 _ _ hpl4
    have hrows : ∀ j d, ds[j]? = some d → H5 d = some (.dK (embK (rowF j (l.drop j)))) := fun j d hj => e5 _ _ (hrows4 j d hj)
    obtain ⟨kvs, hA, hnum⟩ := hN
    have row_at : ∀ (i : Nat), i ≤ l.length → ∃ r, valV kvs (Sum.inl (i : Int)) = some (.ref r) ∧ H5 r = some (.lst (intV (cR l i))) := fun i hi => by
      obtain ⟨r, g1, _, g2⟩ := hnum i hi
      exact ⟨r, g1, g2⟩
    refine q_asg (v := .int 0) ev_c fun H6 e6 => ?_
    refine q_asg (v := .int ((0 : Nat) : Int)) ev_c fun H7 e7 => ?_
    have hlr : (reach l 0 p).length = p.length := of_decide_eq_true hh
    refine q_forES (K := K) (z := mkS p) (ea_cons (ev_var rfl) ea_nil) (fun i σ H' => ∃ (num : Int) (st : Nat) (x7 x8 x9 : Option V), σ = [some (vS l), some (vS p), some (.ref q), some (.ref pr), some (.ref a), some (.int num), some (.int (st : Int)), x7, x8, x9, none] ∧
        st ≤ l.length ∧ num + numM l st ((reach l 0 p).drop i) (p.drop i) = numM l 0 (reach l 0 p) p ∧ Ex H5 H')
      (fun H8 e8 => ⟨0, 0, none, none, none, rfl, Nat.zero_le _, by rw [Int.zero_add]; rfl, (e6.trans e7).trans e8⟩) ?_ ?_
    · rintro i σ' H' H2 hi ⟨num, st, x7, x8, x9, rfl, hst, heq, ex⟩ ex2
      rw [mkS_size] at hi
      rw [mkS_getD]
      have hir : i < (reach l 0 p).length := by omega
      have e10 : (reach l 0 p).drop i = (reach l 0 p)[i] :: (reach l 0 p).drop (i + 1) := List.drop_eq_getElem_cons hir
      have hkl := reach_at p l 0 i _ (List.getElem?_eq_getElem hir)
      rw [e10, drop_at hi, numM_step] at heq
      generalize hkk : (reach l 0 p)[i] = kk at *
      generalize hcc : p.getD i 0 = c at *
      have exx : Ex H5 H2 := ex.trans ex2
      have elack : (p.length : Int) - (i : Int) - 1 = (((p.drop (i + 1)).length : Nat) : Int) := by
        rw [List.length_drop]
        omega
      -- lacking
      refine q_asg (v := .int (((p.drop (i + 1)).length : Nat) : Int)) (ev_is (ev_op (ev_op (ev_lenS (l := p) (i := 1) rfl hp3) (ev_var rfl) (rv_I0 (g := fun i j => .int (i - j)) (i := (p.length : Int)))) (ev_c (v := V.int 1)) (rv_I0 (g := fun i j => .int (i - j)))) (by rw [elack])) fun H8 e8 => ?_
      have hlack : (p.drop (i + 1)).length ≤ l.length := by
        rw [List.length_drop]
        have := reach_fit l p 0 (Nat.zero_le _)
        omega
      generalize hlk : (p.drop (i + 1)).length = lack at *
      -- the sum
      obtain ⟨d1, hd1⟩ : ∃ d, ds[st]? = some d := ⟨ds[st], List.getElem?_eq_getElem (by omega)⟩
      have ex8 : Ex H5 H8 := exx.trans e8
      have hd8 : H8 d1 = some (.dK (embK (rowF st (l.drop st)))) := ex8 _ _ (hrows _ _ hd1)
      have nad : a ≠ d1 := fun z => by
        have g := hrows4 _ _ hd1
        rw [← z, ha] at g
        cases g
      have hsum : Ev (tCB (rSum K) (tCons (tLockE (tLc (iKeys (tOp (rIxL K) (tVar 3) (tVar 6))) (gName 10) (tTest (tOp (fun x y H Q => ∃ i j, x = V.str i ∧ y = V.str j ∧ Q (.bl (decide (i.cps.toList < j.cps.toList))) H) (tVar 10) (tVar 8)))
          (tOp (rIxL K) (tDGet (tVar 4) (tDGet (tOp (rIxL K) (tVar 3) (tVar 6)) (tVar 10))) (tVar 9)) [10])) tNil))
          [some (vS l), some (vS p), some (.ref q), some (.ref pr), some (.ref a), some (.int num), some (.int (st : Int)), some (.int (i : Int)), some (.str (sg c)), some (.int (lack : Int)), none] H8 (.int (sumF l st c lack)) := by
        refine ev_cbL (xs := (sumL l st c lack).map V.int) (el_lock hd8 fun H9 e9 od => ?_) (fun t H9 e9 ht Q2 q2 => ⟨t, sumL l st c lack, rfl, sq_of ht, q2 H9 (Ex.refl H9)⟩)
        have exL : ∀ b o, b ≠ d1 → H5 b = some o → upd H9 d1 (.frz od (.dK (embK (rowF st (l.drop st))))) b = some o := fun b o hb e => by
          rw [upd_ne hb]
          exact e9 _ _ (ex8 _ _ e)
        have hLd : upd H9 d1 (.frz od (.dK (embK (rowF st (l.drop st))))) d1 = some (.frz od (.dK (embK (rowF st (l.drop st))))) := upd_same
        generalize hHL : upd H9 d1 (.frz od (.dK (embK (rowF st (l.drop st))))) = HL at *
        have npr : pr ≠ d1 := ne_of hpl (hrows _ _ hd1) (by intro z; cases z)
        have hrowsL : ∀ (σ0 : L2.St) (HH : Hp), Ex HL HH → σ0[3]? = some (some (.ref pr)) → σ0[6]? = some (some (.int (st : Int))) → Ev (tOp (rIxL K) (tVar 3) (tVar 6)) σ0 HH (.ref d1) := fun σ0 HH eH h3 h6 => ev_op (ev_var h3) (ev_var h6) (rv_ixL (sq_of (eH _ _ (exL _ _ npr hpl))) (atI_nat (by rw [List.getElem?_map, hd1]; rfl)))
        have em : ∀ j, j < (rowF st (l.drop st)).length → ((embK (rowF st (l.drop st))).map fun kv => kV kv.1).getD j V.non = .str (sg ((rowF st (l.drop st)).getD j (0, 0)).1) := fun j hj => by
          unfold embK
          rw [List.map_map, List.getD_eq_getElem?_getD, List.getElem?_map, List.getElem?_eq_getElem hj, List.getD_eq_getElem?_getD, List.getElem?_eq_getElem hj]
          rfl
        have hrl := rowF_len (l.drop st) st
        rw [List.length_drop] at hrl
        have gl := el_lcW (σ := [some (vS l), some (vS p), some (.ref q), some (.ref pr), some (.ref a), some (.int num), some (.int (st : Int)), some (.int (i : Int)), some (.str (sg c)), some (.int (lack : Int)), none]) (H := HL) (j := 10) (vs := [10])
          (tt := tTest (tOp (fun x y H Q => ∃ i j, x = V.str i ∧ y = V.str j ∧ Q (.bl (decide (i.cps.toList < j.cps.toList))) H) (tVar 10) (tVar 8))) (te := tOp (rIxL K) (tDGet (tVar 4) (tDGet (tOp (rIxL K) (tVar 3) (tVar 6)) (tVar 10))) (tVar 9))
          (fun j => decide (((rowF st (l.drop st)).getD j (0, 0)).1 < c)) (fun j => .int ((cR l ((rowF st (l.drop st)).getD j (0, 0)).2).getD lack 0)) (ew_keys (hrowsL _ _ (Ex.refl _) rfl rfl) hLd) (by rw [embK_len]; omega) (fun x => rfl)
          (fun j HH eH hj => by
            rw [embK_len] at hj
            rw [em j hj]
            refine et_test (ev_op (ev_var rfl) (ev_var rfl) (rv_val fun H3 e3 Q2 q2 => ⟨_, _, rfl, rfl, ?_⟩))
            rw [sg_lt]
            exact q2)
          (fun j HH eH hj _ => by
            rw [embK_len] at hj
            rw [em j hj]
            have hmem : (rowF st (l.drop st)).getD j (0, 0) ∈ rowF st (l.drop st) := by
              rw [List.getD_eq_getElem?_getD, List.getElem?_eq_getElem hj]
              exact List.getElem_mem hj
            generalize (rowF st (l.drop st)).getD j (0, 0) = cb at *
            have hbd := rowF_bd _ _ _ hmem
            rw [List.length_drop] at hbd
            have hb : cb.2 ≤ l.length := by omega
            obtain ⟨rb, gb1, gb2⟩ := row_at cb.2 hb
            have nrb : rb ≠ d1 := ne_of gb2 (hrows _ _ hd1) (by intro z; cases z)
            refine ev_op (ev_dget (k := Sum.inl (cb.2 : Int)) (ev_var rfl) (ev_dgetF (k := Sum.inr (sg cb.1)) (v := .int (cb.2 : Int)) (hrowsL _ _ eH rfl rfl) (ev_var rfl) (eH _ _ hLd) ?_) (eH _ _ (exL _ _ nad hA)) gb1) (ev_var rfl) (rv_ixL (sq_of (eH _ _ (exL _ _ nrb gb2))) (intV_at (by rw [cR_len hb]; omega)))
            rw [valV_emb, valA_of (rowF_keys _ _) hmem]
            rfl)
        rw [embK_len] at gl
        have eg := given_filter ((0, 0) : Nat × Nat) (rowF st (l.drop st)) (fun e => decide (e.1 < c)) (fun e => V.int ((cR l e.2).getD lack 0))
        unfold sumL
        rw [List.map_map]
        rw [eg] at gl
        exact gl
      refine q_aug (f := fun i j => i + j) (a := num) (b := sumF l st c lack) rfl hsum fun H9 e9 => ?_
      refine s_asg (v := .int ((kk + 1 : Nat) : Int)) (ev_is (ev_op (ev_op (ev_var rfl) (ev_var rfl) (rv_ixL (v := .int (kk : Int)) (sq_of (((e4.trans e5).trans (ex8.trans e9)) _ _ h1)) (atI_nat (by
        unfold natV
        rw [List.getElem?_map, List.getElem?_eq_getElem hir, hkk]
        rfl)))) (ev_c (v := V.int 1)) (rv_I0 (g := fun i j => .int (i + j)))) rfl) fun H10 e10' => ?_
      exact ⟨num + sumF l st c lack, kk + 1, _, _, _, rfl, by omega, by rw [← heq, Int.add_assoc], (ex8.trans e9).trans e10'⟩
    · rintro σ' H' ⟨num, st, x7, x8, x9, rfl, hst, heq, ex⟩
      rw [mkS_size, ← hlr, List.drop_length] at heq
      have heq2 : num + 0 = numM l 0 (reach l 0 p) p := heq
      rw [Int.add_zero] at heq2
      refine ⟨_, rfl, ?_⟩
      rw [heq2]
      exact k H' (((e1.trans e4).trans e5).trans ex)
end
/-! ### texts repeated, cut -/
def repL (n : Nat) (l : List Nat) : List Nat := (List.replicate n l).flatten
theorem repL_len (n : Nat) (l : List Nat) : (repL n l).length = n * l.length := by
  unfold repL
  induction n with
  | zero =>
    rw [Nat.zero_mul]
    rfl
  | succ n ih => rw [List.replicate_succ, List.flatten_cons, List.length_append, ih, Nat.succ_mul, Nat.add_comm]
theorem foldl_arr (x : Array Nat) : ∀ (n : Nat) (acc : Array Nat), (((List.replicate n x).foldl (· ++ ·) acc)).toList = acc.toList ++ repL n x.toList
  | 0, acc => by
    show acc.toList = acc.toList ++ []
    rw [List.append_nil]
  | n + 1, acc => by
    show (((List.replicate n x).foldl (· ++ ·) (acc ++ x))).toList = _
    rw [foldl_arr x n (acc ++ x), Array.toList_append, List.append_assoc]
    rfl
theorem mul_mk (l : List Nat) (n : Nat) : Txt.mul (mkS l) (n : Int) = mkS (repL n l) := by
  have key : ∀ z : Str, z.cps.toList = repL n l → z = mkS (repL n l) := fun z h => by
    have e : z = mkS z.cps.toList := rfl
    rw [e, h]
  apply key
  unfold Txt.mul
  by_cases h0 : (n : Int) < 1
  · rw [if_pos h0]
    have e : n = 0 := by omega
    rw [e]
    rfl
  · rw [if_neg h0]
    by_cases h1 : ((n : Int) == 1 || (mkS l).length == 0) = true
    · rw [if_pos h1]
      rw [Bool.or_eq_true] at h1
      show l = repL n l
      rcases h1 with h | h
      · have e : n = 1 := by
          have e2 := eq_of_beq h
          omega
        rw [e]
        show l = l ++ []
        rw [List.append_nil]
      · have e2 := eq_of_beq h
        rw [mkS_len] at e2
        have e3 : l = [] := List.eq_nil_of_length_eq_zero e2
        have e4 : (repL n l).length = 0 := by
          rw [repL_len, e2, Nat.mul_zero]
        rw [List.eq_nil_of_length_eq_zero e4, e3]
    · rw [if_neg h1]
      show (((List.replicate ((n : Int)).toNat (mkS l).cps).foldl (· ++ ·) #[])).toList = _
      rw [foldl_arr, Int.toNat_natCast]
      rfl
theorem cut_take (l : List Nat) (k : Nat) : cutS (mkS l) none (some (k : Int)) = mkS (l.take k) := by
  unfold cutS mkS
  have e1 : (⟨l.toArray⟩ : Str).length = l.length := mkS_len l
  rw [e1, HT.sIx_nat, HT.sIx_none]
  show (⟨(List.take (min k l.length - 0) (List.drop 0 l)).toArray⟩ : Str) = ⟨(l.take k).toArray⟩
  rw [Nat.sub_zero, List.drop_zero]
  have e2 : List.take (min k l.length) l = l.take k := by
    by_cases h : k ≤ l.length
    · rw [Nat.min_eq_left h]
    · rw [Nat.min_eq_right (by omega), List.take_of_length_le (Nat.le_refl _), List.take_of_length_le (by omega)]
  rw [e2]
theorem cut_drop (l : List Nat) (k : Nat) : cutS (mkS l) (some (k : Int)) none = mkS (l.drop k) := by
  unfold cutS mkS
  have e1 : (⟨l.toArray⟩ : Str).length = l.length := mkS_len l
  rw [e1, HT.sIx_nat, HT.sIx_none]
  show (⟨(List.take (l.length - min k l.length) (List.drop (min k l.length) l)).toArray⟩ : Str) = ⟨(l.drop k).toArray⟩
  have e2 : List.drop (min k l.length) l = l.drop k := by
    by_cases h : k ≤ l.length
    · rw [Nat.min_eq_left h]
    · rw [Nat.min_eq_right (by omega), List.drop_length, List.drop_of_length_le (by omega)]
  rw [e2, List.take_of_length_le (by rw [List.length_drop]; omega)]
theorem app_mk (l m : List Nat) : mkS l ++ mkS m = mkS (l ++ m) := by
  show (⟨l.toArray ++ m.toArray⟩ : Str) = ⟨(l ++ m).toArray⟩
  simp
section
open Evl
variable {K : PySem.W.Frag} {σ : L2.St} {H : Hp} {ta tb te : TE}
theorem ev_mulS {l : List Nat} {n : Nat} (ha : Ev ta σ H (vS l)) (hb : Ev tb σ H (.int (n : Int))) (hl : l.length ≤ 4000) (hn : n ≤ 4000) : Ev (tOp rMulS ta tb) σ H (vS (repL n l)) :=
  ev_op ha hb fun H1 e Q q => ⟨mkS l, (n : Int), rfl, rfl, by rw [mkS_len]; exact hl, by omega, by omega, by
    rw [mul_mk]
    exact q H1 (Ex.refl H1)⟩
theorem ev_take {l : List Nat} {k : Nat} {th : TO} (ha : Ev te σ H (vS l)) (hh : EvO th σ H (some (k : Int))) (hl : l.length ≤ 100000) : Ev (tSl rSlS te tNoPart th) σ H (vS (l.take k)) := fun H1 e Q q =>
  ha H1 e _ fun H2 e2 => hh H2 (e.trans e2) _ fun H3 e3 => ⟨mkS l, rfl, by rw [mkS_len]; exact sz_of hl, by
    rw [cut_take]
    exact q H3 (e2.trans e3)⟩
theorem ev_drop {l : List Nat} {k : Nat} {tl : TO} (ha : Ev te σ H (vS l)) (hh : EvO tl σ H (some (k : Int))) (hl : l.length ≤ 100000) : Ev (tSl rSlS te tl tNoPart) σ H (vS (l.drop k)) := fun H1 e Q q =>
  ha H1 e _ fun H2 e2 => hh H2 (e.trans e2) _ fun H3 e3 => ⟨mkS l, rfl, by rw [mkS_len]; exact sz_of hl, by
    rw [cut_drop]
    exact q H3 (e2.trans e3)⟩
theorem ev_addS {l m : List Nat} {r : R2} (hr : r = fun x y H Q => ∃ i j, x = V.str i ∧ y = V.str j ∧ i.length + j.length ≤ sizeLine ∧ Q (.str (i ++ j)) H) (ha : Ev ta σ H (vS l)) (hb : Ev tb σ H (vS m)) (hz : l.length + m.length ≤ 100000) : Ev (tOp r ta tb) σ H (vS (l ++ m)) :=
  ev_op ha hb fun H1 e Q q => by
    rw [hr]
    refine ⟨_, _, rfl, rfl, by rw [mkS_len, mkS_len]; exact sz_of hz, ?_⟩
    rw [app_mk]
    exact q H1 (Ex.refl H1)
theorem rc_lenQ {p : Addr} {xs : List V} (h : SqL K H p xs) : RC (rLenQ K) [.ref p] H (.int (xs.length : Int)) := fun H1 e Q q => ⟨p, xs, rfl, .inl (ex_l e h), q H1 (Ex.refl H1)⟩
/-- lists of ints compared -/
theorem dp_ints {H : Hp} {p : Addr} {xs : List Int} (h : H p = some (.lst (intV xs))) : Dp K H (.ref p) (.list (xs.map .int)) := .lst (sq_of h) (by
  unfold intV
  clear h
  induction xs with
  | nil => exact .nil
  | cons x r ih => exact .cons (.int x) ih)
theorem shp_ints (xs : List Int) : SeqAt.shaped (.list (xs.map .int)) = true := by
  have h1 : PyData.canLayAll0 (xs.map PyData.int) = true := by
    induction xs with
    | nil => rfl
    | cons x r ih =>
      show (true && PyData.canLayAll0 (r.map PyData.int)) = true
      rw [ih] <;> rfl
  have h2 : PyData.depthAll (xs.map PyData.int) = 0 := by
    induction xs with
    | nil => rfl
    | cons x r ih =>
      have h3 : PyData.canLayAll0 (r.map PyData.int) = true := (Bool.and_eq_true_iff.mp h1).2
      show max 0 (PyData.depthAll (r.map PyData.int)) = 0
      rw [ih h3] <;> rfl
  show (PyData.canLayAll0 (xs.map PyData.int) && decide (PyData.depthAll (xs.map PyData.int) + 1 ≤ 64)) = true
  rw [h1, h2] <;> rfl
theorem eqv_ints : ∀ xs ys : List Int, PyData.eqv (.list (xs.map .int)) (.list (ys.map .int)) = decide (xs = ys)
  | [], [] => rfl
  | [], y :: ys => by
    show false = decide ([] = y :: ys)
    simp
  | x :: xs, [] => by
    show false = decide (x :: xs = [])
    simp
  | x :: xs, y :: ys => by
    have ih : PyData.eqvAll (xs.map PyData.int) (ys.map PyData.int) = decide (xs = ys) := eqv_ints xs ys
    show ((x == y) && PyData.eqvAll (xs.map PyData.int) (ys.map PyData.int)) = decide (x :: xs = y :: ys)
    rw [ih]
    by_cases h1 : x = y <;> by_cases h2 : xs = ys <;> simp [h1, h2]
theorem rv_eqL {p q : Addr} {xs ys : List Int} (hp : H p = some (.lst (intV xs))) (hq : H q = some (.lst (intV ys))) : RV (rEqD K) (.ref p) (.ref q) H (.bl (decide (xs = ys))) := fun H1 e Q k =>
  ⟨_, _, dp_ints (e _ _ hp), dp_ints (e _ _ hq), shp_ints xs, shp_ints ys, by
    rw [eqv_ints]
    exact k H1 (Ex.refl H1)⟩
theorem rv_neL {p q : Addr} {xs ys : List Int} (hp : H p = some (.lst (intV xs))) (hq : H q = some (.lst (intV ys))) : RV (rNeD K) (.ref p) (.ref q) H (.bl (!decide (xs = ys))) := fun H1 e Q k =>
  ⟨_, _, dp_ints (e _ _ hp), dp_ints (e _ _ hq), shp_ints xs, shp_ints ys, by
    rw [eqv_ints]
    exact k H1 (Ex.refl H1)⟩
end
/-! ### the law's own numbers -/
def choM : Nat → List Int
  | 0 => [1]
  | n + 1 => 1 :: ((List.range ((choM n).length - 1)).map (fun s => (choM n).getD s 0 + (choM n).getD (s + 1) 0) ++ [1])
def abM (m : Nat) : List Nat := repL m [97, 98]
def alphaM (m : Nat) : List Nat := ((List.range 26).map (· + 97)).take m
def firstM (m : Nat) : List Nat := (abM m).take 1 ++ (abM m).drop 2
def fibS (p q : List Int) (n : Nat) : List Int := 1 :: (List.range n).map fun s => (if s < p.length then p.getD s 0 else 0) + q.getD s 0
def fibP : Nat → List Int × List Int
  | 0 => ([1], [1, 1])
  | n + 1 => ((fibP n).2, fibS (fibP n).1 (fibP n).2 (n + 2))
/-! the same, over one table of rows -/
def tabC (l : List Nat) : List (List Int) := allC l.length 0 l
theorem tab_at {l : List Nat} {b : Nat} (h : b ≤ l.length) : (tabC l).getD b [] = cR l b := by
  have e := allC_getD l b 0 (by omega)
  rw [Nat.zero_add] at e
  exact e
def nthT (T : List (List Int)) (l : List Nat) : Nat → Nat → Int → List Nat
  | 0, _, _ => []
  | k + 1, pl, left => match pickN (fun b => (T.getD b []).getD k 0) (rowS l pl) left with
    | (some cb, left') => cb.1 :: nthT T l k cb.2 left'
    | (none, left') => nthT T l k pl left'
theorem pickN_congr {f g : Nat → Int} : ∀ {kvs : List (Nat × Nat)} {left : Int}, (∀ cb ∈ kvs, f cb.2 = g cb.2) → pickN f kvs left = pickN g kvs left
  | [], _, _ => rfl
  | cb :: r, left, h => by
    have h1 := h cb List.mem_cons_self
    show (if left < f cb.2 then (some cb, left) else pickN f r (left - f cb.2)) = (if left < g cb.2 then (some cb, left) else pickN g r (left - g cb.2))
    rw [h1, pickN_congr fun x hx => h x (List.mem_cons_of_mem _ hx)]
theorem pickN_mem {f : Nat → Int} : ∀ {kvs : List (Nat × Nat)} {left left' : Int} {cb : Nat × Nat}, pickN f kvs left = (some cb, left') → cb ∈ kvs
  | [], _, _, _, h => by cases h
  | x :: r, left, left', cb, h => by
    have h2 : (if left < f x.2 then (some x, left) else pickN f r (left - f x.2)) = (some cb, left') := h
    by_cases hc : left < f x.2
    · rw [if_pos hc] at h2
      have e : x = cb := by
        injection h2 with h3 _
        injection h3
      rw [e]
      exact List.mem_cons_self
    · rw [if_neg hc] at h2
      exact List.mem_cons_of_mem _ (pickN_mem h2)
theorem nthM_T {l : List Nat} : ∀ (k pl : Nat) (left : Int), pl ≤ l.length → nthM l k pl left = nthT (tabC l) l k pl left
  | 0, _, _, _ => rfl
  | k + 1, pl, left, h => by
    have e : pickN (fun b => ((tabC l).getD b []).getD k 0) (rowS l pl) left = pickN (fun b => (cR l b).getD k 0) (rowS l pl) left := pickN_congr fun cb hcb => by
      show ((tabC l).getD cb.2 []).getD k 0 = (cR l cb.2).getD k 0
      rw [tab_at (rowS_bd h hcb)]
    show _ = (match pickN (fun b => ((tabC l).getD b []).getD k 0) (rowS l pl) left with
      | (some cb, left') => cb.1 :: nthT (tabC l) l k cb.2 left'
      | (none, left') => nthT (tabC l) l k pl left')
    rw [e]
    cases hp : pickN (fun b => (cR l b).getD k 0) (rowS l pl) left with
    | mk o left' =>
      cases o with
      | none =>
        rw [nthM_none hp]
        exact nthM_T k pl left' h
      | some cb =>
        rw [nthM_some hp]
        show _ = cb.1 :: nthT (tabC l) l k cb.2 left'
        rw [nthM_T k cb.2 left' (rowS_bd h (pickN_mem hp))]
def sumT (T : List (List Int)) (l : List Nat) (st c lack : Nat) : Int := (((rowF st (l.drop st)).filter fun e => decide (e.1 < c)).map fun e => (T.getD e.2 []).getD lack 0).sum
def numT (T : List (List Int)) (l : List Nat) : Nat → List Nat → List Nat → Int
  | st, k :: ks, c :: r => sumT T l st c r.length + numT T l (k + 1) ks r
  | _, _, _ => 0
theorem sumF_T {l : List Nat} {st c lack : Nat} (h : st ≤ l.length) : sumF l st c lack = sumT (tabC l) l st c lack := by
  unfold sumF sumL sumT
  congr 1
  apply List.map_congr_left
  intro e he
  have hm := (List.mem_filter.mp he).1
  have h2 := rowF_bd _ _ _ hm
  rw [List.length_drop] at h2
  show (cR l e.2).getD lack 0 = ((tabC l).getD e.2 []).getD lack 0
  rw [tab_at (by omega)]
theorem numM_T {l : List Nat} : ∀ (p : List Nat) (s st : Nat), st ≤ l.length → numM l st (reach l s p) p = numT (tabC l) l st (reach l s p) p
  | [], s, st, _ => by
    show numM l st [] [] = numT (tabC l) l st [] []
    rfl
  | c :: p, s, st, h => by
    cases hn : nxt l s c with
    | none =>
      rw [reach_no hn]
      rfl
    | some k =>
      rw [reach_go hn]
      show sumF l st c p.length + numM l (k + 1) (reach l (k + 1) p) p = sumT (tabC l) l st c p.length + numT (tabC l) l (k + 1) (reach l (k + 1) p) p
      have hk := (nxt_lt hn).2.1
      rw [sumF_T h, numM_T p (k + 1) (k + 1) (by omega)]
theorem all_facts {Q : Nat → Prop} [DecidablePred Q] (h : decide (∀ i : _root_.Fin 26, Q (i.val + 1)) = true) {m : Nat} (h1 : 1 ≤ m) (h2 : m ≤ 26) : Q m := by
  have h3 := of_decide_eq_true h ⟨m - 1, by omega⟩
  have e : m - 1 + 1 = m := by omega
  rw [← e]
  exact h3
section
set_option maxHeartbeats 0
theorem fact1 {m : Nat} (h1 : 1 ≤ m) (h2 : m ≤ 26) : cR (alphaM m) 0 = choM m := all_facts (Q := fun m => cR (alphaM m) 0 = choM m) (by decide +kernel) h1 h2
theorem fact2 {m : Nat} (h1 : 1 ≤ m) (h2 : m ≤ 26) : cR (repL m [113]) 0 = List.replicate (m + 1) 1 := all_facts (Q := fun m => cR (repL m [113]) 0 = List.replicate (m + 1) 1) (by decide +kernel) h1 h2
theorem fact3 {m : Nat} (h1 : 1 ≤ m) (h2 : m ≤ 26) : cR (abM m) 0 = (fibP (2 * m - 1)).2 := all_facts (Q := fun m => cR (abM m) 0 = (fibP (2 * m - 1)).2) (by decide +kernel) h1 h2
theorem fact4 {m : Nat} (h1 : 1 ≤ m) (h2 : m ≤ 26) : nthT (tabC (abM m)) (abM m) m 0 0 = repL m [97] := all_facts (Q := fun m => nthT (tabC (abM m)) (abM m) m 0 0 = repL m [97]) (by decide +kernel) h1 h2
theorem fact5 {m : Nat} (h1 : 1 ≤ m) (h2 : m ≤ 26) : 0 < (cR (abM m) 0).getD m 0 := all_facts (Q := fun m => 0 < (cR (abM m) 0).getD m 0) (by decide +kernel) h1 h2
theorem fact6 {m : Nat} (h1 : 1 ≤ m) (h2 : m ≤ 26) : nthT (tabC (abM m)) (abM m) (2 * m - 1) 0 0 = firstM m := all_facts (Q := fun m => nthT (tabC (abM m)) (abM m) (2 * m - 1) 0 0 = firstM m) (by decide +kernel) h1 h2
theorem fact7 {m : Nat} (h1 : 1 ≤ m) (h2 : m ≤ 26) : 0 < (cR (abM m) 0).getD (2 * m - 1) 0 := all_facts (Q := fun m => 0 < (cR (abM m) 0).getD (2 * m - 1) 0) (by decide +kernel) h1 h2
theorem fact8 {m : Nat} (h1 : 1 ≤ m) (h2 : m ≤ 26) : holdsB (abM m) (repL m [98]) = true := all_facts (Q := fun m => holdsB (abM m) (repL m [98]) = true) (by decide +kernel) h1 h2
theorem fact9 {m : Nat} (h1 : 1 ≤ m) (h2 : m ≤ 26) : numT (tabC (abM m)) (abM m) 0 (reach (abM m) 0 (repL m [98])) (repL m [98]) = (cR (abM m) 0).getD m 0 - 1 := all_facts (Q := fun m => numT (tabC (abM m)) (abM m) 0 (reach (abM m) 0 (repL m [98])) (repL m [98]) = (cR (abM m) 0).getD m 0 - 1) (by decide +kernel) h1 h2
end
structure Facts (m : Nat) : Prop where
  a1 : cR (alphaM m) 0 = choM m
  a2 : cR (repL m [113]) 0 = List.replicate (m + 1) 1
  a3 : cR (abM m) 0 = (fibP (2 * m - 1)).2
  a4 : nthM (abM m) m 0 0 = repL m [97]
  a4p : 0 < (cR (abM m) 0).getD m 0
  a5 : nthM (abM m) (2 * m - 1) 0 0 = firstM m
  a5p : 0 < (cR (abM m) 0).getD (2 * m - 1) 0
  a6 : holdsB (abM m) (repL m [98]) = true
  a6n : numM (abM m) 0 (reach (abM m) 0 (repL m [98])) (repL m [98]) = (cR (abM m) 0).getD m 0 - 1
  t1 : txtB (alphaM m) = true
  t2 : txtB (repL m [113]) = true
  t3 : txtB (abM m) = true
  t4 : txtB (repL m [98]) = true
theorem facts_of {m : Nat} (h1 : 1 ≤ m) (h2 : m ≤ 26) : Facts m where
  a1 := fact1 h1 h2
  a2 := fact2 h1 h2
  a3 := fact3 h1 h2
  a4 := (nthM_T _ _ _ (Nat.zero_le _)).trans (fact4 h1 h2)
  a4p := fact5 h1 h2
  a5 := (nthM_T _ _ _ (Nat.zero_le _)).trans (fact6 h1 h2)
  a5p := fact7 h1 h2
  a6 := fact8 h1 h2
  a6n := (numM_T _ _ _ (Nat.zero_le _)).trans (fact9 h1 h2)
  t1 := all_facts (Q := fun m => txtB (alphaM m) = true) (by decide +kernel) h1 h2
  t2 := all_facts (Q := fun m => txtB (repL m [113]) = true) (by decide +kernel) h1 h2
  t3 := all_facts (Q := fun m => txtB (abM m) = true) (by decide +kernel) h1 h2
  t4 := all_facts (Q := fun m => txtB (repL m [98]) = true) (by decide +kernel) h1 h2
theorem atI_neg {α : Type} {xs : List α} {k : Nat} {v : α} (h0 : 1 ≤ k) (h1 : k ≤ xs.length) (h : xs[xs.length - k]? = some v) : atI xs (-(k : Int)) = some v := by
  unfold atI ixN
  rw [if_neg (by omega), if_pos (by omega)]
  have e : (-(k : Int) + (xs.length : Int)).toNat = xs.length - k := by omega
  rw [e]
  exact h
section
open Evl
variable {P : Program} {w : World} {K : PySem.W.Frag} {mg : Str → Option Value} {base : Heap} {σ : L2.St} {H : Hp} {ta tb te : TE}
def spChoices : Sp := fun vs H Q _ => ∃ n : Nat, vs = [.int (n : Int)] ∧ n ≤ 1000 ∧ ∀ p H', H p = none → Ex H H' → H' p = some (.lst (intV (choM n))) → Q (.ref p) H'
def spLawFirst : Sp := fun vs H Q _ => ∃ m : Nat, vs = [.int (m : Int)] ∧ m ≤ 1000 ∧ ∀ H', Ex H H' → Q (vS (firstM m)) H'
theorem q_asg2 {tas : TA} {i j n : Nat} {v v2 : V} {D : Ends} {tz : TS} (hn : n = 2) (h : EvA tas σ H [v, v2]) (k : ∀ H1, Ex H H1 → tz D ((σ.set i (some v)).set j (some v2)) H1) : tSeq (tAsg (tTup tas) (gTup K n (gCons (gName i) (gCons (gName j) gNil)))) tz D σ H :=
  h H (Ex.refl H) _ fun H1 e1 => ⟨by show 2 ≤ sizeLine; decide, fun t ht => ⟨t, _, rfl, st_of upd_same, hn.symm, _, _, rfl, _, _, rfl, rfl, k _ (e1.trans (Ex.new ht))⟩⟩
theorem choM_len : ∀ n, (choM n).length = n + 1
  | 0 => rfl
  | n + 1 => by
    have ih := choM_len n
    show (1 :: ((List.range ((choM n).length - 1)).map (fun s => (choM n).getD s 0 + (choM n).getD (s + 1) 0) ++ [1])).length = n + 1 + 1
    rw [List.length_cons, List.length_append, List.length_map, List.length_range, ih]
    show n + 1 - 1 + 1 + 1 = n + 1 + 1
    omega
theorem ab_str : (mkS [97, 98]) = ("ab" : Str) := by decide +kernel
theorem ev_ab {s : Str} {l : List Nat} (h : mkS l = s) : Ev (tC (.str s)) σ H (vS l) := by
  rw [← h]
  exact ev_c
abbrev nm__law_choices : List Str := ["many", "row", "turn", "at"]
theorem sc__law_choices : FnScope nm__law_choices ["many"] (defScope s__law_choices) := ⟨rfl, rfl, rfl, by decide +kernel, rfl, by decide +kernel, by decide +kernel⟩
theorem b__law_choices {K : PySem.W.Frag} {mg : Str → Option Value} (T : Txt K mg) : Binds K T.d__law_choices ["many"] [] := T.F__law_choices.bindsN fun _ _ _ _ _ _ us hl => match us, hl with | [_], _ => rfl
theorem ok__law_choices (T : Txt K mg) : FnOk P w K mg base CX0 1 T.a__law_choices T.d__law_choices ["many"] spChoices := by
  refine T.F__law_choices.ok sc__law_choices (fun vs H Q E h => ?_) (fun cdv A outer s H vs Q E hr h => ⟨_, PSs.nox (pss_cons (ps_set (i := 1) sc__law_choices.nd rfl (by first | exact Or.inl rfl | exact Or.inr rfl) (pe_lst (pa_cons pe_int pa_nil)))
      (pss_cons (ps_for PassesOwn.never rfl (pi_range1 (by rfl) T.n_range (pa_cons (pv 0) pa_nil)) (pg_name (i := 2) sc__law_choices.nd rfl (by first | exact Or.inl rfl | exact Or.inr rfl))
      (pss_one (ps_set (i := 1) sc__law_choices.nd rfl (by first | exact Or.inl rfl | exact Or.inr rfl) (pe_op op_cat (pe_op op_cat (pe_lst (pa_cons pe_int pa_nil)) (pe_lc (own := [("at", 3)]) (g := (gName 3)) (tt := tYes)  rfl sc__law_choices.nd (pi_range1 (by rfl) T.n_range (pa_cons (pe_op op_sub (pe_callB (callk (K0 := K) rLenQ call_len_q rfl) (by rfl) T.n_len (by decide +kernel) (pa_cons (pv 1) pa_nil)) pe_int) pa_nil)) (blkOk_by (own := [("at", 3)]) (N := nm__law_choices) (sc := defScope s__law_choices) (by decide +kernel)) (fun _ _ _ _ _ => (pg_name (i := 3) sc__law_choices.nd rfl (by first | exact Or.inl rfl | exact Or.inr rfl))) (fun _ _ _ _ _ => pts_nil) (fun _ _ _ _ _ => (pe_op op_add (pe_ix (ixk (K0 := K) rIxL ix_list rfl) (pv 1) (pv 3) (fun _ _ => rfl)) (pe_ix (ixk (K0 := K) rIxL ix_list rfl) (pv 1) (pe_op op_add (pv 3) pe_int) (fun _ _ => rfl)))))) (pe_lst (pa_cons pe_int pa_nil))))))
      (pss_one (ps_ret (pv 1))))), ?_⟩)
  · obtain ⟨n, rfl, _⟩ := h
    rfl
  · obtain ⟨n, rfl, hn, k⟩ := h
    refine q_asgL (xs := intV (choM 0)) (el_lst (ea_cons (ev_c (v := V.int 1)) ea_nil) (by decide)) fun p0 H1 hp0 e1 h1 => ?_
    refine q_forN (et_rng1 (n := (n : Int)) (ea_cons (ev_var rfl) ea_nil) (by omega)) (fun i σ H' => ∃ (p : Addr) (x : Option V), σ = [some (.int (n : Int)), some (.ref p), x, none] ∧ H p = none ∧ Ex H H' ∧ H' p = some (.lst (intV (choM i))))
      (fun H2 e2 => ⟨p0, none, rfl, hp0, e1.trans e2, e2 _ _ h1⟩) ?_ ?_
    · rintro i σ H' hi ⟨p, x, rfl, hp, ex, hl⟩
      have hin : i < n := by omega
      have hlen := choM_len i
      have em : ∀ s : Nat, ((s : Int) + 1) = ((s + 1 : Nat) : Int) := fun s => by omega
      have gl := el_lcY (σ := [some (.int (n : Int)), some (.ref p), some (.int ((i : Nat) : Int)), none]) (H := H') (j := 3) (vs := [3]) (te := tOp (rI0 fun i j => .int (i + j)) (tOp (rIxL K) (tVar 1) (tVar 3)) (tOp (rIxL K) (tVar 1) (tOp (rI0 fun i j => .int (i + j)) (tVar 3) (tC (.int 1)))))
        (fun s => .int ((choM i).getD s 0 + (choM i).getD (s + 1) 0)) (ew_rng1 (n := ((i : Nat) : Int)) (ea_cons (ev_is (ev_op (ev_cb (ea_cons (ev_var (i := 1) rfl) ea_nil) (rc_lenQ (K := K) (sq_of hl))) (ev_c (v := V.int 1)) (rv_I0 (g := fun i j => .int (i - j)))) (by
          rw [intV_len, hlen]
          show V.int _ = V.int _
          congr 1
          omega)) ea_nil) (by omega)) (by omega) (fun x => rfl)
        (fun s H8 e8 hs => by
          have hs2 : s < i := by omega
          refine ev_op (ev_op (ev_var rfl) (ev_var rfl) (rv_ixL (v := .int ((choM i).getD s 0)) (sq_of (e8 _ _ hl)) (intV_at (by omega)))) (ev_op (ev_var rfl) (ev_op (ev_var rfl) (ev_c (v := V.int 1)) (rv_I0 (g := fun i j => .int (i + j)) (i := (s : Int)) (j := 1))) (rv_ixL (v := .int ((choM i).getD (s + 1) 0)) (i := (s : Int) + 1) (sq_of (e8 _ _ hl)) ?_)) (rv_I0 (g := fun i j => .int (i + j)))
          rw [em]
          exact intV_at (by omega))
      have gc := el_cat (el_cat (el_lst (σ := [some (.int (n : Int)), some (.ref p), some (.int ((i : Nat) : Int)), none]) (H := H') (ea_cons (ev_c (v := V.int 1)) ea_nil) (by decide)) gl (by
        rw [List.length_map, List.length_range]
        show 1 + _ ≤ _
        omega)) (el_lst (ea_cons (ev_c (v := V.int 1)) ea_nil) (by decide)) (by
        rw [List.length_append, List.length_map, List.length_range]
        show 1 + _ + 1 ≤ _
        omega)
      have er : [V.int 1] ++ (List.range ((i : Nat) : Int).toNat).map (fun s => V.int ((choM i).getD s 0 + (choM i).getD (s + 1) 0)) ++ [V.int 1] = intV (choM (i + 1)) := by
        have e3 : choM (i + 1) = 1 :: ((List.range ((choM i).length - 1)).map (fun s => (choM i).getD s 0 + (choM i).getD (s + 1) 0) ++ [1]) := rfl
        rw [e3, hlen, Int.toNat_natCast, Nat.add_sub_cancel]
        unfold intV
        rw [List.map_cons, List.map_append, List.map_map]
        rfl
      rw [er] at gc
      exact s_asgL gc fun p2 H2 hp2 e2 h2 => ⟨p2, _, rfl, fresh_back ex hp2, ex.trans e2, h2⟩
    · rintro σ H' ⟨p, x, rfl, hp, ex, hl⟩
      rw [Int.toNat_natCast] at hl
      exact ⟨_, rfl, k p H' hp ex hl⟩
abbrev nm__law_first : List Str := ["many"]
theorem sc__law_first : FnScope nm__law_first ["many"] (defScope s__law_first) := ⟨rfl, rfl, rfl, by decide +kernel, rfl, by decide +kernel, by decide +kernel⟩
theorem b__law_first {K : PySem.W.Frag} {mg : Str → Option Value} (T : Txt K mg) : Binds K T.d__law_first ["many"] [] := T.F__law_first.bindsN fun _ _ _ _ _ _ us hl => match us, hl with | [_], _ => rfl
theorem ok__law_first (T : Txt K mg) : FnOk P w K mg base CX0 1 T.a__law_first T.d__law_first ["many"] spLawFirst := by
  refine T.F__law_first.ok sc__law_first (fun vs H Q E h => ?_) (fun cdv A outer s H vs Q E hr h => ⟨_, PSs.nox (pss_one (ps_ret (pe_op op_add_str (pe_slice sl_str (pe_op op_mul_str pe_str (pv 0)) po_none (po_some pe_int)) (pe_slice sl_str (pe_op op_mul_str pe_str (pv 0)) (po_some pe_int) po_none)))), ?_⟩)
  · obtain ⟨n, rfl, _⟩ := h
    rfl
  · obtain ⟨m, rfl, hm, k⟩ := h
    have hab : (abM m).length ≤ 100000 := by
      unfold abM
      rw [repL_len]
      show m * 2 ≤ _
      omega
    exact s_ret (ev_addS rfl (ev_take (k := 1) (ev_mulS (ev_ab ab_str) (ev_var rfl) (by decide) (by omega)) (eo_some ev_c) hab) (ev_drop (k := 2) (ev_mulS (ev_ab ab_str) (ev_var rfl) (by decide) (by omega)) (eo_some ev_c) hab) (by
      rw [List.length_take, List.length_drop]
      unfold abM at hab
      rw [repL_len] at hab ⊢
      have e2 : ([97, 98] : List Nat).length = 2 := rfl
      rw [e2] at hab ⊢
      omega)) fun H1 e1 => k H1 e1
end
section
open Evl
variable {P : Program} {w : World} {K : PySem.W.Frag} {mg : Str → Option Value} {base : Heap} {σ : L2.St} {H : Hp} {ta tb te : TE}
theorem spl_counts {l : List Nat} (hl : l.length ≤ 30000) (tl : txtB l = true) : SpL spCounts [vS l] H (intV (cR l 0)) := fun H1 e Q q E => ⟨l, rfl, hl, tl, q⟩
theorem q_str : (mkS [113]) = ("q" : Str) := by decide +kernel
theorem a_str : (mkS [97]) = ("a" : Str) := by decide +kernel
theorem b_str : (mkS [98]) = ("b" : Str) := by decide +kernel
theorem abc_str : (mkS [97, 98, 99]) = ("abc" : Str) := by decide +kernel
theorem alpha_str : (mkS ((List.range 26).map (· + 97))) = ("abcdefghijklmnopqrstuvwxyz" : Str) := by decide +kernel
theorem strs_eq (l m : List Nat) : decide (vS l = vS m) = decide (l = m) := by
  apply decide_eq_decide.mpr
  constructor
  · intro h
    injection h with h1
    exact mkS_inj h1
  · intro h
    rw [h]
def spLaw (K : PySem.W.Frag) : Sp := fun vs H Q _ => ∃ (a : Addr) (ns : List Int), vs = [.ref a] ∧ SqL K H a (ns.map V.int) ∧ ns.length ≤ 63 ∧ (∀ z ∈ ns, Builtin.Int.intBits z ≤ 1048576) ∧ ∀ H', Q (.bl true) H'
theorem intV_fib0 : intV (fibP 0).1 = [V.int 1] := rfl
theorem fibS_len (p q : List Int) (n : Nat) : (fibS p q n).length = n + 1 := by
  unfold fibS
  rw [List.length_cons, List.length_map, List.length_range]
theorem fibP_len : ∀ n, (fibP n).1.length = n + 1 ∧ (fibP n).2.length = n + 2
  | 0 => ⟨rfl, rfl⟩
  | n + 1 => ⟨(fibP_len n).2, fibS_len _ _ _⟩
abbrev nm_law : List Str := ["script", "start", "tape", "many", "text", "rows", "pair", "turn", "one", "two", "size"]
theorem sc_law : FnScope nm_law ["script"] (defScope s_law) := ⟨rfl, rfl, rfl, by decide +kernel, rfl, by decide +kernel, by decide +kernel⟩
theorem b_law {K : PySem.W.Frag} {mg : Str → Option Value} (T : Txt K mg) : Binds K T.d_law ["script"] [] := T.F_law.bindsN fun _ _ _ _ _ _ us hl => match us, hl with | [_], _ => rfl
theorem ok_law (T : Txt K mg) : FnOk P w K mg base CX0 6 T.a_law T.d_law ["script"] (spLaw K) := by
  refine T.F_law.ok sc_law (fun vs H Q E h => ?_) (fun cdv A outer s H vs Q E hr h => ⟨_, PSs.nox (pss_cons (ps_for PassesOwn.never rfl (pi_range1 (by rfl) T.n_range (pa_cons (pe_callB (call_max_q rfl) (by rfl) T.n_max (by decide +kernel) (pa_cons pe_int (pa_cons (pe_callB (call_min_q rfl) (by rfl) T.n_min (by decide +kernel) (pa_cons pe_int (pa_cons (pe_callB (callk (K0 := K) rLenQ call_len_q rfl) (by rfl) T.n_len (by decide +kernel) (pa_cons (pv 0) pa_nil)) pa_nil))) pa_nil))) pa_nil)) (pg_name (i := 1) sc_law.nd rfl (by first | exact Or.inl rfl | exact Or.inr rfl))
      (pss_cons (ps_set (i := 2) sc_law.nd rfl (by first | exact Or.inl rfl | exact Or.inr rfl) (pe_call (ok__law_tape T) (hr.mono (by decide)) (by rfl) T.g__law_tape T.F__law_tape.kp (b__law_tape T) .nil pass0 (pa_cons (pv 0) (pa_cons (pv 1) pa_nil))))
      (pss_cons (ps_set (i := 3) sc_law.nd rfl (by first | exact Or.inl rfl | exact Or.inr rfl) (pe_op op_add pe_int (pe_call (ok__law_pick T) (hr.mono (by decide)) (by rfl) T.g__law_pick T.F__law_pick.kp (b__law_pick T) .nil pass0 (pa_cons (pv 2) (pa_cons pe_int pa_nil)))))
      (pss_cons (ps_set (i := 4) sc_law.nd rfl (by first | exact Or.inl rfl | exact Or.inr rfl) (pe_slice sl_str pe_str po_none (po_some (pv 3))))
      (pss_cons (ps_if (PW.pt (pw_or (pt_cmpR (opk (K0 := K) rNeD (op_neD hr.units) rfl) (pe_call (ok_counts T) (hr.mono (by decide)) (by rfl) T.g_counts T.F_counts.kp (b_counts T) .nil pass0 (pa_cons (pv 4) pa_nil)) (pe_call (ok__law_choices T) (hr.mono (by decide)) (by rfl) T.g__law_choices T.F__law_choices.kp (b__law_choices T) .nil pass0 (pa_cons (pv 3) pa_nil)) (nomark _)) (pw_or1 (pt_cmpR (opk (K0 := K) rNeD (op_neD hr.units) rfl) (pe_call (ok_counts T) (hr.mono (by decide)) (by rfl) T.g_counts T.F_counts.kp (b_counts T) .nil pass0 (pa_cons (pe_op op_mul_str pe_str (pv 3)) pa_nil)) (pe_op op_rep (pe_lst (pa_cons pe_int pa_nil)) (pe_op op_add (pv 3) pe_int)) (nomark _))))) (pss_one (ps_ret pe_bl)) pss_nil)
      (pss_cons (ps_par (i := 5) (j := 6) (by rfl) sc_law.nd rfl rfl (by decide) rfl rfl (pa_cons (pe_lst (pa_cons (pe_lst (pa_cons pe_int pa_nil)) (pa_cons (pe_lst (pa_cons pe_int (pa_cons pe_int pa_nil))) pa_nil))) (pa_cons pe_str pa_nil)) (by rfl))
      (pss_cons (ps_for PassesOwn.never rfl (pi_range2 (by rfl) T.n_range (pa_cons pe_int (pa_cons (pe_op op_add (pe_op op_mulX pe_int (pv 3)) pe_int) pa_nil))) (pg_name (i := 7) sc_law.nd rfl (by first | exact Or.inl rfl | exact Or.inr rfl))
      (pss_cons (ps_asg (pe_tup (pa_cons (pe_ix (ixk (K0 := K) rIxL ix_list rfl) (pv 5) (pe_un un_neg pe_int) (fun _ _ => rfl)) (pa_cons (pe_ix (ixk (K0 := K) rIxL ix_list rfl) (pv 5) (pe_un un_neg pe_int) (fun _ _ => rfl)) pa_nil))) (pg_tup (by rfl) (pgs_cons (pg_name (i := 8) sc_law.nd rfl (by first | exact Or.inl rfl | exact Or.inr rfl)) (pgs_cons (pg_name (i := 9) sc_law.nd rfl (by first | exact Or.inl rfl | exact Or.inr rfl)) pgs_nil))))
      (pss_one (ps_expr (tbmk (K0 := K) (pe_bm PySem.F.plainAttrs_list PySem.F.slot_list_append PySem.F.type_list_append mt_append (pv 5) (pa_cons (pe_op op_cat (pe_lst (pa_cons pe_int pa_nil)) (pe_lc (own := [("size", 10)]) (g := (gName 10)) (tt := tYes)  rfl sc_law.nd (pi_range2 (by rfl) T.n_range (pa_cons pe_int (pa_cons (pe_op op_add (pv 7) pe_int) pa_nil))) (blkOk_by (own := [("size", 10)]) (N := nm_law) (sc := defScope s_law) (by decide +kernel)) (fun _ _ _ _ _ => (pg_name (i := 10) sc_law.nd rfl (by first | exact Or.inl rfl | exact Or.inr rfl))) (fun _ _ _ _ _ => pts_nil) (fun _ _ _ _ _ => (pe_op op_add (pe_ifExp (pt_cmpR op_le (pv 10) (pe_callB (callk (K0 := K) rLenQ call_len_q rfl) (by rfl) T.n_len (by decide +kernel) (pa_cons (pv 8) pa_nil)) (nomark _)) (pe_ix (ixk (K0 := K) rIxL ix_list rfl) (pv 8) (pe_op op_sub (pv 10) pe_int) (fun _ _ => rfl)) pe_int) (pe_ix (ixk (K0 := K) rIxL ix_list rfl) (pv 9) (pe_op op_sub (pv 10) pe_int) (fun _ _ => rfl)))))) pa_nil)) rfl)))))
      (pss_cons (ps_if (PW.pt (pw_or (pt_cmpR (opk (K0 := K) rNeD (op_neD hr.units) rfl) (pe_call (ok_counts T) (hr.mono (by decide)) (by rfl) T.g_counts T.F_counts.kp (b_counts T) .nil pass0 (pa_cons (pe_op op_mul_str pe_str (pv 3)) pa_nil)) (pe_ix (ixk (K0 := K) rIxL ix_list rfl) (pv 5) (pe_un un_neg pe_int) (fun _ _ => rfl)) (nomark _)) (pw_or (pt_cmpR op_ne (pe_call (ok_nth_piece T) (hr.mono (by decide)) (by rfl) T.g_nth_piece T.F_nth_piece.kp (b_nth_piece T) .nil pass0 (pa_cons (pe_op op_mul_str pe_str (pv 3)) (pa_cons (pv 3) (pa_cons pe_int pa_nil)))) (pe_op op_mul_str pe_str (pv 3)) (nomark _)) (pw_or1 (pt_cmpR op_ne (pe_call (ok_nth_piece T) (hr.mono (by decide)) (by rfl) T.g_nth_piece T.F_nth_piece.kp (b_nth_piece T) .nil pass0 (pa_cons (pe_op op_mul_str pe_str (pv 3)) (pa_cons (pe_op op_sub (pe_op op_mulX pe_int (pv 3)) pe_int) (pa_cons pe_int pa_nil)))) (pe_call (ok__law_first T) (hr.mono (by decide)) (by rfl) T.g__law_first T.F__law_first.kp (b__law_first T) .nil pass0 (pa_cons (pv 3) pa_nil)) (nomark _)))))) (pss_one (ps_ret pe_bl)) pss_nil)
      (pss_one (ps_if (pt_cmpR op_ne (pe_call (ok_number_of T) (hr.mono (by decide)) (by rfl) T.g_number_of T.F_number_of.kp (b_number_of T) .nil pass0 (pa_cons (pe_op op_mul_str pe_str (pv 3)) (pa_cons (pe_op op_mul_str pe_str (pv 3)) pa_nil))) (pe_op op_sub (pe_ix (ixk (K0 := K) rIxL ix_list rfl) (pe_call (ok_counts T) (hr.mono (by decide)) (by rfl) T.g_counts T.F_counts.kp (b_counts T) .nil pass0 (pa_cons (pe_op op_mul_str pe_str (pv 3)) pa_nil)) (pv 3) (fun _ _ => rfl)) pe_int) (nomark _)) (pss_one (ps_ret pe_bl)) pss_nil))))))))))
      (pss_one (ps_ret (pe_cmpR (opk (K0 := K) rEqD (op_eqD hr.units) rfl) (pe_call (ok_counts T) (hr.mono (by decide)) (by rfl) T.g_counts T.F_counts.kp (b_counts T) .nil pass0 (pa_cons (pe_op op_mul_str pe_str pe_int) pa_nil)) (pe_lst (pa_cons pe_int (pa_cons pe_int (pa_cons pe_int (pa_cons pe_int (pa_cons pe_int (pa_cons pe_int (pa_cons pe_int pa_nil)))))))) (nomark _))))), ?_⟩)
  · obtain ⟨a, ns, rfl, _⟩ := h
    rfl
  · obtain ⟨a, ns, rfl, hS, hlen, hbits, k⟩ := h
    have hn := hlen
    refine q_forN (n := (if (1 : Int) < (if (ns.length : Int) < 3 then (ns.length : Int) else 3) then (if (ns.length : Int) < 3 then (ns.length : Int) else 3) else 1).toNat) (et_rng1 (ea_cons (ev_cb (r := rMaxQ) (vs := [.int 1, .int (if (ns.length : Int) < 3 then (ns.length : Int) else 3)]) (ea_cons ev_c (ea_cons (ev_cb (r := rMinQ) (vs := [.int 3, .int (ns.length : Int)]) (ea_cons ev_c (ea_cons (ev_is (ev_cb (ea_cons (ev_var (i := 0) rfl) ea_nil) (rc_lenQ (K := K) hS)) (by rw [List.length_map])) ea_nil)) (fun H1 e Q1 q => ⟨_, _, rfl, q H1 (Ex.refl H1)⟩)) ea_nil)) (fun H1 e Q1 q => ⟨_, _, rfl, q H1 (Ex.refl H1)⟩)) ea_nil) (by
        split <;> split <;> omega))
      (fun i σ H' => ∃ (x1 x2 x3 x4 x5 x6 x7 x8 x9 : Option V), σ = [some (.ref a), x1, x2, x3, x4, x5, x6, x7, x8, x9, none] ∧ Ex H H')
      (fun H1 e1 => ⟨_, _, _, _, _, _, _, _, _, rfl, e1⟩) ?_ ?_
    · rintro i σ H' hi ⟨x1, x2, x3, x4, x5, x6, x7, x8, x9, rfl, ex⟩
      have hi3 : i < 3 := by
        have h9 : (if (1 : Int) < (if (ns.length : Int) < 3 then (ns.length : Int) else 3) then (if (ns.length : Int) < 3 then (ns.length : Int) else 3) else 1).toNat ≤ 3 := by
          split <;> split <;> omega
        omega
      -- tape
      refine ⟨_, rfl, _, rfl, a, ns, (i : Int), rfl, ex_l ex hS, hlen, hbits, by omega, by omega, fun tp d m htp htok => ?_⟩
      -- many
      refine ⟨_, rfl, tp, d, m, 26, rfl, upd_same, htok, by decide, by decide, fun r d' m' hr0 hr1 htok' => ?_⟩
      obtain ⟨mm, rfl⟩ := Int.eq_ofNat_of_zero_le hr0
      have hm26 : mm + 1 ≤ 26 := by omega
      have F := facts_of (m := mm + 1) (by omega) hm26
      have emm : (1 : Int) + (mm : Int) = ((mm + 1 : Nat) : Int) := by omega
      refine ⟨_, _, rfl, rfl, ?_⟩
      simp only [emm]
      generalize hM : mm + 1 = M at *
      rw [upd_upd]
      have ex1 : Ex H (upd H' tp (tapeO d' m')) := Ex.mut ex (fresh_back ex htp)
      generalize upd H' tp (tapeO d' m') = Ht at *
      have hM1 : 1 ≤ M := by omega
      have eab : (abM M).length = 2 * M := by
        unfold abM
        rw [repL_len]
        show M * 2 = 2 * M
        omega
      show tSeq _ _ _ _ _
      -- text
      refine q_asg (v := vS (alphaM M)) (ev_take (ev_ab alpha_str) (eo_some (ev_var rfl)) (by decide)) fun H1 e1 => ?_
      have la : (alphaM M).length ≤ 30000 := by
        unfold alphaM
        rw [List.length_take]
        omega
      have l1 : ∀ c, (repL M [c]).length = M := fun c => by
        rw [repL_len]
        show M * 1 = M
        omega
      have c1 : ((M : Int) + 1).toNat = M + 1 := by omega
      -- if counts(text) != choices or counts('q' * many) != [1] * (many + 1)
      refine q_when (b := false) (et_is (et_or (a := false) (et_is (et_test (ev_opLL (el_call (vs := [vS (alphaM M)]) (ea_cons (ev_var rfl) ea_nil) (spl_counts la F.t1)) (el_call (vs := [.int (M : Int)]) (xs := intV (choM M)) (ea_cons (ev_var rfl) ea_nil) (fun H1 e Q1 q E1 => ⟨M, rfl, by omega, q⟩)) fun p1 q1 H3 h3 h4 e3 => rv_neL h3 h4)) (by rw [F.a1, decide_eq_true rfl] <;> rfl))
        (fun _ => et_is (b := false) (et_test (ev_opLL (el_call (vs := [vS (repL M [113])]) (ea_cons (ev_mulS (ev_ab q_str) (ev_var rfl) (by decide) (by omega)) ea_nil) (spl_counts (by rw [l1]; omega) F.t2)) (xs := intV (cR (repL M [113]) 0)) (ys := intV (List.replicate (M + 1) 1)) (by
          have g := el_rep (σ := [some (V.ref a), some (V.int (i : Int)), some (V.ref tp), some (V.int (M : Int)), some (vS (alphaM M)), x5, x6, x7, x8, x9, none]) (H := H1) (n := (M : Int) + 1) (el_lst (ea_cons (ev_c (v := V.int 1)) ea_nil) (by decide)) (fun H2 e2 => ev_op (ev_var (i := 3) rfl) (ev_c (v := V.int 1)) (rv_I0 (g := fun i j => .int (i + j)))) (by omega) (by
            show ((1 : Nat) : Int) * _ ≤ _
            omega) (by omega)
          rw [c1, flat_rep] at g
          unfold intV
          rw [List.map_replicate]
          exact g) fun p1 q1 H3 h3 h4 e3 => rv_neL h3 h4)) (by rw [F.a2, decide_eq_true rfl] <;> rfl))) rfl) (fun z => by cases z) (fun _ H2 e2 => ?_)
      -- rows, pair
      refine ⟨by show 1 ≤ sizeLine; decide, fun r1 hr1 => ⟨by show 2 ≤ sizeLine; decide, fun r2 hr2 => ⟨by show 2 ≤ sizeLine; decide, fun rp hrp => ⟨_, _, rfl, ?_⟩⟩⟩⟩
      have n21 : r2 ≠ r1 := fun z => by
        rw [z, upd_same] at hr2
        cases hr2
      have np2 : rp ≠ r2 := fun z => by
        rw [z, upd_same] at hrp
        cases hrp
      have np1 : rp ≠ r1 := fun z => by
        rw [z, upd_ne n21.symm, upd_same] at hrp
        cases hrp
      have exR : Ex H2 (upd (upd H2 r1 (.lst [V.int 1])) r2 (.lst [V.int 1, V.int 1])) := (Ex.new hr1).trans (Ex.new hr2)
      have hrp2 : H2 rp = none := fresh_back exR hrp
      -- the loop of rows
      refine q_forN (n := 2 * M - 1) (by
          have g := et_rng2 (σ := [some (V.ref a), some (V.int (i : Int)), some (V.ref tp), some (V.int (M : Int)), some (vS (alphaM M)), some (V.ref rp), some (.str ""), x7, x8, x9, none]) (H := upd (upd (upd H2 r1 (.lst [V.int 1])) r2 (.lst [V.int 1, V.int 1])) rp (.lst [V.ref r1, V.ref r2])) (lo := 2) (hi := 2 * (M : Int) + 1) (ea_cons (ev_c (v := V.int 2)) (ea_cons (ev_op (ev_op (ev_c (v := V.int 2)) (ev_var (i := 3) rfl) (rv_I (C := CMulX) (g := fun i j => .int (i * j)) (i := 2) (j := (M : Int)) (mul_small (by decide) (by omega)))) (ev_c (v := V.int 1)) (rv_I0 (g := fun i j => .int (i + j)))) ea_nil)) (by omega)
          have en : (2 * (M : Int) + 1 - 2).toNat = 2 * M - 1 := by omega
          rw [en] at g
          exact g)
        (fun j σ H' => ∃ (q1 q2 : Addr) (xs : List V) (y7 y8 y9 : Option V), σ = [some (V.ref a), some (V.int (i : Int)), some (V.ref tp), some (V.int (M : Int)), some (vS (alphaM M)), some (V.ref rp), some (.str ""), y7, y8, y9, none] ∧ j ≤ 2 * M - 1 ∧
          xs.length = j + 2 ∧ xs[j]? = some (.ref q1) ∧ xs[j + 1]? = some (.ref q2) ∧ q1 ≠ rp ∧ q2 ≠ rp ∧ H' rp = some (.lst xs) ∧ H' q1 = some (.lst (intV (fibP j).1)) ∧ H' q2 = some (.lst (intV (fibP j).2)) ∧ Ex H2 H')
        (fun H3 e3 => ⟨r1, r2, [V.ref r1, V.ref r2], _, _, _, rfl, Nat.zero_le _, rfl, rfl, rfl, np1.symm, np2.symm, e3 _ _ upd_same, e3 _ _ (by
          rw [upd_ne np1.symm, upd_ne n21.symm, upd_same]
          rfl), e3 _ _ (by
          rw [upd_ne np2.symm, upd_same]
          rfl), (exR.trans (Ex.new hrp)).trans e3⟩) ?_ ?_
      · rintro j σ H3 hj ⟨q1, q2, xs, y7, y8, y9, rfl, hjm, hxl, hx1, hx2, nq1, nq2, hR, h1, h2, exL⟩
        have hEA := ea_cons (ev_op (ev_var (σ := [some (V.ref a), some (V.int (i : Int)), some (V.ref tp), some (V.int (M : Int)), some (vS (alphaM M)), some (V.ref rp), some (.str ""), some (V.int (2 + (j : Nat))), y8, y9, none]) (i := 5) rfl) (ev_un (ev_c (v := V.int 2)) ru_neg) (rv_ixL (K := K) (H := H3) (i := -2) (sq_of hR) (atI_neg (k := 2) (v := V.ref q1) (by omega) (by omega) (by
            rw [hxl]
            exact hx1)))) (ea_cons (ev_op (ev_var (i := 5) rfl) (ev_un (ev_c (v := V.int 1)) ru_neg) (rv_ixL (K := K) (i := -1) (sq_of hR) (atI_neg (k := 1) (v := V.ref q2) (by omega) (by omega) (by
            rw [hxl]
            exact hx2)))) ea_nil)
        refine q_asg2 (K := K) rfl hEA fun H5 ex4 => ?_
        have hf := fibP_len j
        have em : ∀ s : Nat, (1 + (s : Int)) - 1 = (s : Int) := fun s => by omega
        have gl := el_lcY (σ := [some (V.ref a), some (V.int (i : Int)), some (V.ref tp), some (V.int (M : Int)), some (vS (alphaM M)), some (V.ref rp), some (.str ""), some (V.int (2 + (j : Nat))), some (.ref q1), some (.ref q2), none]) (H := H5) (j := 10) (vs := [10])
          (te := tOp (rI0 fun i j => V.int (i + j)) (tIf (tTest (tOp (rI0 fun i j => V.bl (decide (i ≤ j))) (tVar 10) (tCB (rLenQ K) (tCons (tVar 8) tNil)))) (tOp (rIxL K) (tVar 8) (tOp (rI0 fun i j => V.int (i - j)) (tVar 10) (tC (V.int 1)))) (tC (V.int 0))) (tOp (rIxL K) (tVar 9) (tOp (rI0 fun i j => V.int (i - j)) (tVar 10) (tC (V.int 1)))))
          (fun s => .int ((if s < (fibP j).1.length then (fibP j).1.getD s 0 else 0) + (fibP j).2.getD s 0))
          (ew_rng2 (lo := 1) (hi := 2 + (j : Nat) + 1) (ea_cons (ev_c (v := V.int 1)) (ea_cons (ev_op (ev_var (i := 7) rfl) (ev_c (v := V.int 1)) (rv_I0 (g := fun i j => .int (i + j)) (i := 2 + (j : Nat)))) ea_nil)) (by omega)) (by omega) (fun x => rfl)
          (fun s H8 e8 hs => by
            have hs2 : s < j + 2 := by omega
            have hl1 : H8 q1 = some (.lst (intV (fibP j).1)) := e8 _ _ (ex4 _ _ h1)
            have hl2 : H8 q2 = some (.lst (intV (fibP j).2)) := e8 _ _ (ex4 _ _ h2)
            refine ev_op (x := .int (if s < (fibP j).1.length then (fibP j).1.getD s 0 else 0)) (ev_if (b := decide (s < (fibP j).1.length)) (et_is (et_test (ev_op (ev_var rfl) (ev_cb (ea_cons (ev_var (i := 8) rfl) ea_nil) (rc_lenQ (K := K) (sq_of hl1))) (rv_I0 (g := fun i j => .bl (decide (i ≤ j))) (i := 1 + (s : Int))))) (decide_eq_decide.mpr (by
              rw [intV_len]
              omega))) (fun hb => ?_) (fun hb => ?_)) (ev_op (ev_var rfl) (ev_op (ev_var rfl) (ev_c (v := V.int 1)) (rv_I0 (g := fun i j => .int (i - j)) (i := 1 + (s : Int)) (j := 1))) (rv_ixL (v := .int ((fibP j).2.getD s 0)) (i := 1 + (s : Int) - 1) (sq_of hl2) (by
              rw [em]
              exact intV_at (by omega)))) (rv_I0 (g := fun i j => .int (i + j)))
            · have hlt := of_decide_eq_true hb
              rw [if_pos hlt]
              refine ev_op (ev_var rfl) (ev_op (ev_var rfl) (ev_c (v := V.int 1)) (rv_I0 (g := fun i j => .int (i - j)) (i := 1 + (s : Int)) (j := 1))) (rv_ixL (v := .int ((fibP j).1.getD s 0)) (i := 1 + (s : Int) - 1) (sq_of hl1) ?_)
              rw [em]
              exact intV_at hlt
            · have hlt := of_decide_eq_false hb
              rw [if_neg hlt]
              exact ev_c)
        have gc := el_cat (el_lst (σ := [some (V.ref a), some (V.int (i : Int)), some (V.ref tp), some (V.int (M : Int)), some (vS (alphaM M)), some (V.ref rp), some (.str ""), some (V.int (2 + (j : Nat))), some (.ref q1), some (.ref q2), none]) (H := H5) (ea_cons (ev_c (v := V.int 1)) ea_nil) (by decide)) gl (by
          rw [List.length_map, List.length_range]
          show 1 + _ ≤ _
          omega)
        have er : [V.int 1] ++ (List.range (2 + ((j : Nat) : Int) + 1 - 1).toNat).map (fun s => V.int ((if s < (fibP j).1.length then (fibP j).1.getD s 0 else 0) + (fibP j).2.getD s 0)) = intV (fibP (j + 1)).2 := by
          have en : (2 + ((j : Nat) : Int) + 1 - 1).toNat = j + 2 := by omega
          have e3 : (fibP (j + 1)).2 = fibS (fibP j).1 (fibP j).2 (j + 2) := rfl
          rw [en, e3]
          unfold intV fibS
          rw [List.map_cons, List.map_map]
          rfl
        rw [er] at gc
        refine s_appL (ex4 _ _ hR) (ev_var rfl) gc (by omega) fun pn H6 hpn e6 h6 => ?_
        have npn : pn ≠ rp := fun z => by
          rw [z, ex4 _ _ hR] at hpn
          cases hpn
        refine ⟨q2, pn, xs ++ [.ref pn], _, _, _, rfl, by omega, by rw [List.length_append, hxl]; rfl, by rw [List.getElem?_append_left (by omega)]; exact hx2, by rw [List.getElem?_append_right (by omega), hxl, Nat.sub_self]; rfl, nq2, npn, upd_same, ?_, ?_, ?_⟩
        · rw [upd_ne nq2]
          exact e6 _ _ (ex4 _ _ h2)
        · rw [upd_ne npn]
          exact h6
        · exact Ex.mut ((exL.trans ex4).trans e6) hrp2
      · rintro σ H3 ⟨q1, q2, xs, y7, y8, y9, rfl, hjm, hxl, hx1, hx2, nq1, nq2, hR, h1, h2, exL⟩
        have hab : ∀ HH, Ev (tOp rMulS (tC (.str ("ab" : Str))) (tVar 3)) [some (V.ref a), some (V.int (i : Int)), some (V.ref tp), some (V.int (M : Int)), some (vS (alphaM M)), some (V.ref rp), some (.str ""), y7, y8, y9, none] HH (vS (abM M)) := fun HH => ev_mulS (ev_ab ab_str) (ev_var rfl) (by decide) (by omega)
        have hlast : atI xs (-((1 : Nat) : Int)) = some (V.ref q2) := atI_neg (by omega) (by omega) (by
          rw [hxl]
          exact hx2)
        refine q_when (b := false) (et_is (et_or (a := false) (et_is (et_test (ev_opL1 (xs := intV (cR (abM M) 0)) (y := .ref q2) (el_call (vs := [vS (abM M)]) (ea_cons (hab _) ea_nil) (spl_counts (by rw [eab]; omega) F.t3)) (fun HH eH => ev_op (ev_var rfl) (ev_un (ev_c (v := V.int 1)) ru_neg) (rv_ixL (K := K) (i := -1) (sq_of (eH _ _ hR)) hlast)) (fun p1 HH hp1 eH => rv_neL hp1 (eH _ _ h2)))) (by rw [F.a3, decide_eq_true rfl] <;> rfl))
          (fun _ => et_is (b := false) (et_or (a := false) (et_is (et_test (ev_op (ev_call (vs := [vS (abM M), .int (M : Int), .int 0]) (z := vS (nthM (abM M) M 0 0)) (ea_cons (hab _) (ea_cons (ev_var rfl) (ea_cons (ev_c (v := V.int 0)) ea_nil))) (fun HH eH Q1 q E1 => ⟨abM M, M, 0, rfl, by rw [eab]; omega, F.t3, by rw [eab]; omega, by decide, F.a4p, q⟩)) (ev_mulS (ev_ab a_str) (ev_var rfl) (by decide) (by omega)) (rv_ne rfl))) (by rw [strs_eq, F.a4, decide_eq_true rfl] <;> rfl))
            (fun _ => et_is (b := false) (et_test (ev_op (ev_call (vs := [vS (abM M), .int ((2 * M - 1 : Nat) : Int), .int 0]) (z := vS (nthM (abM M) (2 * M - 1) 0 0)) (ea_cons (hab _) (ea_cons (ev_is (ev_op (ev_op (ev_c (v := V.int 2)) (ev_var (i := 3) rfl) (rv_I (C := CMulX) (g := fun i j => .int (i * j)) (i := 2) (j := (M : Int)) (mul_small (by decide) (by omega)))) (ev_c (v := V.int 1)) (rv_I0 (g := fun i j => .int (i - j)))) (by
                have e9 : 2 * (M : Int) - 1 = ((2 * M - 1 : Nat) : Int) := by omega
                rw [← e9])) (ea_cons (ev_c (v := V.int 0)) ea_nil))) (fun HH eH Q1 q E1 => ⟨abM M, 2 * M - 1, 0, rfl, by rw [eab]; omega, F.t3, by rw [eab]; omega, by decide, F.a5p, q⟩)) (ev_call (vs := [.int (M : Int)]) (z := vS (firstM M)) (ea_cons (ev_var rfl) ea_nil) (fun HH eH Q1 q E1 => ⟨M, rfl, by omega, q⟩)) (rv_ne rfl))) (by rw [strs_eq, F.a5, decide_eq_true rfl] <;> rfl))) rfl)) rfl) (fun z => by cases z) (fun _ H4 e4 => ?_)
        have hab' := hab H4
        refine s_when (b := false) (et_is (et_test (ev_op (x := .int (numM (abM M) 0 (reach (abM M) 0 (repL M [98])) (repL M [98]))) (y := .int ((cR (abM M) 0).getD M 0 - 1)) (ev_call (vs := [vS (abM M), vS (repL M [98])]) (ea_cons hab' (ea_cons (ev_mulS (ev_ab b_str) (ev_var rfl) (by decide) (by omega)) ea_nil)) (fun HH eH Q1 q E1 => ⟨abM M, repL M [98], rfl, by rw [eab]; omega, by rw [l1]; omega, F.t3, F.t4, F.a6, q⟩))
          (ev_op (ev_opL1 (xs := intV (cR (abM M) 0)) (z := .int ((cR (abM M) 0).getD M 0)) (el_call (vs := [vS (abM M)]) (ea_cons (hab _) ea_nil) (spl_counts (by rw [eab]; omega) F.t3)) (fun HH eH => ev_var rfl) (fun p1 HH hp1 eH => rv_ixL (sq_of hp1) (intV_at (by rw [cR_len (Nat.zero_le _), eab]; omega)))) (ev_c (v := V.int 1)) (rv_I0 (g := fun i j => .int (i - j)))) (rv_ne rfl))) (by rw [F.a6n, decide_eq_true rfl] <;> rfl)) (fun z => by cases z) (fun _ H5 e5 => ?_)
        exact ⟨_, _, _, _, _, _, _, _, _, rfl, ((((ex1.trans e1).trans e2).trans exL).trans e4).trans e5⟩
    · rintro σ H' ⟨x1, x2, x3, x4, x5, x6, x7, x8, x9, rfl, ex⟩
      refine s_ret (v := .bl true) (ev_is (ev_opLL (el_call (vs := [vS (repL 2 [97, 98, 99])]) (xs := intV (cR (repL 2 [97, 98, 99]) 0)) (ea_cons (ev_mulS (n := 2) (ev_ab abc_str) (ev_c (v := V.int 2)) (by decide) (by decide)) ea_nil) (spl_counts (by decide) (by decide +kernel))) (ys := intV [1, 3, 9, 17, 15, 6, 1]) (el_lst (ea_cons ev_c (ea_cons ev_c (ea_cons ev_c (ea_cons ev_c (ea_cons ev_c (ea_cons ev_c (ea_cons ev_c ea_nil))))))) (by decide)) fun p1 q1 H3 h3 h4 e3 => rv_eqL h3 h4) (by
        have e9 : cR (repL 2 [97, 98, 99]) 0 = [1, 3, 9, 17, 15, 6, 1] := by decide +kernel
        rw [e9, decide_eq_true rfl])) fun H1 e1 => k H1
end
theorem walk_bits {l : PySem.W.OpenLaw} {n k : Nat} {q : Program} {loose : List Str} {XP : (Str → Option Value) → Heap → Prop} {YP : World → Heap → Prop} {d : DefRec} {CX : CXT} {x : Str}
    (hmost : l.most = some n) (hsz : n ≤ sizeLine) (hdef : d.params.defaults = []) (hroom : Room k callerA)
    (given_ : ∀ (w : World) (mg : Str → Option Value) (f : Addr) (h : Heap), YP w h → h.Ns mainGlobals mg → mg d.name = some (.ref f) →
      ∃ (K : PySem.W.Frag) (fd : FuncData) (sp : Sp), K.In h ∧ (∀ (s : Shared) (u : Value), BindsTo s fd ⟨[u], []⟩ [(x, u)]) ∧
        (∀ (H : Hp) (a : Addr) (ns : List Int), ns.length ≤ n → (∀ z ∈ ns, Builtin.Int.intBits z ≤ 1048576) → SqL K H a (ns.map V.int) → sp [.ref a] H (fun v _ => v = .bl true) fun _ _ _ => False) ∧
        ∀ base : Heap, K.In base → base.Ns mainGlobals mg → FnOk l.prog w K mg base CX k f fd [x] sp)
    (hno : ∀ (H : Hp) (s : Shared) (e : Value) (s' : Shared), CX [] H s (fun _ _ _ => False) e s' → False) :
    PySem.W.WalkO q loose XP YP l.row.toRowW d [] (fun f vs => PySem.call f vs) := by
  refine Att.attach_callB hmost hdef fun wd sA sB mg mb fa ob pm cd doc adr vals nums Gd Yp hob hdt hcd hmg hobj hnums hcount hbit hgen => ?_
  obtain ⟨K, fd, sp, inK, hbd, hok, hfn⟩ := given_ wd mg fa _ Yp Gd.T.g hmg
  exact law_call inK Gd.T.g Gd.T.b Gd.T.builtins Gd.T.nolimit hgen hobj hnums (Nat.le_trans hcount hsz) hroom hfn hbd (fun H _ hS => hok H adr nums hcount hbit hS) fun H e s' => hno H sB e s'
def dd_is_text : He.DefD := ⟨("is_text", none), "is_text", "is_text", defArgs s_is_text, defBody s_is_text, defScope s_is_text, [], []⟩
def dd_is_from_zero : He.DefD := ⟨("is_from_zero", none), "is_from_zero", "is_from_zero", defArgs s_is_from_zero, defBody s_is_from_zero, defScope s_is_from_zero, [], []⟩
def dd_check_text : He.DefD := ⟨("check_text", none), "check_text", "check_text", defArgs s_check_text, defBody s_check_text, defScope s_check_text, [], []⟩
def dd_check_length : He.DefD := ⟨("check_length", none), "check_length", "check_length", defArgs s_check_length, defBody s_check_length, defScope s_check_length, [], []⟩
def dd_followers : He.DefD := ⟨("followers", none), "followers", "followers", defArgs s_followers, defBody s_followers, defScope s_followers, [], []⟩
def dd_reached_places : He.DefD := ⟨("reached_places", none), "reached_places", "reached_places", defArgs s_reached_places, defBody s_reached_places, defScope s_reached_places, [], []⟩
def dd_is_piece : He.DefD := ⟨("is_piece", none), "is_piece", "is_piece", defArgs s_is_piece, defBody s_is_piece, defScope s_is_piece, [], []⟩
def dd_holds : He.DefD := ⟨("holds", none), "holds", "holds", defArgs s_holds, defBody s_holds, defScope s_holds, [], []⟩
def dd_first_places : He.DefD := ⟨("first_places", none), "first_places", "first_places", defArgs s_first_places, defBody s_first_places, defScope s_first_places, [], []⟩
def dd_counts_onward : He.DefD := ⟨("counts_onward", none), "counts_onward", "counts_onward", defArgs s_counts_onward, defBody s_counts_onward, defScope s_counts_onward, [], []⟩
def dd_counts : He.DefD := ⟨("counts", none), "counts", "counts", defArgs s_counts, defBody s_counts, defScope s_counts, [], []⟩
def dd_nth_piece : He.DefD := ⟨("nth_piece", none), "nth_piece", "nth_piece", defArgs s_nth_piece, defBody s_nth_piece, defScope s_nth_piece, [], []⟩
def dd_number_of : He.DefD := ⟨("number_of", none), "number_of", "number_of", defArgs s_number_of, defBody s_number_of, defScope s_number_of, [], []⟩
def dd__law_tape : He.DefD := ⟨("_law_tape", none), "_law_tape", "_law_tape", defArgs s__law_tape, defBody s__law_tape, defScope s__law_tape, [], []⟩
def dd__law_pick : He.DefD := ⟨("_law_pick", none), "_law_pick", "_law_pick", defArgs s__law_pick, defBody s__law_pick, defScope s__law_pick, [], []⟩
def dd__law_choices : He.DefD := ⟨("_law_choices", none), "_law_choices", "_law_choices", defArgs s__law_choices, defBody s__law_choices, defScope s__law_choices, [], []⟩
def dd__law_first : He.DefD := ⟨("_law_first", none), "_law_first", "_law_first", defArgs s__law_first, defBody s__law_first, defScope s__law_first, [], []⟩
def dd_law : He.DefD := ⟨("law", none), "law", "law", defArgs s_law, defBody s_law, defScope s_law, [], []⟩
def fn : List He.DefD := [dd_is_text, dd_is_from_zero, dd_check_text, dd_check_length, dd_followers, dd_reached_places, dd_is_piece, dd_holds, dd_first_places, dd_counts_onward, dd_counts, dd_nth_piece, dd_number_of, dd__law_tape, dd__law_pick, dd__law_choices, dd__law_first, dd_law]
def fa : List He.Fa := [.glo "is_text", .glo "is_from_zero", .glo "check_text", .glo "check_length", .glo "followers", .glo "reached_places", .glo "is_piece", .glo "holds", .glo "first_places", .glo "counts_onward", .glo "counts", .glo "nth_piece", .glo "number_of", .glo "_law_tape", .glo "_law_pick", .glo "_law_choices", .glo "_law_first", .glo "law", .free "isinstance", .free "str", .free "all", .free "int", .free "bool", .free "range", .free "reversed", .free "len", .free "dict", .free "sorted", .free "enumerate", .free "sum", .free "list", .free "min", .free "max", .str "ALPHABET" v_ALPHABET]
abbrev R : PySem.W.OpenRow := PySem.W.OpenLaw.row PySem.Challenge.rw_scatteredpieces_k10_counts_by_hand
abbrev hk : PySem.W.Hook := He.hookD 4 fa fn
def ob (s : PySem.W.SharedT) : He.AlD := He.obsDG 4 fa fn (HandSHeadRun.getT s)
theorem ob_eq (s : PySem.W.SharedT) : ob s = hk.obs s.abs := He.obsDG_eq (HandSHeadRun.getT_eq s)
def loose : List PySem.Str := ["PieceError", "BadText", "BadLength", "BadNumber", "NoPiece", "ALPHABET", "is_text", "is_from_zero", "check_text", "check_length", "followers", "reached_places", "is_piece", "holds", "first_places", "counts_onward", "counts", "nth_piece", "number_of", "_law_tape", "_law_pick", "_law_choices", "_law_first"]
theorem run (w : World) : HandSHeadRun.RunEq R (PySem.W.view R.prog [27]) hk ob 6000 loose w := by
  intro os
  kernel_rfl
theorem facts {K : PySem.W.Frag} {h : Heap} {mg : Str → Option Value} {f : Addr} (X : K.In h) (G : h.Ns mainGlobals mg) (hfa : mg ("law" : Str) = some (.ref f)) (c : He.SaysD fa fn K) : ∃ T : Txt K mg, f = T.a_law := by
  obtain ⟨fd_is_text, F_is_text⟩ := c.def_ 0 (d := dd_is_text) rfl
  obtain ⟨fd_is_from_zero, F_is_from_zero⟩ := c.def_ 1 (d := dd_is_from_zero) rfl
  obtain ⟨fd_check_text, F_check_text⟩ := c.def_ 2 (d := dd_check_text) rfl
  obtain ⟨fd_check_length, F_check_length⟩ := c.def_ 3 (d := dd_check_length) rfl
  obtain ⟨fd_followers, F_followers⟩ := c.def_ 4 (d := dd_followers) rfl
  obtain ⟨fd_reached_places, F_reached_places⟩ := c.def_ 5 (d := dd_reached_places) rfl
  obtain ⟨fd_is_piece, F_is_piece⟩ := c.def_ 6 (d := dd_is_piece) rfl
  obtain ⟨fd_holds, F_holds⟩ := c.def_ 7 (d := dd_holds) rfl
  obtain ⟨fd_first_places, F_first_places⟩ := c.def_ 8 (d := dd_first_places) rfl
  obtain ⟨fd_counts_onward, F_counts_onward⟩ := c.def_ 9 (d := dd_counts_onward) rfl
  obtain ⟨fd_counts, F_counts⟩ := c.def_ 10 (d := dd_counts) rfl
  obtain ⟨fd_nth_piece, F_nth_piece⟩ := c.def_ 11 (d := dd_nth_piece) rfl
  obtain ⟨fd_number_of, F_number_of⟩ := c.def_ 12 (d := dd_number_of) rfl
  obtain ⟨fd__law_tape, F__law_tape⟩ := c.def_ 13 (d := dd__law_tape) rfl
  obtain ⟨fd__law_pick, F__law_pick⟩ := c.def_ 14 (d := dd__law_pick) rfl
  obtain ⟨fd__law_choices, F__law_choices⟩ := c.def_ 15 (d := dd__law_choices) rfl
  obtain ⟨fd__law_first, F__law_first⟩ := c.def_ 16 (d := dd__law_first) rfl
  obtain ⟨fd_law, F_law⟩ := c.def_ 17 (d := dd_law) rfl
  obtain ⟨t_ALPHABET, c_ALPHABET⟩ := He.str_ok X G (c.fact 33 (f := .str "ALPHABET" v_ALPHABET) rfl)
  have e := hfa.symm.trans (He.glo_ok X G (c.fact 17 (f := .glo "law") rfl))
  cases e
  refine ⟨{
    a_is_text := _, d_is_text := fd_is_text, F_is_text := F_is_text, g_is_text := He.glo_ok X G (c.fact 0 (f := .glo "is_text") rfl),
    a_is_from_zero := _, d_is_from_zero := fd_is_from_zero, F_is_from_zero := F_is_from_zero, g_is_from_zero := He.glo_ok X G (c.fact 1 (f := .glo "is_from_zero") rfl),
    a_check_text := _, d_check_text := fd_check_text, F_check_text := F_check_text, g_check_text := He.glo_ok X G (c.fact 2 (f := .glo "check_text") rfl),
    a_check_length := _, d_check_length := fd_check_length, F_check_length := F_check_length, g_check_length := He.glo_ok X G (c.fact 3 (f := .glo "check_length") rfl),
    a_followers := _, d_followers := fd_followers, F_followers := F_followers, g_followers := He.glo_ok X G (c.fact 4 (f := .glo "followers") rfl),
    a_reached_places := _, d_reached_places := fd_reached_places, F_reached_places := F_reached_places, g_reached_places := He.glo_ok X G (c.fact 5 (f := .glo "reached_places") rfl),
    a_is_piece := _, d_is_piece := fd_is_piece, F_is_piece := F_is_piece, g_is_piece := He.glo_ok X G (c.fact 6 (f := .glo "is_piece") rfl),
    a_holds := _, d_holds := fd_holds, F_holds := F_holds, g_holds := He.glo_ok X G (c.fact 7 (f := .glo "holds") rfl),
    a_first_places := _, d_first_places := fd_first_places, F_first_places := F_first_places, g_first_places := He.glo_ok X G (c.fact 8 (f := .glo "first_places") rfl),
    a_counts_onward := _, d_counts_onward := fd_counts_onward, F_counts_onward := F_counts_onward, g_counts_onward := He.glo_ok X G (c.fact 9 (f := .glo "counts_onward") rfl),
    a_counts := _, d_counts := fd_counts, F_counts := F_counts, g_counts := He.glo_ok X G (c.fact 10 (f := .glo "counts") rfl),
    a_nth_piece := _, d_nth_piece := fd_nth_piece, F_nth_piece := F_nth_piece, g_nth_piece := He.glo_ok X G (c.fact 11 (f := .glo "nth_piece") rfl),
    a_number_of := _, d_number_of := fd_number_of, F_number_of := F_number_of, g_number_of := He.glo_ok X G (c.fact 12 (f := .glo "number_of") rfl),
    a__law_tape := _, d__law_tape := fd__law_tape, F__law_tape := F__law_tape, g__law_tape := He.glo_ok X G (c.fact 13 (f := .glo "_law_tape") rfl),
    a__law_pick := _, d__law_pick := fd__law_pick, F__law_pick := F__law_pick, g__law_pick := He.glo_ok X G (c.fact 14 (f := .glo "_law_pick") rfl),
    a__law_choices := _, d__law_choices := fd__law_choices, F__law_choices := F__law_choices, g__law_choices := He.glo_ok X G (c.fact 15 (f := .glo "_law_choices") rfl),
    a__law_first := _, d__law_first := fd__law_first, F__law_first := F__law_first, g__law_first := He.glo_ok X G (c.fact 16 (f := .glo "_law_first") rfl),
    a_law := _, d_law := fd_law, F_law := F_law, g_law := He.glo_ok X G (c.fact 17 (f := .glo "law") rfl),
    n_isinstance := He.free_ok X G (c.fact 18 (f := .free "isinstance") rfl),
    n_str := He.free_ok X G (c.fact 19 (f := .free "str") rfl),
    n_all := He.free_ok X G (c.fact 20 (f := .free "all") rfl),
    n_int := He.free_ok X G (c.fact 21 (f := .free "int") rfl),
    n_bool := He.free_ok X G (c.fact 22 (f := .free "bool") rfl),
    n_range := He.free_ok X G (c.fact 23 (f := .free "range") rfl),
    n_reversed := He.free_ok X G (c.fact 24 (f := .free "reversed") rfl),
    n_len := He.free_ok X G (c.fact 25 (f := .free "len") rfl),
    n_dict := He.free_ok X G (c.fact 26 (f := .free "dict") rfl),
    n_sorted := He.free_ok X G (c.fact 27 (f := .free "sorted") rfl),
    n_enumerate := He.free_ok X G (c.fact 28 (f := .free "enumerate") rfl),
    n_sum := He.free_ok X G (c.fact 29 (f := .free "sum") rfl),
    n_list := He.free_ok X G (c.fact 30 (f := .free "list") rfl),
    n_min := He.free_ok X G (c.fact 31 (f := .free "min") rfl),
    n_max := He.free_ok X G (c.fact 32 (f := .free "max") rfl),
    t_ALPHABET := t_ALPHABET, c_ALPHABET := c_ALPHABET }, rfl⟩
end My
open PySem PySem.W PySem.Calls PyProof.Rows
theorem PySem.Challenge.cw_scatteredpieces_k10_counts_by_hand_holds : PySem.Challenge.rw_scatteredpieces_k10_counts_by_hand.Holds := by
  w_on; o_law
  refine HandSHeadRun.head_any (r := My.R) (q := view My.R.prog [27]) (H := My.hk) (ob := My.ob) (M := 6000) (loose := My.loose) (d := HandSHeadRun.topDef My.R.prog 27) (kwd := []) My.ob_eq
    (by kernel_rfl) (fun s => by kernel_rfl) My.run (by kernel_rfl) (by kernel_rfl) (by kernel_rfl) (by rfl) (by first | assumption | decide +kernel) (by decide +kernel) ⟨rfl, rfl, rfl, rfl, rfl, by decide +kernel⟩ ?hw ?hc
  case hw => w_witness2
  case hc =>
    refine My.walk_bits (l := PySem.Challenge.rw_scatteredpieces_k10_counts_by_hand) (n := 63) (k := 6) (x := "script") (CX := L2.CX0) rfl (by decide) (by kernel_rfl) ⟨rfl, by decide, by decide⟩ ?F (fun _ _ _ _ z => z)
    intro w mg fa h Y G hmg0
    obtain ⟨K, KX, c⟩ := Y
    have hmg : mg ("law" : PySem.Str) = some (.ref fa) := by
      have e : (HandSHeadRun.topDef My.R.prog 27).name = ("law" : PySem.Str) := by kernel_rfl
      rw [← e]
      exact hmg0
    obtain ⟨T, rfl⟩ := My.facts KX G hmg c
    exact ⟨K, T.d_law, My.spLaw K, KX, fun s v => L2.FunD.bindsA (ps := ["script"]) T.F_law (fun _ _ _ _ _ _ us hl => match us, hl with | [_], _ => rfl) s [v] rfl, fun H a ns hl hb hS => ⟨a, ns, rfl, hS, hl, hb, fun _ => rfl⟩, fun base _ _ => My.ok_law T⟩
