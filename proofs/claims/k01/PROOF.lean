import PyProof.Rows.All
import Wide.All
import OpenK.AllK
import Wide.FinOn
import HandS.ForMost
import HandS.Evl
import HandS.IsInst
import HandS.EndBits
import HandS.Walk
import PyProof.Draws
import PyProof.EnumMake
import PySem.Challenge.RW_seatplan_k01_blocks
set_option Elab.async false
set_option linter.all false
set_option maxRecDepth 100000
set_option maxHeartbeats 4000000
namespace Xb
open PySem PySem.Spec PyProof.Rows L2
/-! ### enumerate(text): each sign in a new pair with its place -/
def IteS (x : Str) : It :=
  ⟨fun i _ => i < x.cps.size, fun i H v H' => ∃ A c, v = .ref A ∧ H A = none ∧ H' = upd H A (.tup [.int (i : Nat), .str ⟨#[c]⟩]) ∧ x.cps[i]? = some c, fun i _ => x.cps.size ≤ i⟩
theorem drawsS {prog : Program} {w : World} {A : Around} (hh : A.handled = none) (it : Addr) (x : Str) (t : Tok) :
    Draws prog w A it [it] x.cps.size (fun i v => ∃ c u, x.cps[i]? = some c ∧ v = .str ⟨#[c]⟩ u) (fun i h => h.IsStrIter it (strIterType x) x t i) := by
  cases ha : x.cps.all (· < 128)
  · have e : strIterType x = "str_iterator" := by simp [strIterType, ha]
    rw [e]
    exact Draws.strWide hh it x t
  · have e : strIterType x = "str_ascii_iterator" := by simp [strIterType, ha]
    rw [e]
    exact Draws.strAscii hh it x t
theorem turn_enumS {P : Program} {w : World} {K : PySem.W.Frag} {elts : List Expr} {kk : Nat} {tpos : Pos} (x : Str) (t : Tok) (e it : Addr) :
    Turn P w K (.Tuple elts kk tpos) (IteS x) [e, it] e (fun i h => (∃ old, IsEnum h e it ((i : Nat) : Int) old) ∧ h.IsStrIter it (strIterType x) x t i ∧ e ≠ it ∧ i ≤ x.cps.size) where
  mem := by simp
  obj := fun i h st b hb => by
    obtain ⟨⟨old, he⟩, ⟨o, ho, hc, hd⟩, _, _⟩ := st
    have e' : b = e ∨ b = it := by simpa using hb
    rcases e' with z | z
    · rw [z]; exact ⟨_, he, fun v q => nomatch q⟩
    · rw [z]; exact ⟨o, ho, fun v q => by rw [hd] at q; cases q⟩
  keep := fun i h h' st k => by
    obtain ⟨⟨old, he⟩, ⟨o, ho, r⟩, hne, hle⟩ := st
    exact ⟨⟨old, k e (by simp) _ he⟩, ⟨o, k it (by simp) o ho, r⟩, hne, hle⟩
  item := by
    intro X hP hw hK hc i pins s σ H E I hf st hg
    subst hP hw hK
    obtain ⟨⟨old, he⟩, hit, hne, hle⟩ := st
    have hel : e < s.heap.objs.size := Heap.lt_size he
    have hil : it < s.heap.objs.size := by obtain ⟨_, q, _⟩ := hit; exact Heap.lt_size q
    have hh : X.A.in1.handled = none := I.ok.hd hc
    refine wpAny_pyNext_enum_itemD (drawsS hh it x t) he hit hg hne (by simpa using hne) fun v h' tk hv ho hit' hT hsz hk => ?_
    obtain ⟨c, u, hcx, rfl⟩ := hv
    refine ⟨_, rfl, wpAny_letOwnedTupleGo_enum (s := { s with heap := h', toks := tk + 1 }) ho fun h'' he' sb => ?_⟩
    have hT2 : h''.get? s.heap.objs.size = some { cls := .type "tuple", data := .seq #[.int i tk, .str ⟨#[c]⟩ u] } := (sb.2 _ (Nat.ne_of_gt hel)).trans hT
    have new : ObjOk X.prog X.w (upd H s.heap.objs.size (.tup [.int (i : Nat), .str ⟨#[c]⟩])) h'' s.heap.objs.size (.tup [.int (i : Nat), .str ⟨#[c]⟩]) :=
      ⟨by show 2 ≤ sizeLine; decide, [.int i tk, .str ⟨#[c]⟩ u], .cons ⟨_, rfl⟩ (.cons ⟨_, rfl⟩ .nil), ⟨_, hT2, rfl, _, rfl⟩⟩
    have I1 : Inv X pins σ (upd H s.heap.objs.size (.tup [.int (i : Nat), .str ⟨#[c]⟩])) { s with heap := h'', toks := tk + 1 } :=
      I.turnedNew (t' := tk + 1) (ch := [e, it]) (fun b ob hb q => (sb.2 b (fun z => hb (by simp [z]))).trans (hk b ob (fun z => hb (by simp [z])) (fun z => hb (by simp [z])) q)) hf (Nat.le_refl _) new
    refine ⟨.ref s.heap.objs.size, _, I1, rfl, ⟨_, c, rfl, I.hok.fresh (Nat.le_refl _), rfl, hcx⟩, ⟨⟨.str ⟨#[c]⟩ u, ?_⟩, ?_, hne, hg⟩, fun b hb => ?_⟩
    · have e1 : ((i + 1 : Nat) : Int) = (i : Int) + 1 := by omega
      rw [e1]; exact he'
    · obtain ⟨o, q, r⟩ := hit'
      exact ⟨o, (sb.2 it (Ne.symm hne)).trans q, r⟩
    · have hb' : b < s.heap.objs.size := by
        have e' : b = e ∨ b = it := by simpa using hb
        rcases e' with z | z
        · rw [z]; exact hel
        · rw [z]; exact hil
      rw [upd_ne (Nat.ne_of_lt hb')]
      exact (hf b hb).1
  done := by
    intro X hP hw hK hc i pins s σ H E I hf st hg
    subst hP hw hK
    obtain ⟨⟨old, he⟩, hit, hne, hle⟩ := st
    obtain ⟨f0, f1, f2, f3, f4, f5⟩ := hf it (by simp)
    have hh : X.A.in1.handled = none := I.ok.hd hc
    have hi : i = x.cps.size := Nat.le_antisymm hle hg
    subst hi
    exact wpAny_pyNext_enum_endD (drawsS hh it x t) he hit fun h' eb => ⟨rfl, I.turned (t' := s.toks) (fun b o hb q => eb b o hb q) f0 f1 f3 f4 f5⟩
  self := fun A i s Q E st h => let ⟨⟨_, he⟩, _⟩ := st; wpAny_pyIter_enum he h
def iEnumS (ta : TA) : TI := fun σ H R => ta σ H fun vs H1 => ∃ x, vs = [.str x] ∧ R (IteS x) H1
theorem pi_enumS {X : Cx} {e : Expr} {ta : TA} {p pos tpos : Pos} {elts : List Expr} {kk : Nat} (hg : Gl X "enumerate") (hm : X.mg "enumerate" = none) (ha : PA X [e] ta) (hs : starEach [e] X.env = [(false, eval e X.env)] := by rfl) :
    PI X (.Tuple elts kk tpos) (.Call (.Name "enumerate" p) [e] [] pos) (iEnumS ta) := by
  refine ⟨fun pins s σ H R I h => ?_⟩
  refine Call_ (ld_blt I hg hm boot_enumerate (PyProof.Rows.callWith_type1 (thn (ha.run pos pins s σ H _ I h) fun us s1 ⟨vs, H1, I1, r1, q1⟩ => ?_) hs rfl))
  obtain ⟨x, ex, q⟩ := q1
  subst ex
  cases r1 with
  | cons r rr =>
    cases rr
    obtain ⟨t, rfl⟩ := r
    refine call_enumerate_str fun h' he hit hsz hk => wpAny_pyIter_enum he ?_
    have I2 : Inv X pins σ H1 { s1 with heap := h' } := I1.kept (t' := s1.toks) hk
    refine ⟨s1.heap.objs.size + 1, [s1.heap.objs.size + 1, s1.heap.objs.size], _, _, H1, rfl, I2, turn_enumS x t (s1.heap.objs.size + 1) s1.heap.objs.size, ⟨⟨.none, he⟩, hit, Nat.succ_ne_self _, Nat.zero_le _⟩, fun b hb => ?_, q⟩
    have e' : b = s1.heap.objs.size + 1 ∨ b = s1.heap.objs.size := by simpa using hb
    have hle : s1.heap.objs.size ≤ b := by
      rcases e' with z | z
      · rw [z]; exact Nat.le_add_right _ _
      · rw [z]; exact Nat.le_refl _
    exact I1.fpOk hle (I1.hok.fresh hle)
end Xb

namespace Xb
open PySem PySem.Spec PyProof.Rows L2 Evl
/-! ### data of any depth stays under an extension -/
section
variable {K : PySem.W.Frag} {H H' : Hp}
mutual
theorem dp_ex (e : Ex H H') : ∀ {d : PyData} {v : V}, Dp K H v d → Dp K H' v d
  | .none, _, h => by cases h; exact .non
  | .bool _, _, h => by cases h; exact .bl _
  | .int _, _, h => by cases h; exact .int _
  | .str _, _, h => by cases h; exact .str _
  | .list ds, _, h => by cases h with | lst hs ha => exact .lst (ex_l e hs) (dpa_ex e ha)
  | .tuple ds, _, h => by cases h with | tup hs ha => exact .tup (ex_t e hs) (dpa_ex e ha)
  | .dict _, _, h => by cases h
theorem dpa_ex (e : Ex H H') : ∀ {ds : List PyData} {vs : List V}, DpAll K H vs ds → DpAll K H' vs ds
  | [], _, h => by cases h; exact .nil
  | d :: ds, _, h => by cases h with | cons h1 h2 => exact .cons (dp_ex e h1) (dpa_ex e h2)
end
theorem dpa_len : ∀ {ds : List PyData} {vs : List V}, DpAll K H vs ds → vs.length = ds.length
  | [], _, h => by cases h; rfl
  | d :: ds, _, h => by cases h with | cons h1 h2 => simp [dpa_len h2]
theorem dpa_app : ∀ {ds es : List PyData} {vs ws : List V}, DpAll K H vs ds → DpAll K H ws es → DpAll K H (vs ++ ws) (ds ++ es)
  | [], _, _, _, h, k => by cases h; exact k
  | d :: ds, _, _, _, h, k => by cases h with | cons h1 h2 => exact .cons h1 (dpa_app h2 k)
theorem dpa_get : ∀ {ds : List PyData} {vs : List V} {i : Nat} {v : V}, DpAll K H vs ds → vs[i]? = some v → ∃ d, ds[i]? = some d ∧ Dp K H v d
  | [], _, _, _, h, q => by cases h; simp at q
  | d :: ds, _, 0, _, h, q => by cases h with | cons h1 h2 => simp at q; subst q; exact ⟨d, rfl, h1⟩
  | d :: ds, _, i + 1, _, h, q => by
    cases h with
    | cons h1 h2 =>
      obtain ⟨d', h3, h4⟩ := dpa_get (i := i) h2 (by simpa using q)
      exact ⟨d', by simpa using h3, h4⟩
theorem dpa_at : ∀ {ds : List PyData} {vs : List V} {i : Nat} {d : PyData}, DpAll K H vs ds → ds[i]? = some d → ∃ v, vs[i]? = some v ∧ Dp K H v d
  | [], _, _, _, h, q => by simp at q
  | d :: ds, _, 0, _, h, q => by cases h with | cons h1 h2 => simp at q; subst q; exact ⟨_, rfl, h1⟩
  | d :: ds, _, i + 1, _, h, q => by
    cases h with
    | cons h1 h2 =>
      obtain ⟨v, hv, hd⟩ := dpa_at h2 (show ds[i]? = some _ by simpa using q)
      exact ⟨v, by simpa using hv, hd⟩
theorem dpa_strs (xs : List Str) : DpAll K H (xs.map V.str) (xs.map PyData.str) := by
  induction xs with
  | nil => exact .nil
  | cons x xs ih => exact .cons (.str x) ih
theorem dpa_ints (xs : List Int) : DpAll K H (xs.map V.int) (xs.map PyData.int) := by
  induction xs with
  | nil => exact .nil
  | cons x xs ih => exact .cons (.int x) ih
theorem dp_strs {a : Addr} {xs : List Str} (h : SqL K H a (xs.map V.str)) : Dp K H (.ref a) (.list (xs.map PyData.str)) := .lst h (dpa_strs xs)
end

/-! ### statements over a base: at every extension of it -/
def Sx (H0 : Hp) (t : TS) (D : Ends) (σ : L2.St) : Prop := ∀ H, Ex H0 H → t D σ H
/-- a value whose data are told -/
def EvD (K : PySem.W.Frag) (te : TE) (σ : L2.St) (H : Hp) (d : PyData) : Prop := ∀ H1, Ex H H1 → ∀ Q : VK, (∀ v H2, Ex H1 H2 → Dp K H2 v d → Q v H2) → te σ H1 Q
section
variable {K : PySem.W.Frag} {σ : L2.St} {H H0 H' : Hp} {ta tb te tx tl : TE} {t u : TT} {x y z v : V} {D : Ends} {tu tw tz : TS} {g : TG} {i j : Nat}
theorem Sx.of (h : ∀ H1, Ex H H1 → Sx H1 tz D σ) : Sx H tz D σ := fun H1 e => h H1 e H1 (Ex.refl H1)
theorem Sx.mono (e : Ex H H') (h : Sx H tz D σ) : Sx H' tz D σ := fun H1 e1 => h H1 (e.trans e1)
theorem Sx.go (h : Sx H tz D σ) : tz D σ H := h H (Ex.refl H)
theorem Sx.at (h : Sx H tz D σ) (e : Ex H H') : tz D σ H' := h H' e
theorem sx_asg (h : Ev te σ H v) (k : Sx H tz D (σ.set i (some v))) : Sx H (tSeq (tAsg te (gName i)) tz) D σ := fun H1 e => q_asg (h.mono e) fun H2 e2 => k H2 (e.trans e2)
theorem sx_asg1 (h : Ev te σ H v) (k : ∀ H1, Ex H H1 → D.nx (σ.set i (some v)) H1) : Sx H (tAsg te (gName i)) D σ := fun H1 e => s_asg (h.mono e) fun H2 e2 => k H2 (e.trans e2)
theorem sx_asgL {xs : List V} (h : EvL te σ H xs) (k : ∀ p H1, H p = none → Ex H H1 → H1 p = some (.lst xs) → Sx H1 tz D (σ.set i (some (.ref p)))) : Sx H (tSeq (tAsg te (gName i)) tz) D σ := fun H1 e => q_asgL (h.mono e) fun p H2 hp e2 h2 => k p H2 (fresh_back e hp) (e.trans e2) h2 H2 (Ex.refl H2)
theorem sx_asgU {xs : List V} (h : EvU te σ H xs) (k : ∀ p H1, H p = none → Ex H H1 → H1 p = some (.tup xs) → Sx H1 tz D (σ.set i (some (.ref p)))) : Sx H (tSeq (tAsg te (gName i)) tz) D σ := fun H1 e => q_asgU (fun H2 e2 => h H2 (e.trans e2)) fun p H2 hp e2 h2 => k p H2 (fresh_back e hp) (e.trans e2) h2 H2 (Ex.refl H2)
theorem sx_asgD {d : PyData} (h : EvD K te σ H d) (k : ∀ v H1, Ex H H1 → Dp K H1 v d → Sx H1 tz D (σ.set i (some v))) : Sx H (tSeq (tAsg te (gName i)) tz) D σ := fun H1 e => h H1 e _ fun v H2 e2 hd => k v H2 (e.trans e2) hd H2 (Ex.refl H2)
theorem sx_if {b : Bool} (h : EvT t σ H b) (h1 : b = true → Sx H tu { D with nx := tz D } σ) (h2 : b = false → Sx H tw { D with nx := tz D } σ) : Sx H (tSeq (tIfS t tu tw) tz) D σ := fun H1 e =>
  q_if (h.mono e) (fun hb H2 e2 => h1 hb H2 (e.trans e2)) fun hb H2 e2 => h2 hb H2 (e.trans e2)
theorem sx_when {b : Bool} (h : EvT t σ H b) (h1 : b = true → Sx H tu { D with nx := tz D } σ) (h2 : b = false → Sx H tz D σ) : Sx H (tSeq (tIfS t tu tNext) tz) D σ := fun H1 e =>
  q_when (h.mono e) (fun hb H2 e2 => h1 hb H2 (e.trans e2)) fun hb H2 e2 => h2 hb H2 (e.trans e2)
theorem sx_if1 {b : Bool} (h : EvT t σ H b) (h1 : b = true → Sx H tu D σ) (h2 : b = false → Sx H tw D σ) : Sx H (tIfS t tu tw) D σ := fun H1 e =>
  s_if (h.mono e) (fun hb H2 e2 => h1 hb H2 (e.trans e2)) fun hb H2 e2 => h2 hb H2 (e.trans e2)
/-- a test that is known: the other branch is never looked at -/
theorem sx_skip (h : EvT t σ H false) (h2 : Sx H tz D σ) : Sx H (tSeq (tIfS t tu tNext) tz) D σ := sx_when h (fun q => nomatch q) fun _ => h2
theorem sx_ret (h : Ev te σ H v) (k : ∀ H1, Ex H H1 → D.rt v H1) : Sx H (tRet te) D σ := fun H1 e => s_ret (h.mono e) fun H2 e2 => k H2 (e.trans e2)
theorem sx_retL {xs : List V} (h : EvL te σ H xs) (k : ∀ p H1, H p = none → Ex H H1 → H1 p = some (.lst xs) → D.rt (.ref p) H1) : Sx H (tRet te) D σ := fun H1 e => s_retL (h.mono e) fun p H2 hp e2 h2 => k p H2 (fresh_back e hp) (e.trans e2) h2
theorem sx_retD {d : PyData} (h : EvD K te σ H d) (k : ∀ v H1, Ex H H1 → Dp K H1 v d → D.rt v H1) : Sx H (tRet te) D σ := fun H1 e => h H1 e _ fun v H2 e2 hd => k v H2 (e.trans e2) hd
theorem sx_next (k : ∀ H1, Ex H H1 → D.nx σ H1) : Sx H tNext D σ := fun H1 e => k H1 e
theorem sx_drop (h : Ev te σ H v) (k : Sx H tz D σ) : Sx H (tSeq (tDrop te) tz) D σ := fun H1 e => q_drop (h.mono e) fun H2 e2 => k H2 (e.trans e2)
theorem sx_drop1 (h : Ev te σ H v) (k : ∀ H1, Ex H H1 → D.nx σ H1) : Sx H (tDrop te) D σ := fun H1 e => s_drop (h.mono e) fun H2 e2 => k H2 (e.trans e2)
theorem sx_aug1 {f : Int → Int → Int} {a b : Int} (hx : σ[i]? = some (some (.int a))) (h : Ev te σ H (.int b)) (k : ∀ H1, Ex H H1 → D.nx (σ.set i (some (.int (f a b)))) H1) : Sx H (tAug i te (ipI f)) D σ := fun H1 e => s_aug hx (h.mono e) fun H2 e2 => k H2 (e.trans e2)
theorem sx_app {l : Addr} {xs : List V} (hl : H l = some (.lst xs)) (ha : Ev ta σ H (.ref l)) (h : Ev te σ H v) (hz : xs.length < 100000) (k : ∀ H1, Ex H H1 → Sx (upd H1 l (.lst (xs ++ [v]))) tz D σ) :
    Sx H (tSeq (tDrop (tBM K "list" rAppend ta (tCons te tNil))) tz) D σ := fun H1 e => q_app (e l _ hl) (ha.mono e) (h.mono e) hz fun H2 e2 => k H2 (e.trans e2) _ (Ex.refl _)
theorem sx_app1 {l : Addr} {xs : List V} (hl : H l = some (.lst xs)) (ha : Ev ta σ H (.ref l)) (h : Ev te σ H v) (hz : xs.length < 100000) (k : ∀ H1, Ex H H1 → D.nx σ (upd H1 l (.lst (xs ++ [v])))) :
    Sx H (tDrop (tBM K "list" rAppend ta (tCons te tNil))) D σ := fun H1 e => s_app (e l _ hl) (ha.mono e) (h.mono e) hz fun H2 e2 => k H2 (e.trans e2)
theorem sx_appU {l : Addr} {xs ys : List V} (hl : H l = some (.lst xs)) (ha : Ev ta σ H (.ref l)) (h : EvU te σ H ys) (hz : xs.length < 100000) (k : ∀ p H1, H p = none → Ex H H1 → H1 p = some (.tup ys) → Sx (upd H1 l (.lst (xs ++ [.ref p]))) tz D σ) :
    Sx H (tSeq (tDrop (tBM K "list" rAppend ta (tCons te tNil))) tz) D σ := fun H1 e => q_appU (e l _ hl) (ha.mono e) (fun H2 e2 => h H2 (e.trans e2)) hz fun p H2 hp e2 h2 => k p H2 (fresh_back e hp) (e.trans e2) h2 _ (Ex.refl _)
theorem sx_appU1 {l : Addr} {xs ys : List V} (hl : H l = some (.lst xs)) (ha : Ev ta σ H (.ref l)) (h : EvU te σ H ys) (hz : xs.length < 100000) (k : ∀ p H1, H p = none → Ex H H1 → H1 p = some (.tup ys) → D.nx σ (upd H1 l (.lst (xs ++ [.ref p])))) :
    Sx H (tDrop (tBM K "list" rAppend ta (tCons te tNil))) D σ := fun H1 e => s_appU (e l _ hl) (ha.mono e) (fun H2 e2 => h H2 (e.trans e2)) hz fun p H2 hp e2 h2 => k p H2 (fresh_back e hp) (e.trans e2) h2
/-- loops; P holds of the turn, the slots and the heap, at every extension -/
theorem sx_forR1 {ta : TA} {n : Int} (h : EvA ta σ H [.int n]) (hn : 0 ≤ n ∧ n ≤ 100000) (Pv : Nat → L2.St → Hp → Prop) (h0 : ∀ H1, Ex H H1 → Pv 0 σ H1)
    (hs : ∀ (i : Nat) σ' H', (i : Int) < n → Pv i σ' H' → Sx H' tu { D with nx := Pv (i + 1), ct := Pv (i + 1), bk := tz D } (σ'.set j (some (.int (i : Int))))) (hd : ∀ σ' H', Pv n.toNat σ' H' → Sx H' tz D σ') : Sx H (tSeq (tFor (iRng1 ta) (gName j) tu) tz) D σ := fun H1 e =>
  q_forR1 (h.mono e) hn Pv (fun H2 e2 => h0 H2 (e.trans e2)) (fun i σ' H' hi p => (hs i σ' H' hi p).go) fun σ' H' p => (hd σ' H' p).go
theorem sx_forR2 {ta : TA} {lo n : Int} (h : EvA ta σ H [.int lo, .int n]) (hn : 0 ≤ lo ∧ lo ≤ 100000 ∧ -100000 ≤ n ∧ n ≤ 100000) (Pv : Nat → L2.St → Hp → Prop) (h0 : ∀ H1, Ex H H1 → Pv 0 σ H1)
    (hs : ∀ (i : Nat) σ' H', lo + (i : Int) < n → Pv i σ' H' → Sx H' tu { D with nx := Pv (i + 1), ct := Pv (i + 1), bk := tz D } (σ'.set j (some (.int (lo + (i : Int)))))) (hd : ∀ σ' H', Pv (n - lo).toNat σ' H' → Sx H' tz D σ') : Sx H (tSeq (tFor (iRng2 ta) (gName j) tu) tz) D σ := fun H1 e =>
  q_forR2 (h.mono e) hn Pv (fun H2 e2 => h0 H2 (e.trans e2)) (fun i σ' H' hi p => (hs i σ' H' hi p).go) fun σ' H' p => (hd σ' H' p).go
theorem sx_forL {a : Addr} {xs : List V} (h : Ev tl σ H (.ref a)) (hx : SqL K H a xs) (Pv : Nat → L2.St → Hp → Prop) (h0 : ∀ H1, Ex H H1 → Pv 0 σ H1) (hl : ∀ i σ' H', i ≤ xs.length → Pv i σ' H' → SqL K H' a xs)
    (hs : ∀ i x σ' H', xs[i]? = some x → Pv i σ' H' → Sx H' tu { D with nx := Pv (i + 1), ct := Pv (i + 1), bk := tz D } (σ'.set j (some x))) (hd : ∀ σ' H', Pv xs.length σ' H' → Sx H' tz D σ') : Sx H (tSeq (tFor (iList K tl) (gName j) tu) tz) D σ := fun H1 e =>
  q_forLn (h.mono e) (ex_l e hx) Pv (fun H2 e2 => h0 H2 (e.trans e2)) hl (fun i x σ' H' hi p => (hs i x σ' H' hi p).go) fun σ' H' p => (hd σ' H' p).go
/-- over a text -/
theorem sx_forS0 {s : Str} (h : Ev tl σ H (.str s)) (Pv : Nat → L2.St → Hp → Prop) (h0 : ∀ H1, Ex H H1 → Pv 0 σ H1)
    (hs : ∀ i c σ' H', s.cps[i]? = some c → Pv i σ' H' → Sx H' tu { D with nx := Pv (i + 1), ct := Pv (i + 1), bk := tz D } (σ'.set j (some (.str ⟨#[c]⟩)))) (hd : ∀ σ' H', Pv s.cps.size σ' H' → Sx H' tz D σ') : Sx H (tSeq (tFor (iStr tl) (gName j) tu) tz) D σ := fun H1 e =>
  h H1 e _ fun H2 e2 => ⟨s, rfl, fun i m σ' H' => m = s.cps.size - i ∧ i ≤ s.cps.size ∧ Pv i σ' H', ⟨_, rfl, Nat.zero_le _, h0 H2 (e.trans e2)⟩, fun i m σ' H' => by
    rintro ⟨rfl, hi, p⟩
    by_cases hlt : i < s.cps.size
    · refine .inr ⟨hlt, Pv (i + 1), fun σ2 H3 p2 => ⟨s.cps.size - (i + 1), by omega, rfl, hlt, p2⟩, fun x H3 hy => ?_⟩
      obtain ⟨rfl, c, hc, rfl⟩ := hy
      exact (hs i c σ' H3 hc p).go
    · have : i = s.cps.size := by omega
      subst this
      exact .inl ⟨Nat.le_refl _, (hd σ' H' p).go⟩⟩
/-- over enumerate(text) -/
theorem sx_forES {s : Str} {ta : TA} {k l : Nat} (h : EvA ta σ H [.str s]) (Pv : Nat → L2.St → Hp → Prop) (h0 : ∀ H1, Ex H H1 → Pv 0 σ H1) (hm : ∀ i σ' H1 H2, Pv i σ' H1 → Ex H1 H2 → Pv i σ' H2)
    (hs : ∀ (i : Nat) c σ' H', s.cps[i]? = some c → Pv i σ' H' → Sx H' tu { D with nx := Pv (i + 1), ct := Pv (i + 1), bk := tz D } ((σ'.set k (some (.int (i : Int)))).set l (some (.str ⟨#[c]⟩)))) (hd : ∀ σ' H', Pv s.cps.size σ' H' → Sx H' tz D σ') :
    Sx H (tSeq (tFor (iEnumS ta) (gTup K 2 (gCons (gName k) (gCons (gName l) gNil))) tu) tz) D σ := fun H1 e =>
  h H1 e _ fun H2 e2 => ⟨s, rfl, fun i m σ' H' => m = s.cps.size - i ∧ i ≤ s.cps.size ∧ Pv i σ' H', ⟨_, rfl, Nat.zero_le _, h0 H2 (e.trans e2)⟩, fun i m σ' H' => by
    rintro ⟨rfl, hi, p⟩
    by_cases hlt : i < s.cps.size
    · refine .inr ⟨hlt, Pv (i + 1), fun σ2 H3 p2 => ⟨s.cps.size - (i + 1), by omega, rfl, hlt, p2⟩, fun x H3 hy => ?_⟩
      obtain ⟨A, c, rfl, hA, rfl, hc⟩ := hy
      refine ⟨A, _, rfl, .inl (.inl upd_same), rfl, _, _, rfl, _, _, rfl, rfl, ?_⟩
      exact (hs i c σ' _ hc (hm _ _ _ _ p (Ex.new hA))).go
    · have : i = s.cps.size := by omega
      subst this
      exact .inl ⟨Nat.le_refl _, (hd σ' H' p).go⟩⟩
/-- over enumerate(list) -/
theorem sx_forEL {a : Addr} {xs : List V} {ta : TA} {k l : Nat} (h : EvA ta σ H [.ref a]) (hx : SqL K H a xs) (Pv : Nat → L2.St → Hp → Prop) (h0 : ∀ H1, Ex H H1 → Pv 0 σ H1) (hm : ∀ i σ' H1 H2, Pv i σ' H1 → Ex H1 H2 → Pv i σ' H2) (hl : ∀ i σ' H', i ≤ xs.length → Pv i σ' H' → SqL K H' a xs)
    (hs : ∀ (i : Nat) x σ' H', xs[i]? = some x → Pv i σ' H' → Sx H' tu { D with nx := Pv (i + 1), ct := Pv (i + 1), bk := tz D } ((σ'.set k (some (.int (i : Int)))).set l (some x))) (hd : ∀ σ' H', Pv xs.length σ' H' → Sx H' tz D σ') :
    Sx H (tSeq (tFor (iEnum K ta) (gTup K 2 (gCons (gName k) (gCons (gName l) gNil))) tu) tz) D σ := fun H1 e =>
  h H1 e _ fun H2 e2 => ⟨a, xs, rfl, ex_l (e.trans e2) hx, fun i m σ' H' => m = xs.length - i ∧ i ≤ xs.length ∧ Pv i σ' H', ⟨_, rfl, Nat.zero_le _, h0 H2 (e.trans e2)⟩, fun i m σ' H' => by
    rintro ⟨rfl, hi, p⟩
    have hL := hl i σ' H' hi p
    by_cases hlt : i < xs.length
    · refine .inr ⟨⟨xs, xs[i], hL, by simp [hlt]⟩, Pv (i + 1), fun σ2 H3 p2 => ⟨xs.length - (i + 1), by omega, rfl, hlt, p2⟩, fun x H3 hy => ?_⟩
      obtain ⟨A, x1, rfl, hA, rfl, hc⟩ := hy
      refine ⟨A, _, rfl, .inl (.inl upd_same), rfl, _, _, rfl, _, _, rfl, rfl, ?_⟩
      exact (hs i x1 σ' _ (hc xs hL) (hm _ _ _ _ p (Ex.new hA))).go
    · have : i = xs.length := by omega
      subst this
      exact .inl ⟨⟨xs, hL, Nat.le_refl _⟩, (hd σ' H' p).go⟩⟩
/-! the same where nothing stands behind the loop -/
theorem sx_last (h : Sx H (tSeq tu tNext) D σ) : Sx H tu D σ := h
end

/-! ### what evaluates to what: further rules -/
section
variable {K : PySem.W.Frag} {σ : L2.St} {H H' : Hp} {ta tb tc te tx : TE} {t u : TT} {x y z v : V} {r r' : R2}
theorem rv_eqI {i j : Int} : RV rEq (.int i) (.int j) H (.bl (decide (i = j))) := fun H1 _ _ q => ⟨rfl, by
  have e : decide (V.int i = V.int j) = decide (i = j) := by simp
  rw [e]; exact q H1 (Ex.refl H1)⟩
theorem rv_neI {i j : Int} : RV rNe (.int i) (.int j) H (.bl (!decide (i = j))) := fun H1 _ _ q => ⟨rfl, by
  have e : decide (V.int i = V.int j) = decide (i = j) := by simp
  rw [e]; exact q H1 (Ex.refl H1)⟩
theorem rv_eqS {i j : Str} : RV rEq (.str i) (.str j) H (.bl (decide (i = j))) := fun H1 _ _ q => ⟨rfl, by
  have e : decide (V.str i = V.str j) = decide (i = j) := by simp
  rw [e]; exact q H1 (Ex.refl H1)⟩
theorem rv_neS {i j : Str} : RV rNe (.str i) (.str j) H (.bl (!decide (i = j))) := fun H1 _ _ q => ⟨rfl, by
  have e : decide (V.str i = V.str j) = decide (i = j) := by simp
  rw [e]; exact q H1 (Ex.refl H1)⟩
theorem rv_eqB {i j : Bool} : RV rEq (.bl i) (.bl j) H (.bl (decide (i = j))) := fun H1 _ _ q => ⟨rfl, by
  have e : decide (V.bl i = V.bl j) = decide (i = j) := by simp
  rw [e]; exact q H1 (Ex.refl H1)⟩
theorem rv_adds {i j : Str} (h : i.length + j.length ≤ 100000) : RV (fun x y H Q => ∃ i j, x = .str i ∧ y = .str j ∧ i.length + j.length ≤ sizeLine ∧ Q (.str (i ++ j)) H) (.str i) (.str j) H (.str (i ++ j)) := fun H1 _ _ q => ⟨i, j, rfl, rfl, sz_of h, q H1 (Ex.refl H1)⟩
theorem rv_eqD {d e : PyData} (hx : Dp K H x d) (hy : Dp K H y e) (s1 : SeqAt.shaped d = true) (s2 : SeqAt.shaped e = true) : RV (rEqD K) x y H (.bl (PyData.eqv d e)) := fun H1 e1 _ q => ⟨d, e, dp_ex e1 hx, dp_ex e1 hy, s1, s2, q H1 (Ex.refl H1)⟩
theorem rv_neD {d e : PyData} (hx : Dp K H x d) (hy : Dp K H y e) (s1 : SeqAt.shaped d = true) (s2 : SeqAt.shaped e = true) : RV (rNeD K) x y H (.bl (!PyData.eqv d e)) := fun H1 e1 _ q => ⟨d, e, dp_ex e1 hx, dp_ex e1 hy, s1, s2, q H1 (Ex.refl H1)⟩
theorem rv_ltT {a b : Addr} {ns ms : List Int} (h1 : SqT K H a (ns.map V.int)) (h2 : SqT K H b (ms.map V.int)) : RV (rLtT K) (.ref a) (.ref b) H (.bl (HT.lexLt ns ms)) := fun H1 e1 _ q => ⟨a, b, ns, ms, rfl, rfl, ex_t e1 h1, ex_t e1 h2, q H1 (Ex.refl H1)⟩
/-- len -/
theorem rc_lenL {p : Addr} {xs : List V} (h : SqL K H p xs) : RC (fun xs H Q => ∃ p ys, xs = [.ref p] ∧ (SqL K H p ys ∨ SqT K H p ys) ∧ Q (.int ys.length) H) [.ref p] H (.int (xs.length : Int)) := fun H1 e1 _ q => ⟨p, xs, rfl, .inl (ex_l e1 h), q H1 (Ex.refl H1)⟩
theorem rc_lenT {p : Addr} {xs : List V} (h : SqT K H p xs) : RC (fun xs H Q => ∃ p ys, xs = [.ref p] ∧ (SqL K H p ys ∨ SqT K H p ys) ∧ Q (.int ys.length) H) [.ref p] H (.int (xs.length : Int)) := fun H1 e1 _ q => ⟨p, xs, rfl, .inr (ex_t e1 h), q H1 (Ex.refl H1)⟩
theorem rc_lenS {s : Str} (h : s.length ≤ 100000) : RC (fun xs H Q => ∃ z, xs = [.str z] ∧ z.length ≤ sizeLine ∧ Q (.int z.length) H) [.str s] H (.int (s.length : Int)) := fun H1 e1 _ q => ⟨s, rfl, sz_of h, q H1 (Ex.refl H1)⟩
theorem rc_abs {i : Int} : RC (fun xs H Q => ∃ i, xs = [.int i] ∧ Q (.int (if i < 0 then -i else i)) H) [.int i] H (.int (if i < 0 then -i else i)) := fun H1 _ _ q => ⟨i, rfl, q H1 (Ex.refl H1)⟩
theorem rc_min2 {i j : Int} : RC (fun xs H Q => ∃ i j, xs = [.int i, .int j] ∧ Q (.int (if j < i then j else i)) H) [.int i, .int j] H (.int (if j < i then j else i)) := fun H1 _ _ q => ⟨i, j, rfl, q H1 (Ex.refl H1)⟩
theorem rc_max2 {i j : Int} : RC (fun xs H Q => ∃ i j, xs = [.int i, .int j] ∧ Q (.int (if j > i then j else i)) H) [.int i, .int j] H (.int (if j > i then j else i)) := fun H1 _ _ q => ⟨i, j, rfl, q H1 (Ex.refl H1)⟩
theorem rc_sum {a : Addr} {ns : List Int} (h : SqL K H a (ns.map V.int)) : RC (rSum K) [.ref a] H (.int ns.sum) := fun H1 e1 _ q => ⟨a, ns, rfl, ex_l e1 h, q H1 (Ex.refl H1)⟩
/-- a built-in of a new list -/
theorem ev_cbL {r : List V → Hp → VK → Prop} {xs : List V} (h : EvL te σ H xs) (hr : ∀ p H1, H1 p = some (.lst xs) → Ex H H1 → RC r [.ref p] H1 z) : Ev (tCB r (tCons te tNil)) σ H z := fun H1 e Q q =>
  h H1 e _ fun p H2 hp e2 h2 => hr p H2 h2 (e.trans e2) H2 (Ex.refl H2) Q fun H3 e3 => q H3 (e2.trans e3)
theorem rcl_list {p : Addr} {xs : List V} (h : SqL K H p xs) : RCL (fun xs H Q => ∃ p ys, xs = [.ref p] ∧ (SqL K H p ys ∨ SqT K H p ys) ∧ ∀ l, H l = none → Q (.ref l) (upd H l (.lst ys))) [.ref p] H xs := fun H1 e1 _ q => ⟨p, xs, rfl, .inl (ex_l e1 h), fun l hl => q l _ hl (Ex.new hl) upd_same⟩
/-- isinstance of a built-in class -/
theorem rc_isi {c : String} {ty : String} {b : Bool} (hx : ∀ H1, Ex H H1 → TyX K H1 x (.type ty)) (hk : kitB ty c = some b) : RC (rIsi K) [x, .ty c] H (.bl b) := fun H1 e1 _ q => ⟨x, .ty c, .type ty, .type c, b, rfl, .ty c, hx H1 e1, kit_ty hk, q H1 (Ex.refl H1)⟩
theorem ty_int {i : Int} : TyX K H (.int i) (.type "int") := .base (.int _)
theorem ty_bl {i : Bool} : TyX K H (.bl i) (.type "bool") := .base (.bl _)
theorem ty_str {i : Str} : TyX K H (.str i) (.type "str") := .base (.str _)
/-- a method of a text -/
theorem ev_bmS {r : V → List V → Hp → VK → Prop} {to : TE} {ta : TA} {s : Str} {vs : List V} (ho : Ev to σ H (.str s)) (ha : EvA ta σ H vs) (hr : RC (r (.str s)) vs H z) : Ev (tBM K "str" r to ta) σ H z := fun H1 e Q q =>
  ho H1 e _ fun H2 e2 => ⟨rfl, ha H2 (e.trans e2) _ fun H3 e3 => hr H3 ((e.trans e2).trans e3) Q fun H4 e4 => q H4 ((e2.trans e3).trans e4)⟩
theorem rc_count {a b : Str} : RC (fun xs H Q => ∃ a' b', V.str a = .str a' ∧ xs = [.str b'] ∧ Q (.int (Txt.count a' b')) H) [.str b] H (.int (Txt.count a b)) := fun H1 e1 _ q => ⟨a, b, rfl, rfl, q H1 (Ex.refl H1)⟩
/-- a slice of a text -/
theorem ev_slS {tl th : TO} {s : Str} {lo hi : Option Int} (h : Ev te σ H (.str s)) (h1 : EvO tl σ H lo) (h2 : EvO th σ H hi) (hz : s.length ≤ 100000) : Ev (tSl rSlS te tl th) σ H (.str (cutS s lo hi)) := fun H1 e _ q =>
  h H1 e _ fun H2 e2 => h1 H2 (e.trans e2) _ fun H3 e3 => h2 H3 ((e.trans e2).trans e3) _ fun H4 e4 => ⟨s, rfl, sz_of hz, q H4 ((e2.trans e3).trans e4)⟩
/-- a chain of two comparisons -/
theorem ev_chain {a b : Bool} (ha : Ev ta σ H x) (hb : Ev tb σ H y) (hr : RV r x y H (.bl a)) (hc : a = true → Ev tc σ H z) (hr2 : a = true → RV r' y z H (.bl b)) : Ev (tChain r r' ta tb tc) σ H (.bl (a && b)) := fun H1 e Q q =>
  ha H1 e _ fun H2 e2 => hb H2 (e.trans e2) _ fun H3 e3 => hr H3 ((e.trans e2).trans e3) _ fun H4 e4 => ⟨a, rfl, by
    have e5 := ((e.trans e2).trans e3).trans e4
    cases a with
    | true =>
      show tc σ H4 _
      exact hc rfl H4 e5 _ fun H6 e6 => hr2 rfl H6 (e5.trans e6) Q fun H7 e7 => q H7 ((((e2.trans e3).trans e4).trans e6).trans e7)
    | false =>
      show Q (.bl false) H4
      exact q H4 ((e2.trans e3).trans e4)⟩
/-- data -/
theorem EvD.mono {d : PyData} (e : Ex H H') (h : EvD K te σ H d) : EvD K te σ H' d := fun H1 a Q q => h H1 (e.trans a) Q q
def SpD (K : PySem.W.Frag) (sp : Sp) (vs : List V) (H : Hp) (d : PyData) : Prop := ∀ H1, Ex H H1 → ∀ Q : VK, (∀ v H2, Ex H1 H2 → Dp K H2 v d → Q v H2) → ∀ E : XK, sp vs H1 Q E
theorem ed_call {sp : Sp} {dvs vs : List V} {E : XK} {ta : TA} {d : PyData} (h : EvA ta σ H vs) (hs : SpD K sp (vs ++ dvs) H d) : EvD K (tCall sp dvs E ta) σ H d := fun H1 e Q q =>
  h H1 e _ fun H2 e2 => hs H2 (e.trans e2) Q (fun v H3 e3 => q v H3 (e2.trans e3)) E
end

/-! ### small arithmetic of places -/
theorem at_map {α : Type} {f : α → V} {xs : List α} {i : Int} {y : α} (h0 : 0 ≤ i) (h : xs[i.toNat]? = some y) : atI (xs.map f) i = some (f y) := by
  have e : i = ((i.toNat : Nat) : Int) := by omega
  rw [e]
  exact atI_nat (by rw [List.getElem?_map, h]; rfl)
theorem at_nat {xs : List V} {i : Int} {y : V} (h0 : 0 ≤ i) (h : xs[i.toNat]? = some y) : atI xs i = some y := by
  have e : i = ((i.toNat : Nat) : Int) := by omega
  rw [e]
  exact atI_nat h
section
variable {K : PySem.W.Frag} {H : Hp}
theorem ty_lst {a : Addr} {xs : List V} (h : SqL K H a xs) : TyX K H (.ref a) (.type "list") := by
  rcases h with (h | ⟨o, h⟩) | h
  · exact .base (.lst h)
  · exact .base (.frz h)
  · obtain ⟨o, its, n, h1, h2, _⟩ := h
    exact .kList h1 h2
theorem ty_tup {a : Addr} {xs : List V} (h : SqT K H a xs) : TyX K H (.ref a) (.type "tuple") := by
  rcases h with (h | ⟨o, h⟩) | h
  · exact .base (.tup h)
  · exact .fTuple h
  · obtain ⟨o, its, n, h1, h2, _⟩ := h
    exact .kTuple h1 h2
end
/-! an implication that a walk opens by itself -/
def Imp (p q : Prop) : Prop := p → q
section
variable {K : PySem.W.Frag} {σ : L2.St} {H H' : Hp} {ta tb tc te : TE} {t u : TT} {x y z v : V} {r r' : R2} {a b : Bool}
theorem et_and2 (h1 : EvT t σ H a) (h2 : Imp (a = true) (EvT u σ H b)) : EvT (tAnd t u) σ H (a && b) := et_and h1 h2
theorem et_or2 (h1 : EvT t σ H a) (h2 : Imp (a = false) (EvT u σ H b)) : EvT (tOr t u) σ H (a || b) := et_or h1 h2
theorem ev_andV2 (h1 : Ev ta σ H (.bl a)) (h2 : Imp (a = true) (Ev tb σ H (.bl b))) : Ev (tAndV ta tb) σ H (.bl (a && b)) := ev_andV h1 h2
theorem ev_orV2 (h1 : Ev ta σ H (.bl a)) (h2 : Imp (a = false) (Ev tb σ H (.bl b))) : Ev (tOrV ta tb) σ H (.bl (a || b)) := ev_orV h1 h2
theorem ev_chain2 (ha : Ev ta σ H x) (hb : Ev tb σ H y) (hr : RV r x y H (.bl a)) (hc : Imp (a = true) (Ev tc σ H z)) (hr2 : Imp (a = true) (RV r' y z H (.bl b))) : Ev (tChain r r' ta tb tc) σ H (.bl (a && b)) := ev_chain ha hb hr hc hr2
end
section
variable {K : PySem.W.Frag} {H : Hp}
theorem is_ii {i : Int} : RC (rIsi K) [.int i, .ty "int"] H (.bl true) := rc_isi (fun _ _ => ty_int) (by decide +kernel)
theorem is_ib {i : Int} : RC (rIsi K) [.int i, .ty "bool"] H (.bl false) := rc_isi (fun _ _ => ty_int) (by decide +kernel)
theorem is_is {i : Int} : RC (rIsi K) [.int i, .ty "str"] H (.bl false) := rc_isi (fun _ _ => ty_int) (by decide +kernel)
theorem is_il {i : Int} : RC (rIsi K) [.int i, .ty "list"] H (.bl false) := rc_isi (fun _ _ => ty_int) (by decide +kernel)
theorem is_bb {i : Bool} : RC (rIsi K) [.bl i, .ty "bool"] H (.bl true) := rc_isi (fun _ _ => ty_bl) (by decide +kernel)
theorem is_bi {i : Bool} : RC (rIsi K) [.bl i, .ty "int"] H (.bl true) := rc_isi (fun _ _ => ty_bl) (by decide +kernel)
theorem is_bs {i : Bool} : RC (rIsi K) [.bl i, .ty "str"] H (.bl false) := rc_isi (fun _ _ => ty_bl) (by decide +kernel)
theorem is_ss {i : Str} : RC (rIsi K) [.str i, .ty "str"] H (.bl true) := rc_isi (fun _ _ => ty_str) (by decide +kernel)
theorem is_si {i : Str} : RC (rIsi K) [.str i, .ty "int"] H (.bl false) := rc_isi (fun _ _ => ty_str) (by decide +kernel)
theorem is_sb {i : Str} : RC (rIsi K) [.str i, .ty "bool"] H (.bl false) := rc_isi (fun _ _ => ty_str) (by decide +kernel)
theorem is_sl {i : Str} : RC (rIsi K) [.str i, .ty "list"] H (.bl false) := rc_isi (fun _ _ => ty_str) (by decide +kernel)
theorem is_ll {a : Addr} {xs : List V} (h : SqL K H a xs) : RC (rIsi K) [.ref a, .ty "list"] H (.bl true) := rc_isi (fun _ e => ty_lst (ex_l e h)) (by decide +kernel)
theorem is_ls {a : Addr} {xs : List V} (h : SqL K H a xs) : RC (rIsi K) [.ref a, .ty "str"] H (.bl false) := rc_isi (fun _ e => ty_lst (ex_l e h)) (by decide +kernel)
theorem is_li {a : Addr} {xs : List V} (h : SqL K H a xs) : RC (rIsi K) [.ref a, .ty "int"] H (.bl false) := rc_isi (fun _ e => ty_lst (ex_l e h)) (by decide +kernel)
theorem is_tt {a : Addr} {xs : List V} (h : SqT K H a xs) : RC (rIsi K) [.ref a, .ty "tuple"] H (.bl true) := rc_isi (fun _ e => ty_tup (ex_t e h)) (by decide +kernel)
theorem is_tl {a : Addr} {xs : List V} (h : SqT K H a xs) : RC (rIsi K) [.ref a, .ty "list"] H (.bl false) := rc_isi (fun _ e => ty_tup (ex_t e h)) (by decide +kernel)
theorem is_ts {a : Addr} {xs : List V} (h : SqT K H a xs) : RC (rIsi K) [.ref a, .ty "str"] H (.bl false) := rc_isi (fun _ e => ty_tup (ex_t e h)) (by decide +kernel)
theorem is_nl : RC (rIsi K) [.non, .ty "list"] H (.bl false) := rc_isi (fun _ _ => .base .non) (by decide +kernel)
theorem is_ns : RC (rIsi K) [.non, .ty "str"] H (.bl false) := rc_isi (fun _ _ => .base .non) (by decide +kernel)
theorem is_ni : RC (rIsi K) [.non, .ty "int"] H (.bl false) := rc_isi (fun _ _ => .base .non) (by decide +kernel)
end
section
variable {σ : L2.St} {H : Hp} {te : TE} {t : TT} {v : V} {D : Ends} {tz : TS} {i : Nat}
/-- if c: x = e: the value that x has behind it -/
theorem sx_ifAsg {b : Bool} (h : EvT t σ H b) (h1 : b = true → Ev te σ H v) (h2 : b = false → σ.set i (some v) = σ) (k : Sx H tz D (σ.set i (some v))) : Sx H (tSeq (tIfS t (tAsg te (gName i)) tNext) tz) D σ :=
  sx_when h (fun hb => sx_asg1 (h1 hb) fun H1 e => k.at e) (fun hb => by have := k; rwa [h2 hb] at this)
end
section
variable {K : PySem.W.Frag} {σ : L2.St} {H : Hp} {z : V} {sp : Sp} {vs xs : List V} {E : XK} {ta : TA} {d : PyData}
theorem ev_call0 (h : EvA ta σ H vs) (hs : SpV sp vs H z) : Ev (tCall sp [] E ta) σ H z := ev_call h (by rw [List.append_nil]; exact hs)
theorem el_call0 (h : EvA ta σ H vs) (hs : SpL sp vs H xs) : EvL (tCall sp [] E ta) σ H xs := el_call h (by rw [List.append_nil]; exact hs)
theorem ed_call0 (h : EvA ta σ H vs) (hs : SpD K sp vs H d) : EvD K (tCall sp [] E ta) σ H d := ed_call h (by rw [List.append_nil]; exact hs)
end
section
variable {σ : L2.St} {H : Hp} {t u : TT} {a b : Bool}
/-! an or, an and, whose first test decides; and whose first does not -/
theorem et_ifT (h1 : EvT t σ H a) (h : a = true) : EvT (tOr t u) σ H true := by subst h; exact et_is (et_or (b := true) h1 fun q => nomatch q) rfl
theorem et_ifF (h1 : EvT t σ H a) (h : a = false) (h2 : EvT u σ H b) : EvT (tOr t u) σ H b := by subst h; exact et_is (et_or h1 fun _ => h2) (by simp)
theorem et_anT (h1 : EvT t σ H a) (h : a = true) (h2 : EvT u σ H b) : EvT (tAnd t u) σ H b := by subst h; exact et_is (et_and h1 fun _ => h2) (by simp)
theorem et_anF (h1 : EvT t σ H a) (h : a = false) : EvT (tAnd t u) σ H false := by subst h; exact et_is (et_and (b := false) h1 fun q => nomatch q) rfl
end
/-! ### a heap without the object at p: what does not lean on p stays when p is changed -/
def era (H : Hp) (p : Addr) : Hp := fun a => if a = p then none else H a
theorem era_ne {H : Hp} {p a : Addr} (h : a ≠ p) : era H p a = H a := by unfold era; rw [if_neg h]
theorem era_ex {H : Hp} {p : Addr} : Ex (era H p) H := fun a o h => by
  by_cases e : a = p
  · unfold era at h; rw [if_pos e] at h; cases h
  · rwa [era_ne e] at h
theorem era_mono {H H' : Hp} {p : Addr} (k : Ex H H') : Ex (era H p) (era H' p) := fun a o h => by
  by_cases e : a = p
  · unfold era at h; rw [if_pos e] at h; cases h
  · rw [era_ne e] at h ⊢; exact k a o h
theorem era_upd {H : Hp} {p : Addr} {o : HO} : era (upd H p o) p = era H p := by
  funext a
  by_cases e : a = p
  · unfold era; rw [if_pos e, if_pos e]
  · rw [era_ne e, era_ne e, upd_ne e]
theorem ex_era {H H' : Hp} {p : Addr} (k : Ex H H') (h : H p = none) : Ex H (era H' p) := fun a o e => by
  have ne : a ≠ p := fun q => by rw [q, h] at e; cases e
  rw [era_ne ne]; exact k a o e
/-! data without lists do not lean on a list -/
mutual
def noL : PyData → Bool
  | .list _ => false
  | .dict _ => false
  | .tuple ds => noLs ds
  | _ => true
def noLs : List PyData → Bool
  | [] => true
  | d :: ds => noL d && noLs ds
end
section
variable {K : PySem.W.Frag} {H : Hp} {l : Addr} {zs : List V}
theorem sqT_era (h : H l = some (.lst zs)) {t : Addr} {xs : List V} (k : SqT K H t xs) : SqT K (era H l) t xs := by
  rcases k with (k | ⟨o, k⟩) | k
  · exact .inl (.inl (by rw [era_ne (fun e => by rw [e, h] at k; cases k)]; exact k))
  · exact .inl (.inr ⟨o, by rw [era_ne (fun e => by rw [e, h] at k; cases k)]; exact k⟩)
  · exact .inr k
mutual
theorem dp_era (h : H l = some (.lst zs)) : ∀ {d : PyData} {v : V}, noL d = true → Dp K H v d → Dp K (era H l) v d
  | .none, _, _, k => by cases k; exact .non
  | .bool _, _, _, k => by cases k; exact .bl _
  | .int _, _, _, k => by cases k; exact .int _
  | .str _, _, _, k => by cases k; exact .str _
  | .list ds, _, n, k => by simp [noL] at n
  | .tuple ds, _, n, k => by cases k with | tup hs ha => exact .tup (sqT_era h hs) (dpa_era h (by simpa [noL] using n) ha)
  | .dict _, _, _, k => by cases k
theorem dpa_era (h : H l = some (.lst zs)) : ∀ {ds : List PyData} {vs : List V}, noLs ds = true → DpAll K H vs ds → DpAll K (era H l) vs ds
  | [], _, _, k => by cases k; exact .nil
  | d :: ds, _, n, k => by
    cases k with
    | cons h1 h2 =>
      have n' : noL d = true ∧ noLs ds = true := by simpa [noLs] using n
      exact .cons (dp_era h n'.1 h1) (dpa_era h n'.2 h2)
end
end
theorem noLs_all : ∀ {ds : List PyData}, (∀ d ∈ ds, noL d = true) → noLs ds = true
  | [], _ => rfl
  | d :: ds, h => by
    show (noL d && noLs ds) = true
    rw [h d (by simp), noLs_all fun x hx => h x (by simp [hx])]
    rfl
/-! ### a new list whose items' data are told -/
def EvDs (K : PySem.W.Frag) (te : TE) (σ : L2.St) (H : Hp) (ds : List PyData) : Prop := ∀ H1, Ex H H1 → ∀ Q : VK, (∀ p xs H2, H1 p = none → Ex H1 H2 → H2 p = some (.lst xs) → DpAll K H2 xs ds → Q (.ref p) H2) → te σ H1 Q
def RetDs (K : PySem.W.Frag) (ds : List PyData) (H : Hp) (Q : VK) : Prop := ∀ p xs H2, H p = none → Ex H H2 → H2 p = some (.lst xs) → DpAll K H2 xs ds → Q (.ref p) H2
def SpDs (K : PySem.W.Frag) (sp : Sp) (vs : List V) (H : Hp) (ds : List PyData) : Prop := ∀ H1, Ex H H1 → ∀ Q : VK, RetDs K ds H1 Q → ∀ E : XK, sp vs H1 Q E
section
variable {K : PySem.W.Frag} {σ : L2.St} {H H' : Hp} {te ta : TE} {D : Ends} {tz : TS} {i : Nat} {ds : List PyData} {sp : Sp} {vs : List V} {E : XK} {tb : TA}
theorem es_call0 (h : EvA tb σ H vs) (hs : SpDs K sp vs H ds) : EvDs K (tCall sp [] E tb) σ H ds := fun H1 e Q q =>
  h H1 e _ fun H2 e2 => by
    rw [List.append_nil]
    exact hs H2 (e.trans e2) Q (fun p xs H3 hp e3 h3 hd => q p xs H3 (fresh_back e2 hp) (e2.trans e3) h3 hd) E
theorem RetDs.go {Q : VK} (k : RetDs K ds H Q) (e : Ex H H') : RetDs K ds H' Q := fun p xs H2 hp e2 h2 hd => k p xs H2 (fresh_back e hp) (e.trans e2) h2 hd
theorem sx_asgDs (h : EvDs K te σ H ds) (k : ∀ p xs H1, H p = none → Ex H H1 → H1 p = some (.lst xs) → DpAll K H1 xs ds → Sx H1 tz D (σ.set i (some (.ref p)))) : Sx H (tSeq (tAsg te (gName i)) tz) D σ := fun H1 e =>
  h H1 e _ fun p xs H2 hp e2 h2 hd => k p xs H2 (fresh_back e hp) (e.trans e2) h2 hd H2 (Ex.refl H2)
/-- l.extend(a new list) -/
theorem sx_extDs1 {l : Addr} {xs : List V} (hl : H l = some (.lst xs)) (ha : Ev ta σ H (.ref l)) (h : EvDs K te σ H ds) (hz : xs.length + ds.length ≤ 100000)
    (k : ∀ p ys H1, H p = none → Ex H H1 → H1 p = some (.lst ys) → DpAll K H1 ys ds → D.nx σ (upd H1 l (.lst (xs ++ ys)))) :
    Sx H (tDrop (tBM K "list" rExtend ta (tCons te tNil))) D σ := fun H1 e => ha H1 e _ fun H2 e2 =>
  ⟨.inl ⟨rfl, xs, sq_of ((e.trans e2) l _ hl)⟩, h H2 (e.trans e2) _ fun p ys H3 hp e3 h3 hd => ⟨l, p, xs, ys, rfl, rfl, ((e.trans e2).trans e3) l _ hl, h3, sz_of (by rw [dpa_len hd]; exact hz), k p ys H3 (fresh_back (e.trans e2) hp) ((e.trans e2).trans e3) h3 hd⟩⟩
end
section
variable {K : PySem.W.Frag} {σ : L2.St} {H : Hp} {ta tb : TE} {a b : Addr} {x y u v : Int}
/-! pairs of whole numbers compared -/
theorem ev_lt2U (ha : Ev ta σ H (.ref a)) (hs : SqT K H a [.int x, .int y]) (hb : EvU tb σ H [.int u, .int v]) : Ev (tOp (rLtT K) ta tb) σ H (.bl (HT.lexLt [x, y] [u, v])) :=
  ev_opU ha hb fun p H1 hp e => rv_ltT (ns := [x, y]) (ms := [u, v]) (ex_t e hs) (st_of hp)
theorem rv_lt2 (h1 : SqT K H a [.int x, .int y]) (h2 : SqT K H b [.int u, .int v]) : RV (rLtT K) (.ref a) (.ref b) H (.bl (HT.lexLt [x, y] [u, v])) := rv_ltT (ns := [x, y]) (ms := [u, v]) h1 h2
theorem lex2 : HT.lexLt [x, y] [u, v] = decide (x < u ∨ (x = u ∧ y < v)) := by
  rw [HT.lexLt_cons]
  by_cases e : x = u
  · rw [if_pos e, HT.lexLt_cons]
    by_cases e2 : y = v
    · rw [if_pos e2, HT.lexLt_nil_nil]
      symm
      apply decide_eq_false
      omega
    · rw [if_neg e2]
      exact decide_eq_decide.mpr (by omega)
  · rw [if_neg e]
    exact decide_eq_decide.mpr (by omega)
end
section
variable {K : PySem.W.Frag} {σ : L2.St} {H : Hp} {ta tb te : TE} {tr : TA} {z v : V} {xs vs : List V} {i : Int} {sp : Sp} {E : XK} {f : Nat → V} {wi : TI}
/-- a new list's item -/
theorem ev_ixNL (ha : EvL ta σ H xs) (hb : Ev tb σ H (.int i)) (h : atI xs i = some z) : Ev (tOp (rIxL K) ta tb) σ H z := ev_opL1 ha (fun H1 e => hb.mono e) fun p H1 hp e => rv_ixL (sq_of hp) h
theorem at_two {x y : V} {c : Int} (h : c = 0 ∨ c = 1) : atI [x, y] c = some (if c = 0 then x else y) := by
  rcases h with rfl | rfl
  · rfl
  · rfl
/-- a call whose first argument is a new list -/
theorem ev_callL (ha : EvL ta σ H xs) (hr : EvA tr σ H vs) (hs : ∀ p H1, SqL K H1 p xs → Ex H H1 → SpV sp (.ref p :: vs) H1 z) : Ev (tCall sp [] E (tCons ta tr)) σ H z := fun H1 e Q q =>
  ha H1 e _ fun p H2 hp e2 h2 => hr H2 (e.trans e2) _ fun H3 e3 => by
    show sp ((.ref p :: vs) ++ []) H3 Q E
    rw [List.append_nil]
    exact hs p H3 (sq_of (e3 _ _ h2)) ((e.trans e2).trans e3) H3 (Ex.refl H3) Q (fun H4 e4 => q H4 ((e2.trans e3).trans e4)) E
theorem et_yes : EvT tYes σ H true := fun H1 _ _ q => q H1 (Ex.refl H1)
theorem given_all (n : Nat) : given n (fun _ => true) f = (List.range n).map f := by
  unfold given
  rw [List.filter_eq_self.mpr (by simp)]
/-- [e for x in xs], xs a list -/
theorem el_map {a : Addr} {tl : TE} {j : Nat} {ws : List Nat} {α : Type} {us : List α} {g h : α → V} (hl : Ev tl σ H (.ref a)) (hx : SqL K H a (us.map g)) (hz : us.length ≤ 40000) (hw : ∀ x, wipe ((wipe σ ws).set j (some x)) ws = wipe σ ws)
    (he : ∀ (u : α) H1, Ex H H1 → u ∈ us → Ev te ((wipe σ ws).set j (some (g u))) H1 (h u)) : EvL (tLc (iList K tl) (gName j) tYes te ws) σ H (us.map h) := by
  have k := el_lcL (K := K) (a := a) (xs := us.map g) (te := te) (t := tYes) (j := j) (vs := ws) (fun _ => true) (fun i => (us[i]?.map h).getD .non) hl hx (by simpa using hz) hw (fun _ _ _ _ _ => et_yes) fun i x H1 e hi _ => by
    rw [List.getElem?_map] at hi
    obtain ⟨u, hu, rfl⟩ := Option.map_eq_some_iff.mp hi
    rw [hu]
    exact he u H1 e (List.mem_of_getElem? hu)
  rw [given_all] at k
  have e : (List.range (us.map g).length).map (fun i => (us[i]?.map h).getD .non) = us.map h := by
    apply List.ext_getElem?
    intro i
    rw [List.getElem?_map, List.getElem?_map]
    by_cases hi : i < us.length
    · rw [List.getElem?_range (by simpa using hi), List.getElem?_eq_getElem hi]
      simp [List.getElem?_eq_getElem hi]
    · rw [List.getElem?_eq_none (by simpa using hi), List.getElem?_eq_none (by omega)]
      rfl
  rw [e] at k
  exact k
end
/-! equal texts in a list -/
theorem shaped_strs {xs : List Str} (h : ∀ s ∈ xs, PyData.strOk s = true) : SeqAt.shaped (.list (xs.map PyData.str)) = true := by
  have h1 : ∀ xs : List Str, (∀ s ∈ xs, PyData.strOk s = true) → PyData.canLayAll0 (xs.map PyData.str) = true := by
    intro xs
    induction xs with
    | nil => intro _; rfl
    | cons x xs ih =>
      intro h
      show (PyData.strOk x && PyData.canLayAll0 (xs.map PyData.str)) = true
      rw [h x (by simp), ih fun s hs => h s (by simp [hs])]
      rfl
  have h2 : ∀ xs : List Str, PyData.depthAll (xs.map PyData.str) = 0 := by
    intro xs
    induction xs with
    | nil => rfl
    | cons x xs ih =>
      show max 0 (PyData.depthAll (xs.map PyData.str)) = 0
      rw [ih]
      rfl
  unfold SeqAt.shaped
  rw [Bool.and_eq_true]
  refine ⟨h1 xs h, decide_eq_true ?_⟩
  show PyData.depthAll (xs.map PyData.str) + 1 ≤ 64
  rw [h2]
  decide
theorem eqv_same {d : PyData} (h : SeqAt.shaped d = true) : PyData.eqv d d = true := SeqAt.eqv_refl d (SeqAt.canLay_of_shaped h)
section
variable {σ : L2.St} {H : Hp} {to te : TE} {r : V → List V → Hp → VK → Prop} {s : Str} {v z : V}
theorem ev_m1 (ho : Ev to σ H (.str s)) (he : Ev te σ H v) (hr : RC (r (.str s)) [v] H z) : Ev (tM1 r to te) σ H z := fun H1 e Q q =>
  ho H1 e _ fun H2 e2 => ⟨⟨s, rfl⟩, he H2 (e.trans e2) _ fun H3 e3 => hr H3 ((e.trans e2).trans e3) Q fun H4 e4 => q H4 ((e2.trans e3).trans e4)⟩
theorem ev_m0 (ho : Ev to σ H (.str s)) (hr : RC (r (.str s)) [] H z) : Ev (tM0 r to) σ H z := fun H1 e Q q =>
  ho H1 e _ fun H2 e2 => ⟨⟨s, rfl⟩, hr H2 (e.trans e2) Q fun H4 e4 => q H4 (e2.trans e4)⟩
end
theorem at_twoI {x y c : Int} (h : c = 0 ∨ c = 1) : atI [V.int x, V.int y] c = some (.int (if c = 0 then x else y)) := by
  rcases h with rfl | rfl
  · rfl
  · rfl
end Xb

/-! the reading of expressions, by rules (key "ev"); what is left is shown by hand -/
local macro_rules | `(tactic| walk_at "ev") => `(tactic| first
  | ((with_reducible apply Evl.ev_var) <;> (exact rfl))
  | (with_reducible exact Evl.ev_c)
  | ((with_reducible apply Evl.ev_inU) <;> (try walk_at "ev"))
  | ((with_reducible apply Evl.ev_niU) <;> (try walk_at "ev"))
  | ((with_reducible apply Xb.ev_lt2U) <;> (try walk_at "ev"))
  | ((with_reducible apply Evl.ev_op) <;> (try walk_at "ev"))
  | ((with_reducible apply Evl.ev_un) <;> (try walk_at "ev"))
  | ((with_reducible apply Xb.ev_call0) <;> (try walk_at "ev"))
  | ((with_reducible apply Evl.ev_cb) <;> (try walk_at "ev"))
  | ((with_reducible apply Xb.ev_andV2) <;> (try walk_at "ev"))
  | ((with_reducible apply Xb.ev_orV2) <;> (try walk_at "ev"))
  | ((with_reducible apply Evl.ev_notV) <;> (try walk_at "ev"))
  | ((with_reducible apply Xb.ev_bmS) <;> (try walk_at "ev"))
  | ((with_reducible apply Xb.ev_m1) <;> (try walk_at "ev"))
  | ((with_reducible apply Xb.ev_m0) <;> (try walk_at "ev"))
  | ((with_reducible apply Xb.ev_slS) <;> (try walk_at "ev"))
  | ((with_reducible apply Xb.ev_chain2) <;> (try walk_at "ev"))
  | ((with_reducible apply Evl.et_test) <;> (try walk_at "ev"))
  | ((with_reducible apply Evl.et_B) <;> (try walk_at "ev"))
  | ((with_reducible apply Xb.et_and2) <;> (try walk_at "ev"))
  | ((with_reducible apply Xb.et_or2) <;> (try walk_at "ev"))
  | ((with_reducible apply Evl.et_not) <;> (try walk_at "ev"))
  | ((with_reducible apply Evl.ea_cons) <;> (try walk_at "ev"))
  | (with_reducible exact Evl.ea_nil)
  | (with_reducible exact Evl.eo_none)
  | ((with_reducible apply Evl.eo_some) <;> (try walk_at "ev"))
  | ((with_reducible apply Evl.el_lst) <;> (try walk_at "ev"))
  | ((with_reducible apply Evl.eu_tup) <;> (try walk_at "ev"))
  | ((with_reducible apply Xb.es_call0) <;> (try walk_at "ev"))
  | ((with_reducible apply Xb.ed_call0) <;> (try walk_at "ev"))
  | ((with_reducible apply Evl.el_cb) <;> (try walk_at "ev"))
  | ((with_reducible apply Xb.el_call0) <;> (try walk_at "ev"))
  | (with_reducible exact Evl.rv_I0)
  | ((with_reducible apply Evl.rv_I) <;> (try walk_at "sd"))
  | (with_reducible exact Xb.rv_eqI)
  | (with_reducible exact Xb.rv_neI)
  | (with_reducible exact Xb.rv_eqS)
  | (with_reducible exact Xb.rv_neS)
  | (with_reducible exact Xb.rv_eqB)
  | ((with_reducible apply Xb.rv_lt2) <;> (try walk_at "sd"))
  | ((with_reducible apply Xb.rv_eqD) <;> (try walk_at "sd"))
  | ((with_reducible apply Xb.rv_neD) <;> (try walk_at "sd"))
  | (with_reducible exact Evl.ru_neg)
  | ((with_reducible apply Xb.rv_adds) <;> (try walk_at "sd"))
  | ((with_reducible apply Evl.rv_ixL) <;> (try walk_at "sd"))
  | ((with_reducible apply Evl.rv_ixT) <;> (try walk_at "sd"))
  | ((with_reducible apply Evl.rv_ixS) <;> (try walk_at "sd"))
  | ((with_reducible apply Xb.rc_lenL) <;> (walk_at "sd"))
  | ((with_reducible apply Xb.rc_lenT) <;> (walk_at "sd"))
  | ((with_reducible apply Xb.rc_lenS) <;> (try walk_at "sd"))
  | (with_reducible exact Xb.rc_abs)
  | (with_reducible exact Xb.rc_min2)
  | (with_reducible exact Xb.rc_max2)
  | ((with_reducible apply Xb.rc_sum) <;> (try walk_at "sd"))
  | (with_reducible exact Xb.rc_count)
  | ((with_reducible apply Xb.rcl_list) <;> (try walk_at "sd"))
  | (with_reducible exact Xb.is_ii)
  | (with_reducible exact Xb.is_ib)
  | (with_reducible exact Xb.is_bb)
  | (with_reducible exact Xb.is_ss)
  | (with_reducible exact Xb.is_is)
  | (with_reducible exact Xb.is_il)
  | (with_reducible exact Xb.is_bi)
  | (with_reducible exact Xb.is_bs)
  | (with_reducible exact Xb.is_si)
  | (with_reducible exact Xb.is_sb)
  | (with_reducible exact Xb.is_sl)
  | (with_reducible exact Xb.is_nl)
  | (with_reducible exact Xb.is_ns)
  | (with_reducible exact Xb.is_ni)
  | ((with_reducible apply Xb.is_ll) <;> (walk_at "sd"))
  | ((with_reducible apply Xb.is_ls) <;> (walk_at "sd"))
  | ((with_reducible apply Xb.is_li) <;> (walk_at "sd"))
  | ((with_reducible apply Xb.is_tt) <;> (walk_at "sd"))
  | ((with_reducible apply Xb.is_tl) <;> (walk_at "sd"))
  | ((with_reducible apply Xb.is_ts) <;> (walk_at "sd"))
  | ((with_reducible change Xb.Imp _ _); intro _; walk_at "ev")
  | walk_at "sd")
/-! side conditions -/
local macro_rules | `(tactic| walk_at "sd") => `(tactic| (show (_ : Prop); first
  | assumption
  | (exact ⟨by decide, by decide⟩)
  | (exact Or.inr ⟨by decide, by decide⟩)
  | (exact Or.inr ⟨by omega, by omega⟩)
  | decide
  | omega
  | (show List.length (_ :: _) ≤ 100000; simp; done)
  | (exact rfl)))
/-! a statement, its expression read -/
local macro_rules | `(tactic| walk_at "asg") => `(tactic| (apply Xb.sx_asg; focus (walk_at "ev")))
local macro_rules | `(tactic| walk_at "when") => `(tactic| (apply Xb.sx_when; focus (walk_at "ev")))
local macro_rules | `(tactic| walk_at "if") => `(tactic| (apply Xb.sx_if; focus (walk_at "ev")))
local macro_rules | `(tactic| walk_at "if1") => `(tactic| (apply Xb.sx_if1; focus (walk_at "ev")))
local macro_rules | `(tactic| walk_at "ret") => `(tactic| (apply Xb.sx_ret; focus (walk_at "ev")))
/-! a body's reading: its context's names made plain -/
local macro_rules | `(tactic| walk_at "skip") => `(tactic| (apply Xb.sx_skip; apply Evl.et_is; focus (walk_at "ev")))
local macro_rules | `(tactic| walk_at "go") => `(tactic| (apply Xb.Sx.go; (try dsimp only [L2.cxOf, L2.Cx.nox, L2.Cx.wish, L2.start])))
namespace Lw
open PySem PySem.Spec PyProof.Rows L2 Evl Xb
/-! the text by places, the names' places, what the top has written -/
def topS (i : Nat) : Stmt := PySem.Challenge.pw_seatplan_k01_blocks.main.body.getD i (.Pass ⟨0, 0, 0, 0⟩)
abbrev s_need_hall : Stmt := topS 8
theorem sc_need_hall : FnScope ["rows", "signs"] ["rows"] (defScope s_need_hall) := ⟨rfl, rfl, rfl, by decide +kernel, rfl, by decide +kernel, by decide +kernel⟩
abbrev s_need_row : Stmt := topS 9
theorem sc_need_row : FnScope ["signs", "sign"] ["signs"] (defScope s_need_row) := ⟨rfl, rfl, rfl, by decide +kernel, rfl, by decide +kernel, by decide +kernel⟩
abbrev s_blocks_of : Stmt := topS 10
theorem sc_blocks_of : FnScope ["rows", "blocks", "row", "signs"] ["rows"] (defScope s_blocks_of) := ⟨rfl, rfl, rfl, by decide +kernel, rfl, by decide +kernel, by decide +kernel⟩
abbrev s_blocks_of_row : Stmt := topS 11
theorem sc_blocks_of_row : FnScope ["row", "signs", "blocks", "many", "place", "sign"] ["row", "signs"] (defScope s_blocks_of_row) := ⟨rfl, rfl, rfl, by decide +kernel, rfl, by decide +kernel, by decide +kernel⟩
abbrev s_is_seat : Stmt := topS 12
theorem sc_is_seat : FnScope ["rows", "row", "place"] ["rows", "row", "place"] (defScope s_is_seat) := ⟨rfl, rfl, rfl, by decide +kernel, rfl, by decide +kernel, by decide +kernel⟩
abbrev s_law_cell_at : Stmt := topS 14
theorem sc_law_cell_at : FnScope ["_law_script", "_law_k"] ["_law_script", "_law_k"] (defScope s_law_cell_at) := ⟨rfl, rfl, rfl, by decide +kernel, rfl, by decide +kernel, by decide +kernel⟩
abbrev s_law_whole : Stmt := topS 15
theorem sc_law_whole : FnScope ["_law_found"] ["_law_found"] (defScope s_law_whole) := ⟨rfl, rfl, rfl, by decide +kernel, rfl, by decide +kernel, by decide +kernel⟩
abbrev s_law_row_by : Stmt := topS 16
theorem sc_law_row_by : FnScope ["_law_n", "_law_many", "_law_gap", "_law_signs", "_law_place"] ["_law_n"] (defScope s_law_row_by) := ⟨rfl, rfl, rfl, by decide +kernel, rfl, by decide +kernel, by decide +kernel⟩
abbrev s_law_hall_by : Stmt := topS 17
theorem sc_law_hall_by : FnScope ["_law_script", "_law_k", "_law_many", "_law_rows", "_law_j", "_law_n"] ["_law_script", "_law_k"] (defScope s_law_hall_by) := ⟨rfl, rfl, rfl, by decide +kernel, rfl, by decide +kernel, by decide +kernel⟩
abbrev s_law_seat : Stmt := topS 18
theorem sc_law_seat : FnScope ["_law_rows", "_law_row", "_law_place"] ["_law_rows", "_law_row", "_law_place"] (defScope s_law_seat) := ⟨rfl, rfl, rfl, by decide +kernel, rfl, by decide +kernel, by decide +kernel⟩
abbrev s_law_block : Stmt := topS 19
theorem sc_law_block : FnScope ["_law_rows", "_law_block_here", "_law_ahead", "_law_place"] ["_law_rows", "_law_block_here", "_law_ahead"] (defScope s_law_block) := ⟨rfl, rfl, rfl, by decide +kernel, rfl, by decide +kernel, by decide +kernel⟩
abbrev s_law : Stmt := topS 20
theorem sc_law : FnScope ["_law_script", "_law_rows", "_law_handed", "_law_good", "_law_found", "_law_ahead", "_law_left", "_law_block_here", "_law_far", "_law_row", "_law_place", "_law_told", "_law_line"] ["_law_script"] (defScope s_law) := ⟨rfl, rfl, rfl, by decide +kernel, rfl, by decide +kernel, by decide +kernel⟩
structure Top (K : PySem.W.Frag) (mg : Str → Option Value) where
  a_need_hall : Addr
  f_need_hall : FuncData
  F_need_hall : Fun K "need_hall" "need_hall" s_need_hall a_need_hall f_need_hall
  b_need_hall : Binds K f_need_hall ["rows"] []
  g_need_hall : mg "need_hall" = some (.ref a_need_hall)
  a_need_row : Addr
  f_need_row : FuncData
  F_need_row : Fun K "need_row" "need_row" s_need_row a_need_row f_need_row
  b_need_row : Binds K f_need_row ["signs"] []
  g_need_row : mg "need_row" = some (.ref a_need_row)
  a_blocks_of : Addr
  f_blocks_of : FuncData
  F_blocks_of : Fun K "blocks_of" "blocks_of" s_blocks_of a_blocks_of f_blocks_of
  b_blocks_of : Binds K f_blocks_of ["rows"] []
  g_blocks_of : mg "blocks_of" = some (.ref a_blocks_of)
  a_blocks_of_row : Addr
  f_blocks_of_row : FuncData
  F_blocks_of_row : Fun K "blocks_of_row" "blocks_of_row" s_blocks_of_row a_blocks_of_row f_blocks_of_row
  b_blocks_of_row : Binds K f_blocks_of_row ["row", "signs"] []
  g_blocks_of_row : mg "blocks_of_row" = some (.ref a_blocks_of_row)
  a_is_seat : Addr
  f_is_seat : FuncData
  F_is_seat : Fun K "is_seat" "is_seat" s_is_seat a_is_seat f_is_seat
  b_is_seat : Binds K f_is_seat ["rows", "row", "place"] []
  g_is_seat : mg "is_seat" = some (.ref a_is_seat)
  a_law_cell_at : Addr
  f_law_cell_at : FuncData
  F_law_cell_at : Fun K "_law_cell_at" "_law_cell_at" s_law_cell_at a_law_cell_at f_law_cell_at
  b_law_cell_at : Binds K f_law_cell_at ["_law_script", "_law_k"] []
  g_law_cell_at : mg "_law_cell_at" = some (.ref a_law_cell_at)
  a_law_whole : Addr
  f_law_whole : FuncData
  F_law_whole : Fun K "_law_whole" "_law_whole" s_law_whole a_law_whole f_law_whole
  b_law_whole : Binds K f_law_whole ["_law_found"] []
  g_law_whole : mg "_law_whole" = some (.ref a_law_whole)
  a_law_row_by : Addr
  f_law_row_by : FuncData
  F_law_row_by : Fun K "_law_row_by" "_law_row_by" s_law_row_by a_law_row_by f_law_row_by
  b_law_row_by : Binds K f_law_row_by ["_law_n"] []
  g_law_row_by : mg "_law_row_by" = some (.ref a_law_row_by)
  a_law_hall_by : Addr
  f_law_hall_by : FuncData
  F_law_hall_by : Fun K "_law_hall_by" "_law_hall_by" s_law_hall_by a_law_hall_by f_law_hall_by
  b_law_hall_by : Binds K f_law_hall_by ["_law_script", "_law_k"] []
  g_law_hall_by : mg "_law_hall_by" = some (.ref a_law_hall_by)
  a_law_seat : Addr
  f_law_seat : FuncData
  F_law_seat : Fun K "_law_seat" "_law_seat" s_law_seat a_law_seat f_law_seat
  b_law_seat : Binds K f_law_seat ["_law_rows", "_law_row", "_law_place"] []
  g_law_seat : mg "_law_seat" = some (.ref a_law_seat)
  a_law_block : Addr
  f_law_block : FuncData
  F_law_block : Fun K "_law_block" "_law_block" s_law_block a_law_block f_law_block
  b_law_block : Binds K f_law_block ["_law_rows", "_law_block_here", "_law_ahead"] []
  g_law_block : mg "_law_block" = some (.ref a_law_block)
  a_law : Addr
  f_law : FuncData
  F_law : Fun K "law" "law" s_law a_law f_law
  b_law : Binds K f_law ["_law_script"] []
  g_law : mg "law" = some (.ref a_law)
  m_abs : mg "abs" = none
  m_bool : mg "bool" = none
  m_enumerate : mg "enumerate" = none
  m_int : mg "int" = none
  m_isinstance : mg "isinstance" = none
  m_len : mg "len" = none
  m_list : mg "list" = none
  m_range : mg "range" = none
  m_str : mg "str" = none
  m_sum : mg "sum" = none
  m_tuple : mg "tuple" = none
  u_GAP : Value
  h_GAP : mg "GAP" = some u_GAP
  r_GAP : RelV (.str ".") u_GAP
  u_MOST_PLACES : Value
  h_MOST_PLACES : mg "MOST_PLACES" = some u_MOST_PLACES
  r_MOST_PLACES : RelV (.int 60) u_MOST_PLACES
  u_MOST_ROWS : Value
  h_MOST_ROWS : mg "MOST_ROWS" = some u_MOST_ROWS
  r_MOST_ROWS : RelV (.int 40) u_MOST_ROWS
  u_SEAT : Value
  h_SEAT : mg "SEAT" = some u_SEAT
  r_SEAT : RelV (.str "o") u_SEAT
/-! ### texts as lists of codes -/
def sOf (l : List Nat) : Str := ⟨l.toArray⟩
theorem sOf_len (l : List Nat) : (sOf l).length = l.length := by show l.toArray.size = _; simp
theorem sOf_app (l m : List Nat) : sOf l ++ sOf m = sOf (l ++ m) := by
  show Str.mk (l.toArray ++ m.toArray) = Str.mk (l ++ m).toArray
  simp
theorem sOf_nil : ("" : Str) = sOf [] := by decide +kernel
theorem sOf_o : ("o" : Str) = sOf [111] := by decide +kernel
theorem sOf_dot : ("." : Str) = sOf [46] := by decide +kernel
theorem sOf_cps (l : List Nat) : (sOf l).cps.toList = l := by simp [sOf]
theorem sOf_inj {l m : List Nat} : sOf l = sOf m ↔ l = m := by
  constructor
  · intro h
    have := congrArg (fun s : Str => s.cps.toList) h
    simpa [sOf] using this
  · intro h; rw [h]
theorem of_sOf (s : Str) : sOf s.cps.toList = s := by cases s; simp [sOf]
theorem cut_len (s : Str) (lo hi : Option Int) : (cutS s lo hi).length ≤ s.length := by
  show (((s.cps.toList.drop _).take _).toArray).size ≤ s.cps.size
  simp
  omega
theorem cut_mem (s : Str) (lo hi : Option Int) : ∀ c ∈ (cutS s lo hi).cps.toList, c ∈ s.cps.toList := by
  intro c hc
  have h : c ∈ (s.cps.toList.drop (HT.sIx s.length 0 lo)).take (HT.sIx s.length s.length hi - HT.sIx s.length 0 lo) := by
    have : (cutS s lo hi).cps.toList = (s.cps.toList.drop (HT.sIx s.length 0 lo)).take (HT.sIx s.length s.length hi - HT.sIx s.length 0 lo) := by
      unfold cutS; rfl
    rwa [this] at hc
  exact List.mem_of_mem_drop (List.mem_of_mem_take h)

/-! ### the k-th number of the script, or nought -/
def cellAt (ns : List Int) (k : Int) : Int := if k < (ns.length : Int) then ns.getD k.toNat 0 else 0
def sp_law_cell_at (K : PySem.W.Frag) : Sp := fun vs H Q _ => ∃ (a : Addr) (ns : List Int) (k : Int), vs = [.ref a, .int k] ∧ SqL K H a (ns.map V.int) ∧ 0 ≤ k ∧ RetV (.int (cellAt ns k)) H Q
theorem spv_law_cell_at {K : PySem.W.Frag} {H : Hp} {a : Addr} {ns : List Int} {k : Int} (h : SqL K H a (ns.map V.int)) (hk : 0 ≤ k) : SpV (sp_law_cell_at K) [.ref a, .int k] H (.int (cellAt ns k)) :=
  fun H1 e Q q E => ⟨a, ns, k, rfl, ex_l e h, hk, fun H2 e2 => q H2 e2⟩
theorem ok_law_cell_at {P : Program} {w : World} {K : PySem.W.Frag} {mg : Str → Option Value} {base : Heap} (T : Top K mg) : FnOk P w K mg base CX0 1 T.a_law_cell_at T.f_law_cell_at ["_law_script", "_law_k"] (sp_law_cell_at K) := by
  refine T.F_law_cell_at.ok sc_law_cell_at (fun vs H Q E h => ?_) (fun cdv A outer s H vs Q E hr h => ?_)
  · obtain ⟨a, ns, k, rfl, _⟩ := h; rfl
  · obtain ⟨a, ns, k, rfl, hS, hk, q⟩ := h
    refine ⟨_, (pss_cons (ps_if (pt_cmpR op_lt (pv 1) (pe_callB call_len_seq (by rfl) T.m_len PySem.boot_len (pa_cons (pv 0) pa_nil)) (nomark _))
  (pss_one (ps_ret (pe_ix ix_list (pv 0) (pv 1) (fun _ _ => rfl))))
  pss_nil)
  (pss_one (ps_ret pe_int))), ?_⟩
    walk_at "go"
    walk_at "when" <;> intro hb
    · have hb' : k < (ns.length : Int) := by simpa using hb
      have hg : ns[k.toNat]? = some (ns.getD k.toNat 0) := by rw [List.getD_eq_getElem?_getD, List.getElem?_eq_getElem (by omega)]; rfl
      refine sx_ret (v := .int (ns.getD k.toNat 0)) ?_ fun H1 e => ?_
      · refine ev_op (ev_var rfl) (ev_var rfl) (rv_ixL hS (at_map hk hg))
      · have := q H1 e
        rwa [cellAt, if_pos hb'] at this
    · have hb' : ¬ k < (ns.length : Int) := by simpa using hb
      walk_at "ret"
      intro H1 e
      have := q H1 e
      rwa [cellAt, if_neg hb'] at this
local macro_rules | `(tactic| walk_at "ev") => `(tactic| ((with_reducible apply spv_law_cell_at) <;> (try walk_at "sd")))

/-! ### a whole number -/
def sp_law_whole (K : PySem.W.Frag) : Sp := fun vs H Q _ => ∃ i : Int, vs = [.int i] ∧ RetV (.bl true) H Q
theorem spv_law_whole {K : PySem.W.Frag} {H : Hp} {i : Int} : SpV (sp_law_whole K) [.int i] H (.bl true) := fun H1 e Q q E => ⟨i, rfl, fun H2 e2 => q H2 e2⟩
theorem ok_law_whole {P : Program} {w : World} {K : PySem.W.Frag} {mg : Str → Option Value} {base : Heap} (T : Top K mg) : FnOk P w K mg base CX0 1 T.a_law_whole T.f_law_whole ["_law_found"] (sp_law_whole K) := by
  refine T.F_law_whole.ok sc_law_whole (fun vs H Q E h => ?_) (fun cdv A outer s H vs Q E hr h => ?_)
  · obtain ⟨i, rfl, _⟩ := h; rfl
  · obtain ⟨i, rfl, q⟩ := h
    refine ⟨_, (pss_one (ps_ret (pe_and (pe_callB call_isi (by rfl) T.m_isinstance PyProof.Rows.boot_isinstance (pa_cons (pv 0) (pa_cons (pe_bltn (v := .ty "int") (by rfl) T.m_int PyProof.Rows.boot_int rfl) pa_nil))) (pe_one (pe_not (pe_callB call_isi (by rfl) T.m_isinstance PyProof.Rows.boot_isinstance (pa_cons (pv 0) (pa_cons (pe_bltn (v := .ty "bool") (by rfl) T.m_bool PyProof.Rows.boot_bool rfl) pa_nil)))))))), ?_⟩
    walk_at "go"
    walk_at "ret"
    exact fun H1 e => q H1 e
local macro_rules | `(tactic| walk_at "ev") => `(tactic| ((with_reducible apply spv_law_whole) <;> (try walk_at "sd")))

/-! ### a row by a number -/
def rowN (n0 : Int) : Int := n0 * 48271 % 2147483647
def rowMany (n : Int) : Int := if n / 12 % 9 = 1 then 60 - n / 108 % 3 else n % 12
def rowSign (n : Int) (p : Nat) : Nat := if (n / 15876 % 3 > 0 ∧ ((p : Int) + n / 2268) % (2 + n / 324 % 7) = 0) ∨ (p : Int) * (p : Int) % 11 = n / 47628 % 13 then 46 else 111
def rowUpTo (n : Int) (i : Nat) : Str := sOf ((List.range i).map (rowSign n))
def rowBy (n0 : Int) : Str := rowUpTo (rowN n0) (rowMany (rowN n0)).toNat
theorem rowMany_le (n : Int) : 0 ≤ rowMany n ∧ rowMany n ≤ 60 := by unfold rowMany; split <;> omega
theorem rowUpTo_len (n : Int) (i : Nat) : (rowUpTo n i).length = i := by rw [rowUpTo, sOf_len]; simp
theorem rowUpTo_succ (n : Int) (i : Nat) : rowUpTo n (i + 1) = rowUpTo n i ++ sOf [rowSign n i] := by
  rw [rowUpTo, rowUpTo, sOf_app, List.range_succ, List.map_append]; rfl
theorem rowBy_len (n : Int) : (rowBy n).length ≤ 60 := by
  rw [rowBy, rowUpTo_len]; have := rowMany_le (rowN n); omega
/-- a row of a hall: at most sixty signs, seats and gaps -/
def GoodRow (s : Str) : Prop := s.length ≤ 60 ∧ ∀ c ∈ s.cps.toList, c = 111 ∨ c = 46
theorem rowBy_good (n : Int) : GoodRow (rowBy n) := by
  refine ⟨rowBy_len n, fun c hc => ?_⟩
  rw [rowBy, rowUpTo, sOf_cps] at hc
  obtain ⟨p, _, rfl⟩ := List.mem_map.mp hc
  unfold rowSign
  split
  · exact .inr rfl
  · exact .inl rfl
def sp_law_row_by : Sp := fun vs H Q _ => ∃ n : Int, vs = [.int n] ∧ RetV (.str (rowBy n)) H Q
theorem spv_law_row_by {H : Hp} {n : Int} : SpV sp_law_row_by [.int n] H (.str (rowBy n)) := fun H1 e Q q E => ⟨n, rfl, fun H2 e2 => q H2 e2⟩
theorem ok_law_row_by {P : Program} {w : World} {K : PySem.W.Frag} {mg : Str → Option Value} {base : Heap} (T : Top K mg) : FnOk P w K mg base CX0 1 T.a_law_row_by T.f_law_row_by ["_law_n"] sp_law_row_by := by
  refine T.F_law_row_by.ok sc_law_row_by (fun vs H Q E h => ?_) (fun cdv A outer s H vs Q E hr h => ?_)
  · obtain ⟨n, rfl, _⟩ := h; rfl
  · obtain ⟨n0, rfl, q⟩ := h
    refine ⟨_, (pss_cons (ps_set (i := 0) sc_law_row_by.nd rfl (Or.inl rfl) (pe_op op_mod (pe_op op_mul (pv 0) pe_int) pe_int))
  (pss_cons (ps_set (i := 1) sc_law_row_by.nd rfl (Or.inl rfl) (pe_op op_mod (pv 0) pe_int))
  (pss_cons (ps_if (pt_cmpR op_eq (pe_op op_mod (pe_op op_fdiv (pv 0) pe_int) pe_int) pe_int (nomark _))
  (pss_one (ps_set (i := 1) sc_law_row_by.nd rfl (Or.inl rfl) (pe_op op_sub pe_int (pe_op op_mod (pe_op op_fdiv (pv 0) pe_int) pe_int))))
  pss_nil)
  (pss_cons (ps_set (i := 2) sc_law_row_by.nd rfl (Or.inl rfl) (pe_op op_add pe_int (pe_op op_mod (pe_op op_fdiv (pv 0) pe_int) pe_int)))
  (pss_cons (ps_set (i := 3) sc_law_row_by.nd rfl (Or.inl rfl) pe_str)
  (pss_cons (ps_for PassesOwn.never rfl (pi_range1 (by rfl) T.m_range (pa_cons (pv 1) pa_nil)) (pg_name (i := 4) sc_law_row_by.nd rfl (Or.inl rfl))
  (pss_one (ps_if (PW.pt (pw_or (PW.pt (pw_and (pt_cmpR op_gt (pe_op op_mod (pe_op op_fdiv (pv 0) pe_int) pe_int) pe_int (nomark _)) (pw_and1 (pt_cmpR op_eq (pe_op op_mod (pe_op op_add (pv 4) (pe_op op_fdiv (pv 0) pe_int)) (pv 2)) pe_int (nomark _))))) (pw_or1 (pt_cmpR op_eq (pe_op op_mod (pe_op op_mul (pv 4) (pv 4)) pe_int) (pe_op op_mod (pe_op op_fdiv (pv 0) pe_int) pe_int) (nomark _)))))
  (pss_one (ps_set (i := 3) sc_law_row_by.nd rfl (Or.inl rfl) (pe_op op_add_str (pv 3) pe_str)))
  (pss_one (ps_set (i := 3) sc_law_row_by.nd rfl (Or.inl rfl) (pe_op op_add_str (pv 3) pe_str))))))
  (pss_one (ps_ret (pv 3))))))))), ?_⟩
    walk_at "go"
    walk_at "asg"
    walk_at "asg"
    have hn : ∃ n, n = n0 * 48271 % 2147483647 := ⟨_, rfl⟩
    obtain ⟨n, hn⟩ := hn
    rw [← hn]
    have e0 : rowN n0 = n := hn.symm
    have hn0 : 0 ≤ n := by omega
    -- many
    apply Xb.sx_ifAsg (v := .int (rowMany n))
    · walk_at "ev"
    · intro hb
      have hb' : n / 12 % 9 = 1 := by simpa using hb
      have e : rowMany n = 60 - n / 108 % 3 := by unfold rowMany; rw [if_pos hb']
      rw [e]
      walk_at "ev"
    · intro hb
      have hb' : ¬ n / 12 % 9 = 1 := by simpa using hb
      have e : rowMany n = n % 12 := by unfold rowMany; rw [if_neg hb']
      rw [e]
      rfl
    have hm := rowMany_le n
    walk_at "asg"
    walk_at "asg"
    apply Xb.sx_forR1
    · walk_at "ev"
    · omega
    case Pv => exact fun i σ H' => Ex H H' ∧ ∃ x, σ = [some (.int n), some (.int (rowMany n)), some (.int (2 + n / 324 % 7)), some (.str (rowUpTo n i)), x]
    · intro H1 e
      refine ⟨e, none, ?_⟩
      rw [show rowUpTo n 0 = ("" : Str) by rw [sOf_nil]; rfl]
      rfl
    · rintro i σ' H' hi ⟨e, x, rfl⟩
      have hl : (rowUpTo n i).length = i := rowUpTo_len n i
      have h1 : ("." : Str).length = 1 := by decide +kernel
      have h2 : ("o" : Str).length = 1 := by decide +kernel
      apply Xb.sx_if1
      · walk_at "ev"
      · intro hb
        have hs : rowSign n i = 46 := by
          unfold rowSign
          rw [if_pos]
          simpa using hb
        apply Xb.sx_asg1
        · walk_at "ev"
        · intro H1 e1
          refine ⟨e.trans e1, some (.int (i : Int)), ?_⟩
          rw [rowUpTo_succ, hs, ← sOf_dot]
          rfl
      · intro hb
        have hs : rowSign n i = 111 := by
          unfold rowSign
          rw [if_neg]
          simpa using hb
        apply Xb.sx_asg1
        · walk_at "ev"
        · intro H1 e1
          refine ⟨e.trans e1, some (.int (i : Int)), ?_⟩
          rw [rowUpTo_succ, hs, ← sOf_o]
          rfl
    · rintro σ' H' ⟨e, x, rfl⟩
      walk_at "ret"
      intro H1 e1
      have := q H1 (e.trans e1)
      rwa [rowBy, e0] at this
local macro_rules | `(tactic| walk_at "ev") => `(tactic| ((with_reducible apply spv_law_row_by) <;> (try walk_at "sd")))

/-! ### a hall by a script -/
def hallMany (ns : List Int) (k : Int) : Int := if cellAt ns k / 5 % 11 = 1 then 40 else 1 + cellAt ns k % 5
def hallN (ns : List Int) (k : Int) (j : Nat) : Int := cellAt ns (k + 1 + (j : Int) % 3) + 7919 * ((j : Int) / 3)
def hallRow (ns : List Int) (k : Int) (j : Nat) : Str := if hallMany ns k = 40 then cutS (rowBy (hallN ns k j)) none (some 11) else rowBy (hallN ns k j)
def hallBy (ns : List Int) (k : Int) : List Str := (List.range (hallMany ns k).toNat).map (hallRow ns k)
theorem hallMany_le (ns : List Int) (k : Int) : 1 ≤ hallMany ns k ∧ hallMany ns k ≤ 40 := by unfold hallMany; split <;> omega
/-- a hall: one to forty good rows -/
def GoodHall (rows : List Str) : Prop := 1 ≤ rows.length ∧ rows.length ≤ 40 ∧ ∀ r ∈ rows, GoodRow r
theorem hallBy_good (ns : List Int) (k : Int) : GoodHall (hallBy ns k) := by
  have h := hallMany_le ns k
  have hl : (hallBy ns k).length = (hallMany ns k).toNat := by simp [hallBy]
  refine ⟨by omega, by omega, fun r hr => ?_⟩
  obtain ⟨j, _, rfl⟩ := List.mem_map.mp hr
  have g := rowBy_good (hallN ns k j)
  unfold hallRow
  split
  · exact ⟨Nat.le_trans (cut_len _ _ _) g.1, fun c hc => g.2 c (cut_mem _ _ _ c hc)⟩
  · exact g
def sp_law_hall_by (K : PySem.W.Frag) : Sp := fun vs H Q _ => ∃ (a : Addr) (ns : List Int) (k : Int), vs = [.ref a, .int k] ∧ SqL K H a (ns.map V.int) ∧ 0 ≤ k ∧ RetL ((hallBy ns k).map V.str) H Q
theorem spl_law_hall_by {K : PySem.W.Frag} {H : Hp} {a : Addr} {ns : List Int} {k : Int} (h : SqL K H a (ns.map V.int)) (hk : 0 ≤ k) : SpL (sp_law_hall_by K) [.ref a, .int k] H ((hallBy ns k).map V.str) :=
  fun H1 e Q q E => ⟨a, ns, k, rfl, ex_l e h, hk, fun p H2 hp e2 h2 => q p H2 hp e2 h2⟩
theorem ok_law_hall_by {P : Program} {w : World} {K : PySem.W.Frag} {mg : Str → Option Value} {base : Heap} (T : Top K mg) : FnOk P w K mg base CX0 2 T.a_law_hall_by T.f_law_hall_by ["_law_script", "_law_k"] (sp_law_hall_by K) := by
  refine T.F_law_hall_by.ok sc_law_hall_by (fun vs H Q E h => ?_) (fun cdv A outer s H vs Q E hr h => ?_)
  · obtain ⟨a, ns, k, rfl, _⟩ := h; rfl
  · obtain ⟨a, ns, k, rfl, hS, hk, q⟩ := h
    have hm := hallMany_le ns k
    refine ⟨_, (pss_cons (ps_set (i := 2) sc_law_hall_by.nd rfl (Or.inl rfl) (pe_op op_add pe_int (pe_op op_mod (pe_call (ok_law_cell_at T) (hr.mono (by decide)) (by rfl) T.g_law_cell_at T.F_law_cell_at.kp T.b_law_cell_at .nil pass0 (pa_cons (pv 0) (pa_cons (pv 1) pa_nil))) pe_int)))
  (pss_cons (ps_if (pt_cmpR op_eq (pe_op op_mod (pe_op op_fdiv (pe_call (ok_law_cell_at T) (hr.mono (by decide)) (by rfl) T.g_law_cell_at T.F_law_cell_at.kp T.b_law_cell_at .nil pass0 (pa_cons (pv 0) (pa_cons (pv 1) pa_nil))) pe_int) pe_int) pe_int (nomark _))
  (pss_one (ps_set (i := 2) sc_law_hall_by.nd rfl (Or.inl rfl) pe_int))
  pss_nil)
  (pss_cons (ps_set (i := 3) sc_law_hall_by.nd rfl (Or.inl rfl) (pe_lst pa_nil))
  (pss_cons (ps_for PassesOwn.never rfl (pi_range1 (by rfl) T.m_range (pa_cons (pv 2) pa_nil)) (pg_name (i := 4) sc_law_hall_by.nd rfl (Or.inl rfl))
  (pss_cons (ps_set (i := 5) sc_law_hall_by.nd rfl (Or.inl rfl) (pe_op op_add (pe_call (ok_law_cell_at T) (hr.mono (by decide)) (by rfl) T.g_law_cell_at T.F_law_cell_at.kp T.b_law_cell_at .nil pass0 (pa_cons (pv 0) (pa_cons (pe_op op_add (pe_op op_add (pv 1) pe_int) (pe_op op_mod (pv 4) pe_int)) pa_nil))) (pe_op op_mul pe_int (pe_op op_fdiv (pv 4) pe_int))))
  (pss_one (ps_if (pt_cmpR op_eq (pv 2) pe_int (nomark _))
  (pss_one (ps_expr (pe_bm PySem.F.plainAttrs_list PySem.F.slot_list_append PySem.F.type_list_append mt_append (pv 3) (pa_cons (pe_slice sl_str (pe_call (ok_law_row_by T) (hr.mono (by decide)) (by rfl) T.g_law_row_by T.F_law_row_by.kp T.b_law_row_by .nil pass0 (pa_cons (pv 5) pa_nil)) po_none (po_some pe_int)) pa_nil))))
  (pss_one (ps_expr (pe_bm PySem.F.plainAttrs_list PySem.F.slot_list_append PySem.F.type_list_append mt_append (pv 3) (pa_cons (pe_call (ok_law_row_by T) (hr.mono (by decide)) (by rfl) T.g_law_row_by T.F_law_row_by.kp T.b_law_row_by .nil pass0 (pa_cons (pv 5) pa_nil)) pa_nil))))))))
  (pss_one (ps_ret (pv 3))))))), ?_⟩
    walk_at "go"
    walk_at "asg"
    apply Xb.sx_ifAsg (v := .int (hallMany ns k))
    · walk_at "ev"
    · intro hb
      have hb' : cellAt ns k / 5 % 11 = 1 := by simpa using hb
      rw [show hallMany ns k = 40 by unfold hallMany; rw [if_pos hb']]
      walk_at "ev"
    · intro hb
      have hb' : ¬ cellAt ns k / 5 % 11 = 1 := by simpa using hb
      rw [show hallMany ns k = 1 + cellAt ns k % 5 by unfold hallMany; rw [if_neg hb']]
      rfl
    apply Xb.sx_asgL
    · walk_at "ev"
    intro p H1 hp e1 h1
    have hS1 := ex_l e1 hS
    apply Xb.sx_forR1
    · walk_at "ev"
    · omega
    case Pv => exact fun i σ H' => Ex H H' ∧ H' p = some (.lst (((List.range i).map (hallRow ns k)).map V.str)) ∧ ∃ x y, σ = [some (.ref a), some (.int k), some (.int (hallMany ns k)), some (.ref p), x, y]
    · intro H2 e2
      exact ⟨e1.trans e2, e2 _ _ h1, none, none, rfl⟩
    · rintro i σ' H' hi ⟨e, hL, x, y, rfl⟩
      have hS2 := ex_l e hS
      have hlen : (((List.range i).map (hallRow ns k)).map V.str).length < 100000 := by simp; omega
      have nx : ((List.range (i + 1)).map (hallRow ns k)).map V.str = ((List.range i).map (hallRow ns k)).map V.str ++ [V.str (hallRow ns k i)] := by
        rw [List.range_succ, List.map_append, List.map_append]; rfl
      walk_at "asg"
      apply Xb.sx_if1
      · walk_at "ev"
      · intro hb
        have hb' : hallMany ns k = 40 := by simpa using hb
        have hv : hallRow ns k i = cutS (rowBy (hallN ns k i)) none (some 11) := by unfold hallRow; rw [if_pos hb']
        have hz := rowBy_len (hallN ns k i)
        apply Xb.sx_app1 hL
        · walk_at "ev"
        · walk_at "ev"
          · show (rowBy (hallN ns k i)).length ≤ 100000
            omega
        · exact hlen
        · intro H2 e2
          refine ⟨Ex.mut (e.trans e2) hp, ?_, some (.int (i : Int)), some (.int (hallN ns k i)), rfl⟩
          rw [upd_same, nx, hv]
          rfl
      · intro hb
        have hb' : ¬ hallMany ns k = 40 := by simpa using hb
        have hv : hallRow ns k i = rowBy (hallN ns k i) := by unfold hallRow; rw [if_neg hb']
        apply Xb.sx_app1 hL
        · walk_at "ev"
        · walk_at "ev"
        · exact hlen
        · intro H2 e2
          refine ⟨Ex.mut (e.trans e2) hp, ?_, some (.int (i : Int)), some (.int (hallN ns k i)), rfl⟩
          rw [upd_same, nx, hv]
          rfl
    · rintro σ' H' ⟨e, hL, x, y, rfl⟩
      walk_at "ret"
      intro H2 e2
      exact q p H2 hp (e.trans e2) (e2 _ _ hL)
local macro_rules | `(tactic| walk_at "ev") => `(tactic| ((with_reducible apply spl_law_hall_by) <;> (try walk_at "sd")))

/-! ### seats -/
def signAt (rows : List Str) (r p : Int) : Option Nat := if 0 ≤ r ∧ 0 ≤ p then (rows[r.toNat]?).bind fun s => s.cps.toList[p.toNat]? else none
def isSeat (rows : List Str) (r p : Int) : Bool := signAt rows r p == some 111
theorem isSeat_row {rows : List Str} {r p : Int} (h : ¬ (0 ≤ r ∧ r < (rows.length : Int))) : isSeat rows r p = false := by
  unfold isSeat signAt
  split
  · rename_i g
    rw [List.getElem?_eq_none (by omega)]
    rfl
  · rfl
theorem isSeat_place {rows : List Str} {r p : Int} {s : Str} (hs : rows[r.toNat]? = some s) (h : ¬ (0 ≤ p ∧ p < (s.length : Int))) : isSeat rows r p = false := by
  unfold isSeat signAt
  split
  · rename_i g
    rw [hs]
    show (s.cps.toList[p.toNat]? == some 111) = false
    rw [List.getElem?_eq_none (by have : s.cps.toList.length = s.length := by simp [PySem.Str.length]
                                  omega)]
    rfl
  · rfl
theorem isSeat_at {rows : List Str} {r p : Int} {s : Str} {c : Nat} (h0 : 0 ≤ r) (hs : rows[r.toNat]? = some s) (h1 : 0 ≤ p) (hc : s.cps.toList[p.toNat]? = some c) : isSeat rows r p = decide (c = 111) := by
  unfold isSeat signAt
  rw [if_pos ⟨h0, h1⟩, hs]
  show (s.cps.toList[p.toNat]? == some 111) = _
  rw [hc]
  by_cases e : c = 111
  · subst e; rfl
  · rw [decide_eq_false e]; simp [e]
theorem at_sign {s : Str} {i : Int} {c : Nat} (h0 : 0 ≤ i) (h : s.cps.toList[i.toNat]? = some c) : atI s.cps.toList i = some c := by
  have e : i = ((i.toNat : Nat) : Int) := by omega
  rw [e]
  exact atI_nat h
theorem cps_len (s : Str) : s.cps.toList.length = s.length := by simp [PySem.Str.length]
theorem sOf_one (c : Nat) : (⟨#[c]⟩ : Str) = sOf [c] := rfl
theorem sign_o (c : Nat) : decide ((⟨#[c]⟩ : Str) = ("o" : Str)) = decide (c = 111) := by
  rw [sOf_o, sOf_one]
  exact decide_eq_decide.mpr (sOf_inj.trans (by simp))
/-- rows of at most sixty signs -/
def Short (rows : List Str) : Prop := ∀ s ∈ rows, s.length ≤ 100
theorem Short.at {rows : List Str} (h : Short rows) {i : Nat} {s : Str} (e : rows[i]? = some s) : s.length ≤ 100000 := by
  have := h s (List.mem_of_getElem? e); omega
theorem GoodHall.short {rows : List Str} (h : GoodHall rows) : Short rows := fun s hs => by have := (h.2.2 s hs).1; omega

def sp_law_seat (K : PySem.W.Frag) : Sp := fun vs H Q _ => ∃ (a : Addr) (rows : List Str) (r p : Int), vs = [.ref a, .int r, .int p] ∧ SqL K H a (rows.map V.str) ∧ Short rows ∧ RetV (.bl (isSeat rows r p)) H Q
theorem spv_law_seat {K : PySem.W.Frag} {H : Hp} {a : Addr} {rows : List Str} {r p : Int} (h : SqL K H a (rows.map V.str)) (hs : Short rows) : SpV (sp_law_seat K) [.ref a, .int r, .int p] H (.bl (isSeat rows r p)) :=
  fun H1 e Q q E => ⟨a, rows, r, p, rfl, ex_l e h, hs, fun H2 e2 => q H2 e2⟩
theorem ok_law_seat {P : Program} {w : World} {K : PySem.W.Frag} {mg : Str → Option Value} {base : Heap} (T : Top K mg) : FnOk P w K mg base CX0 1 T.a_law_seat T.f_law_seat ["_law_rows", "_law_row", "_law_place"] (sp_law_seat K) := by
  refine T.F_law_seat.ok sc_law_seat (fun vs H Q E h => ?_) (fun cdv A outer s H vs Q E hr h => ?_)
  · obtain ⟨a, rows, r, p, rfl, _⟩ := h; rfl
  · obtain ⟨a, rows, r, p, rfl, hS, hsh, q⟩ := h
    refine ⟨_, (pss_cons (ps_if (PW.pt (pw_or (pt_cmpR op_lt (pv 1) pe_int (nomark _)) (pw_or (pt_cmpR op_ge (pv 1) (pe_callB call_len_seq (by rfl) T.m_len PySem.boot_len (pa_cons (pv 0) pa_nil)) (nomark _)) (pw_or (pt_cmpR op_lt (pv 2) pe_int (nomark _)) (pw_or1 (pt_cmpR op_ge (pv 2) (pe_callB call_len_str (by rfl) T.m_len PySem.boot_len (pa_cons (pe_ix ix_list (pv 0) (pv 1) (fun _ _ => rfl)) pa_nil)) (nomark _)))))))
  (pss_one (ps_ret pe_bl))
  pss_nil)
  (pss_one (ps_ret (pe_cmpR op_eq (pe_ix ix_str (pe_ix ix_list (pv 0) (pv 1) (fun _ _ => rfl)) (pv 2) (fun _ _ => rfl)) pe_str (nomark _))))), ?_⟩
    walk_at "go"
    by_cases hr1 : 0 ≤ r ∧ r < (rows.length : Int)
    · obtain ⟨s, hs⟩ : ∃ s, rows[r.toNat]? = some s := ⟨_, List.getElem?_eq_getElem (by omega)⟩
      have hat := at_map (f := V.str) hr1.1 hs
      have hz := hsh.at hs
      walk_at "when" <;> intro hb
      · walk_at "ret"
        intro H1 e
        have hp : ¬ (0 ≤ p ∧ p < (s.length : Int)) := by
          simp at hb
          omega
        have := q H1 e
        rwa [isSeat_place hs hp] at this
      · have hp : 0 ≤ p ∧ p < (s.length : Int) := by
          simp at hb
          omega
        obtain ⟨c, hc⟩ : ∃ c, s.cps.toList[p.toNat]? = some c := ⟨_, List.getElem?_eq_getElem (by have := cps_len s; omega)⟩
        have hat2 := at_sign hp.1 hc
        walk_at "ret"
        intro H1 e
        have := q H1 e
        rw [isSeat_at hr1.1 hs hp.1 hc] at this
        rw [sign_o]
        exact this
    · apply Xb.sx_when (b := true)
      · by_cases h0 : r < 0
        · apply Xb.et_ifT
          · walk_at "ev"
          · simpa using h0
        · apply Xb.et_ifF
          · walk_at "ev"
          · simpa using h0
          apply Xb.et_ifT
          · walk_at "ev"
          · simp
            omega
      · intro _
        walk_at "ret"
        intro H1 e
        have := q H1 e
        rwa [isSeat_row hr1] at this
      · intro hb; cases hb
local macro_rules | `(tactic| walk_at "ev") => `(tactic| ((with_reducible apply spv_law_seat) <;> (try walk_at "sd")))

def sp_is_seat (K : PySem.W.Frag) : Sp := fun vs H Q _ => ∃ (a : Addr) (rows : List Str) (r p : Int), vs = [.ref a, .int r, .int p] ∧ SqL K H a (rows.map V.str) ∧ Short rows ∧ RetV (.bl (isSeat rows r p)) H Q
theorem spv_is_seat {K : PySem.W.Frag} {H : Hp} {a : Addr} {rows : List Str} {r p : Int} (h : SqL K H a (rows.map V.str)) (hs : Short rows) : SpV (sp_is_seat K) [.ref a, .int r, .int p] H (.bl (isSeat rows r p)) :=
  fun H1 e Q q E => ⟨a, rows, r, p, rfl, ex_l e h, hs, fun H2 e2 => q H2 e2⟩
theorem ok_is_seat {P : Program} {w : World} {K : PySem.W.Frag} {mg : Str → Option Value} {base : Heap} (T : Top K mg) : FnOk P w K mg base CX0 1 T.a_is_seat T.f_is_seat ["rows", "row", "place"] (sp_is_seat K) := by
  refine T.F_is_seat.ok sc_is_seat (fun vs H Q E h => ?_) (fun cdv A outer s H vs Q E hr h => ?_)
  · obtain ⟨a, rows, r, p, rfl, _⟩ := h; rfl
  · obtain ⟨a, rows, r, p, rfl, hS, hsh, q⟩ := h
    refine ⟨_, (pss_cons (ps_if (PW.pt (pw_or (pt_not (pt_chain op_le op_lt pe_int (pv 1) (pe_callB call_len_seq (by rfl) T.m_len PySem.boot_len (pa_cons (pv 0) pa_nil)))) (pw_or1 (pt_not (pt_chain op_le op_lt pe_int (pv 2) (pe_callB call_len_str (by rfl) T.m_len PySem.boot_len (pa_cons (pe_ix ix_list (pv 0) (pv 1) (fun _ _ => rfl)) pa_nil)))))))
  (pss_one (ps_ret pe_bl))
  pss_nil)
  (pss_one (ps_ret (pe_cmpR op_eq (pe_ix ix_str (pe_ix ix_list (pv 0) (pv 1) (fun _ _ => rfl)) (pv 2) (fun _ _ => rfl)) (pe_glob rfl T.h_SEAT T.r_SEAT) (nomark _))))), ?_⟩
    walk_at "go"
    by_cases hr1 : 0 ≤ r ∧ r < (rows.length : Int)
    · obtain ⟨s, hs⟩ : ∃ s, rows[r.toNat]? = some s := ⟨_, List.getElem?_eq_getElem (by omega)⟩
      have hat := at_map (f := V.str) hr1.1 hs
      have hz := hsh.at hs
      walk_at "when" <;> intro hb
      · walk_at "ret"
        intro H1 e
        have hp : ¬ (0 ≤ p ∧ p < (s.length : Int)) := by
          simp at hb
          omega
        have := q H1 e
        rwa [isSeat_place hs hp] at this
      · have hp : 0 ≤ p ∧ p < (s.length : Int) := by
          simp at hb
          omega
        obtain ⟨c, hc⟩ : ∃ c, s.cps.toList[p.toNat]? = some c := ⟨_, List.getElem?_eq_getElem (by have := cps_len s; omega)⟩
        have hat2 := at_sign hp.1 hc
        walk_at "ret"
        intro H1 e
        have := q H1 e
        rw [isSeat_at hr1.1 hs hp.1 hc] at this
        rw [sign_o]
        exact this
    · apply Xb.sx_when (b := true)
      · apply Xb.et_ifT
        · walk_at "ev"
        · simp
          omega
      · intro _
        walk_at "ret"
        intro H1 e
        have := q H1 e
        rwa [isSeat_row hr1] at this
      · intro hb; cases hb
local macro_rules | `(tactic| walk_at "ev") => `(tactic| ((with_reducible apply spv_is_seat) <;> (try walk_at "sd")))

/-! ### need_row, need_hall: of what is a hall -/
def sp_need_row : Sp := fun vs H Q _ => ∃ s : Str, vs = [.str s] ∧ GoodRow s ∧ RetV .non H Q
theorem spv_need_row {H : Hp} {s : Str} (h : GoodRow s) : SpV sp_need_row [.str s] H .non := fun H1 e Q q E => ⟨s, rfl, h, fun H2 e2 => q H2 e2⟩
theorem in_signs {c : Nat} (h : c = 111 ∨ c = 46) : inV (.str ⟨#[c]⟩) [.str "o", .str "."] = true := by
  rcases h with rfl | rfl
  · decide +kernel
  · decide +kernel
theorem ok_need_row {P : Program} {w : World} {K : PySem.W.Frag} {mg : Str → Option Value} {base : Heap} (T : Top K mg) : FnOk P w K mg base CX0 1 T.a_need_row T.f_need_row ["signs"] sp_need_row := by
  refine T.F_need_row.ok sc_need_row (fun vs H Q E h => ?_) (fun cdv A outer s H vs Q E hr h => ?_)
  · obtain ⟨s, rfl, _⟩ := h; rfl
  · obtain ⟨s, rfl, hg, q⟩ := h
    refine ⟨_, (pss_cons (ps_if (PW.pt (pw_or (pt_not (pt_val (pe_callB call_isi (by rfl) T.m_isinstance PyProof.Rows.boot_isinstance (pa_cons (pv 0) (pa_cons (pe_bltn (v := .ty "str") (by rfl) T.m_str PyProof.Rows.boot_str rfl) pa_nil))))) (pw_or1 (pt_cmpR op_gt (pe_callB call_len_str (by rfl) T.m_len PySem.boot_len (pa_cons (pv 0) pa_nil)) (pe_glob rfl T.h_MOST_PLACES T.r_MOST_PLACES) (nomark _)))))
  (pss_one ps_never)
  pss_nil)
  (pss_one (ps_for PassesOwn.never rfl (pi_str (pv 0)) (pg_name (i := 1) sc_need_row.nd rfl (Or.inl rfl))
  (pss_one (ps_if (pt_cmpR op_notIn_seq (pv 1) (pe_tup (pa_cons (pe_glob rfl T.h_SEAT T.r_SEAT) (pa_cons (pe_glob rfl T.h_GAP T.r_GAP) pa_nil))) (by rfl))
  (pss_one ps_never)
  pss_nil))))), ?_⟩
    walk_at "go"
    have hz := hg.1
    walk_at "when" <;> intro hb
    · exfalso
      simp at hb
      omega
    · apply Xb.sx_last
      apply Xb.sx_forS0
      · walk_at "ev"
      case Pv => exact fun i σ H' => Ex H H' ∧ ∃ x, σ = [some (.str s), x]
      · exact fun H1 e => ⟨e, none, rfl⟩
      · rintro i c σ' H' hc ⟨e, x, rfl⟩
        have hs := hg.2 c (by
          have : s.cps.toList[i]? = some c := by simpa using hc
          exact List.mem_of_getElem? this)
        apply Xb.sx_if1 (b := false)
        · have hn := in_signs hs
          apply Evl.et_test
          refine Evl.ev_is (v := .bl (!inV (.str ⟨#[c]⟩) [.str "o", .str "."])) ?_ (by rw [hn]; rfl)
          apply Evl.ev_niU
          · walk_at "ev"
          · walk_at "ev"
          · rfl
          · rfl
        · intro q; cases q
        · intro _
          apply Xb.sx_next
          exact fun H1 e1 => ⟨e.trans e1, _, rfl⟩
      · rintro σ' H' ⟨e, x, rfl⟩
        apply Xb.sx_next
        exact fun H1 e1 => q H1 (e.trans e1)
local macro_rules | `(tactic| walk_at "ev") => `(tactic| ((with_reducible apply spv_need_row) <;> (try walk_at "sd")))

def sp_need_hall (K : PySem.W.Frag) : Sp := fun vs H Q _ => ∃ (a : Addr) (rows : List Str), vs = [.ref a] ∧ SqL K H a (rows.map V.str) ∧ GoodHall rows ∧ RetL (rows.map V.str) H Q
theorem spl_need_hall {K : PySem.W.Frag} {H : Hp} {a : Addr} {rows : List Str} (h : SqL K H a (rows.map V.str)) (hg : GoodHall rows) : SpL (sp_need_hall K) [.ref a] H (rows.map V.str) :=
  fun H1 e Q q E => ⟨a, rows, rfl, ex_l e h, hg, fun p H2 hp e2 h2 => q p H2 hp e2 h2⟩
theorem ok_need_hall {P : Program} {w : World} {K : PySem.W.Frag} {mg : Str → Option Value} {base : Heap} (T : Top K mg) : FnOk P w K mg base CX0 2 T.a_need_hall T.f_need_hall ["rows"] (sp_need_hall K) := by
  refine T.F_need_hall.ok sc_need_hall (fun vs H Q E h => ?_) (fun cdv A outer s H vs Q E hr h => ?_)
  · obtain ⟨a, rows, rfl, _⟩ := h; rfl
  · obtain ⟨a, rows, rfl, hS, hg, q⟩ := h
    refine ⟨_, (pss_cons (ps_if (PW.pt (pw_or (pt_not (pt_val (pe_callB call_isi (by rfl) T.m_isinstance PyProof.Rows.boot_isinstance (pa_cons (pv 0) (pa_cons (pe_bltn (v := .ty "list") (by rfl) T.m_list PyProof.Rows.boot_list rfl) pa_nil))))) (pw_or1 (pt_not (pt_chain op_le op_le pe_int (pe_callB call_len_seq (by rfl) T.m_len PySem.boot_len (pa_cons (pv 0) pa_nil)) (pe_glob rfl T.h_MOST_ROWS T.r_MOST_ROWS))))))
  (pss_one ps_never)
  pss_nil)
  (pss_cons (ps_for PassesOwn.never rfl (pi_list (pv 0)) (pg_name (i := 1) sc_need_hall.nd rfl (Or.inl rfl))
  (pss_one (ps_expr (pe_call (ok_need_row T) (hr.mono (by decide)) (by rfl) T.g_need_row T.F_need_row.kp T.b_need_row .nil pass0 (pa_cons (pv 1) pa_nil)))))
  (pss_one (ps_ret (pe_callTy call_list_of (by rfl) T.m_list PyProof.Rows.boot_list (pa_cons (pv 0) pa_nil)))))), ?_⟩
    walk_at "go"
    have hl : (rows.map V.str).length = rows.length := by simp
    have h1 := hg.1
    have h2 := hg.2.1
    walk_at "when" <;> intro hb
    · exfalso
      simp at hb
      omega
    · apply Xb.sx_forL
      · walk_at "ev"
      · exact hS
      case Pv => exact fun i σ H' => Ex H H' ∧ ∃ x, σ = [some (.ref a), x]
      · exact fun H1 e => ⟨e, none, rfl⟩
      · exact fun i σ' H' _ p => ex_l p.1 hS
      · rintro i x σ' H' hx ⟨e, y, rfl⟩
        rw [List.getElem?_map] at hx
        obtain ⟨s, hs, rfl⟩ := Option.map_eq_some_iff.mp hx
        have hgs := hg.2.2 s (List.mem_of_getElem? hs)
        apply Xb.sx_drop1
        · walk_at "ev"
        · exact fun H1 e1 => ⟨e.trans e1, _, rfl⟩
      · rintro σ' H' ⟨e, x, rfl⟩
        have hS' := ex_l e hS
        apply Xb.sx_retL
        · walk_at "ev"
        · exact fun p H1 hp e1 h1 => q p H1 (fresh_back e hp) (e.trans e1) h1
local macro_rules | `(tactic| walk_at "ev") => `(tactic| ((with_reducible apply spl_need_hall) <;> (try walk_at "sd")))

/-! ### runs of places side by side where f holds: first place, how many -/
def scanP (f : Nat → Bool) : Nat → List (Nat × Nat) × Nat
  | 0 => ([], 0)
  | i + 1 => if f i = true then ((scanP f i).1, (scanP f i).2 + 1) else if 0 < (scanP f i).2 then ((scanP f i).1 ++ [(i - (scanP f i).2, (scanP f i).2)], 0) else scanP f i
theorem scanP_one {f : Nat → Bool} {i : Nat} (h : f i = true) : scanP f (i + 1) = ((scanP f i).1, (scanP f i).2 + 1) := by
  show (if f i = true then _ else _) = _
  rw [if_pos h]
theorem scanP_cut {f : Nat → Bool} {i : Nat} (h : ¬ f i = true) (h0 : 0 < (scanP f i).2) : scanP f (i + 1) = ((scanP f i).1 ++ [(i - (scanP f i).2, (scanP f i).2)], 0) := by
  show (if f i = true then _ else if 0 < (scanP f i).2 then _ else _) = _
  rw [if_neg h, if_pos h0]
theorem scanP_stay {f : Nat → Bool} {i : Nat} (h : ¬ f i = true) (h0 : ¬ 0 < (scanP f i).2) : scanP f (i + 1) = scanP f i := by
  show (if f i = true then _ else if 0 < (scanP f i).2 then _ else _) = _
  rw [if_neg h, if_neg h0]
def RunOk (f : Nat → Bool) (b : Nat × Nat) : Prop := 1 ≤ b.2 ∧ (∀ j, b.1 ≤ j → j < b.1 + b.2 → f j = true) ∧ (b.1 = 0 ∨ f (b.1 - 1) = false) ∧ f (b.1 + b.2) = false
structure ScanOk (f : Nat → Bool) (i : Nat) (st : List (Nat × Nat) × Nat) : Prop where
  le : st.2 ≤ i
  ins : ∀ j, i - st.2 ≤ j → j < i → f j = true
  left : i - st.2 = 0 ∨ f (i - st.2 - 1) = false
  ok : ∀ b ∈ st.1, RunOk f b
  lt : ∀ b ∈ st.1, b.1 + b.2 + 1 ≤ i - st.2
  up : st.1.Pairwise fun b c => b.1 + b.2 < c.1
  sum : (st.1.map (·.2)).sum + st.2 = ((List.range i).filter f).length
  all : ∀ j, j < i - st.2 → f j = true → ∃ b ∈ st.1, b.1 ≤ j ∧ j < b.1 + b.2
theorem scanP_ok (f : Nat → Bool) : ∀ i, ScanOk f i (scanP f i)
  | 0 => ⟨Nat.le_refl _, fun j _ h => by omega, .inl rfl, fun b h => by simp [scanP] at h, fun b h => by simp [scanP] at h, by simp [scanP], rfl, fun j h => by omega⟩
  | i + 1 => by
    have k := scanP_ok f i
    have hr : (List.range (i + 1)).filter f = (List.range i).filter f ++ (if f i = true then [i] else []) := by
      rw [List.range_succ, List.filter_append]
      congr 1
      by_cases h : f i = true <;> simp [h]
    have hle := k.le
    unfold scanP
    by_cases hf : f i = true
    · rw [if_pos hf]
      refine ⟨?_, fun j h1 h2 => ?_, ?_, k.ok, fun b hb => ?_, k.up, ?_, fun j h1 h2 => ?_⟩
      · show (scanP f i).2 + 1 ≤ i + 1; omega
      · have h1' : i + 1 - ((scanP f i).2 + 1) ≤ j := h1
        by_cases e : j = i
        · rw [e]; exact hf
        · exact k.ins j (by omega) (by omega)
      · show i + 1 - ((scanP f i).2 + 1) = 0 ∨ f (i + 1 - ((scanP f i).2 + 1) - 1) = false
        rw [show i + 1 - ((scanP f i).2 + 1) = i - (scanP f i).2 by omega]
        exact k.left
      · show b.1 + b.2 + 1 ≤ i + 1 - ((scanP f i).2 + 1)
        have := k.lt b hb; omega
      · have := k.sum
        rw [hr, if_pos hf, List.length_append, ← this]
        show ((scanP f i).1.map (·.2)).sum + ((scanP f i).2 + 1) = ((scanP f i).1.map (·.2)).sum + (scanP f i).2 + 1
        omega
      · have h1' : j < i + 1 - ((scanP f i).2 + 1) := h1
        exact k.all j (by omega) h2
    · have hff : f i = false := by simpa using hf
      rw [if_neg hf]
      by_cases h0 : 0 < (scanP f i).2
      · rw [if_pos h0]
        refine ⟨Nat.zero_le _, fun j h1 h2 => ?_, .inr ?_, fun b hb => ?_, fun b hb => ?_, ?_, ?_, fun j h1 h2 => ?_⟩
        · have h1' : i + 1 - 0 ≤ j := h1
          omega
        · show f (i + 1 - 0 - 1) = false
          exact hff
        · rcases List.mem_append.mp hb with hb | hb
          · exact k.ok b hb
          · obtain rfl := List.mem_singleton.mp hb
            refine ⟨h0, fun j h1 h2 => ?_, k.left, ?_⟩
            · have h1' : i - (scanP f i).2 ≤ j := h1
              have h2' : j < i - (scanP f i).2 + (scanP f i).2 := h2
              exact k.ins j h1' (by omega)
            · show f (i - (scanP f i).2 + (scanP f i).2) = false
              rw [show i - (scanP f i).2 + (scanP f i).2 = i by omega]
              exact hff
        · rcases List.mem_append.mp hb with hb | hb
          · have := k.lt b hb
            show b.1 + b.2 + 1 ≤ i + 1 - 0
            omega
          · obtain rfl := List.mem_singleton.mp hb
            show i - (scanP f i).2 + (scanP f i).2 + 1 ≤ i + 1 - 0
            omega
        · refine List.pairwise_append.mpr ⟨k.up, by simp, fun b hb c hc => ?_⟩
          obtain rfl := List.mem_singleton.mp hc
          have := k.lt b hb
          show b.1 + b.2 < i - (scanP f i).2
          omega
        · have := k.sum
          rw [hr, if_neg hf, List.append_nil, ← this]
          simp
        · have h1' : j < i + 1 - 0 := h1
          by_cases hj : j < i - (scanP f i).2
          · obtain ⟨b, hb, h3⟩ := k.all j hj h2
            exact ⟨b, List.mem_append_left _ hb, h3⟩
          · by_cases e : j = i
            · rw [e, hff] at h2; cases h2
            · exact ⟨_, List.mem_append_right _ (List.mem_singleton.mpr rfl), by show i - (scanP f i).2 ≤ j; omega, by show j < i - (scanP f i).2 + (scanP f i).2; omega⟩
      · rw [if_neg h0]
        have h00 : (scanP f i).2 = 0 := by omega
        refine ⟨by omega, fun j h1 h2 => by omega, .inr ?_, k.ok, fun b hb => ?_, k.up, ?_, fun j h1 h2 => ?_⟩
        · rw [h00]; exact hff
        · have := k.lt b hb; omega
        · have := k.sum
          rw [hr, if_neg hf, List.append_nil, ← this]
        · rw [h00] at h1
          by_cases e : j = i
          · rw [e, hff] at h2; cases h2
          · exact k.all j (by omega) h2
/-- all runs among the first n places -/
def runsP (f : Nat → Bool) (n : Nat) : List (Nat × Nat) := (scanP f (n + 1)).1
structure RunsOk (f : Nat → Bool) (n : Nat) (l : List (Nat × Nat)) : Prop where
  ok : ∀ b ∈ l, RunOk f b
  lt : ∀ b ∈ l, b.1 + b.2 ≤ n
  up : l.Pairwise fun b c => b.1 + b.2 < c.1
  sum : (l.map (·.2)).sum = ((List.range n).filter f).length
  all : ∀ j, j < n → f j = true → ∃ b ∈ l, b.1 ≤ j ∧ j < b.1 + b.2
theorem runsP_ok {f : Nat → Bool} {n : Nat} (h : f n = false) : RunsOk f n (runsP f n) := by
  have k := scanP_ok f (n + 1)
  have h0 : (scanP f (n + 1)).2 = 0 := by
    by_cases e : (scanP f (n + 1)).2 = 0
    · exact e
    · have := k.ins n (by omega) (by omega)
      rw [h] at this; cases this
  refine ⟨k.ok, fun b hb => ?_, k.up, ?_, fun j hj hf => ?_⟩
  · have := k.lt b hb; omega
  · have := k.sum
    rw [h0, Nat.add_zero] at this
    have e : (List.range (n + 1)).filter f = (List.range n).filter f := by
      rw [List.range_succ, List.filter_append]; simp [h]
    rw [e] at this
    exact this
  · exact k.all j (by omega) hf
/-- a run as data -/
def encR (row : Int) (b : Nat × Nat) : PyData := .tuple [.int row, .int (b.1 : Int), .int (b.2 : Int)]
/-- the place holds a seat -/
def seatP (s : Str) (i : Nat) : Bool := s.cps[i]? == some 111

def blocksRow (s : Str) : List (Nat × Nat) := runsP (seatP s) s.length
def sp_blocks_of_row (K : PySem.W.Frag) : Sp := fun vs H Q _ => ∃ (row : Int) (s : Str), vs = [.int row, .str s] ∧ s.length ≤ 100 ∧ RetDs K ((blocksRow s).map (encR row)) H Q
theorem dot_at (s : Str) {i c : Nat} (h : (s ++ ("." : Str)).cps[i]? = some c) : decide (c = 111) = seatP s i := by
  have e : (s ++ ("." : Str)).cps.toList = s.cps.toList ++ [46] := by
    rw [sOf_dot, ← of_sOf s, sOf_app]; simp [sOf_cps]
  have h' : (s.cps.toList ++ [46])[i]? = some c := by rw [← e]; simpa using h
  unfold seatP
  have e2 : s.cps[i]? = s.cps.toList[i]? := by simp
  rw [e2]
  by_cases hi : i < s.cps.toList.length
  · rw [List.getElem?_append_left hi] at h'
    rw [h']
    by_cases q : c = 111
    · subst q; rfl
    · simp [q]
  · rw [List.getElem?_append_right (by omega)] at h'
    rw [List.getElem?_eq_none (by omega)]
    have : c = 46 := by
      have h3 := List.mem_of_getElem? h'
      simpa using h3
    subst this
    decide
theorem seatP_end (s : Str) : seatP s s.length = false := by
  unfold seatP
  rw [Array.getElem?_eq_none (by show s.cps.size ≤ s.length; exact Nat.le_refl _)]
  rfl
theorem ok_blocks_of_row {P : Program} {w : World} {K : PySem.W.Frag} {mg : Str → Option Value} {base : Heap} (T : Top K mg) : FnOk P w K mg base CX0 1 T.a_blocks_of_row T.f_blocks_of_row ["row", "signs"] (sp_blocks_of_row K) := by
  refine T.F_blocks_of_row.ok sc_blocks_of_row (fun vs H Q E h => ?_) (fun cdv A outer s H vs Q E hr h => ?_)
  · obtain ⟨row, s, rfl, _⟩ := h; rfl
  · obtain ⟨row, s, rfl, hz, q⟩ := h
    refine ⟨_, (pss_cons (ps_set (i := 2) sc_blocks_of_row.nd rfl (Or.inl rfl) (pe_lst pa_nil))
  (pss_cons (ps_set (i := 3) sc_blocks_of_row.nd rfl (Or.inl rfl) pe_int)
  (pss_cons (ps_for PassesOwn.never rfl (pi_enumS (by rfl) T.m_enumerate (pa_cons (pe_op op_add_str (pv 1) (pe_glob rfl T.h_GAP T.r_GAP)) pa_nil)) (pg_tup rfl (pgs_cons (pg_name (i := 4) sc_blocks_of_row.nd rfl (Or.inl rfl)) (pgs_cons (pg_name (i := 5) sc_blocks_of_row.nd rfl (Or.inl rfl)) pgs_nil)))
  (pss_one (ps_if (pt_cmpR op_eq (pv 5) (pe_glob rfl T.h_SEAT T.r_SEAT) (nomark _))
  (pss_one (ps_aug (i := 3) sc_blocks_of_row.nd rfl (Or.inl rfl) pe_int ip_add))
  (pss_one (ps_if (pt_cmpR op_gt (pv 3) pe_int (nomark _))
  (pss_cons (ps_expr (pe_bm PySem.F.plainAttrs_list PySem.F.slot_list_append PySem.F.type_list_append mt_append (pv 2) (pa_cons (pe_tup (pa_cons (pv 0) (pa_cons (pe_op op_sub (pv 4) (pv 3)) (pa_cons (pv 3) pa_nil)))) pa_nil)))
  (pss_one (ps_set (i := 3) sc_blocks_of_row.nd rfl (Or.inl rfl) pe_int)))
  pss_nil)))))
  (pss_one (ps_ret (pv 2)))))), ?_⟩
    walk_at "go"
    apply Xb.sx_asgL
    · walk_at "ev"
    intro p H1 hp e1 h1
    walk_at "asg"
    have h1l : ("." : Str).length = 1 := by decide +kernel
    apply Xb.sx_forES (s := s ++ ("." : Str))
    · walk_at "ev"
    case Pv => exact fun i σ H' => Ex H H' ∧ (∃ xs, H' p = some (.lst xs) ∧ DpAll K (era H' p) xs ((scanP (seatP s) i).1.map (encR row)) ∧ xs.length ≤ i) ∧ ∃ x y, σ = [some (.int row), some (.str s), some (.ref p), some (.int ((scanP (seatP s) i).2 : Int)), x, y]
    · exact fun H2 e2 => ⟨e1.trans e2, ⟨[], e2 _ _ h1, .nil, Nat.zero_le _⟩, none, none, rfl⟩
    · rintro i σ' H2 H3 ⟨e, ⟨xs, hx, hd, hl⟩, r⟩ e2
      exact ⟨e.trans e2, ⟨xs, e2 _ _ hx, dpa_ex (era_mono e2) hd, hl⟩, r⟩
    · rintro i c σ' H' hc ⟨e, ⟨xs, hx, hd, hl⟩, x, y, rfl⟩
      have hf := dot_at s hc
      have hi : i < s.length + 1 := by
        have h2 : i < (s ++ ("." : Str)).cps.size := by
          by_cases q : i < (s ++ ("." : Str)).cps.size
          · exact q
          · rw [Array.getElem?_eq_none (by omega)] at hc; cases hc
        have h3 : (s ++ ("." : Str)).cps.size = s.length + ("." : Str).length := by
          show (s.cps ++ ("." : Str).cps).size = _
          rw [Array.size_append]; rfl
        omega
      have hm := (scanP_ok (seatP s) i).le
      apply Xb.sx_if1
      · walk_at "ev"
      · intro hb
        rw [sign_o, hf] at hb
        apply Xb.sx_aug1
        · exact rfl
        · walk_at "ev"
        · intro H2 e2
          refine ⟨e.trans e2, ⟨xs, e2 _ _ hx, ?_, by omega⟩, some (.int (i : Int)), some (.str ⟨#[c]⟩), ?_⟩
          · rw [scanP_one hb]; exact dpa_ex (era_mono e2) hd
          · rw [scanP_one hb]; rfl
      · intro hb
        rw [sign_o, hf] at hb
        have hb' : ¬ seatP s i = true := by simp [hb]
        apply Xb.sx_last
        walk_at "when" <;> intro hq
        · have h0 : 0 < (scanP (seatP s) i).2 := by simpa using hq
          apply Xb.sx_appU hx
          · walk_at "ev"
          · walk_at "ev"
          · show xs.length < 100000
            omega
          · intro t H2 ht e2 h2
            apply Xb.sx_asg1
            · walk_at "ev"
            · intro H3 e3
              have pt : p ≠ t := ne_of_none hx ht
              refine ⟨?_, ⟨xs ++ [.ref t], e3 _ _ upd_same, ?_, by simp; omega⟩, some (.int (i : Int)), some (.str ⟨#[c]⟩), ?_⟩
              · exact (Ex.mut (e.trans e2) hp).trans e3
              · rw [scanP_cut hb' h0, List.map_append]
                have e5 : Ex (era H2 p) (era H3 p) := by
                  have := era_mono (p := p) e3
                  rwa [era_upd] at this
                have h4 : Dp K (era H2 p) (.ref t) (encR row (i - (scanP (seatP s) i).2, (scanP (seatP s) i).2)) := by
                  have e6 : (((i - (scanP (seatP s) i).2 : Nat) : Int)) = (i : Int) - ((scanP (seatP s) i).2 : Int) := by omega
                  show Dp K _ _ (.tuple [.int row, .int ((i - (scanP (seatP s) i).2 : Nat) : Int), .int ((scanP (seatP s) i).2 : Int)])
                  rw [e6]
                  exact .tup (.inl (.inl (by rw [era_ne pt.symm]; exact h2))) (dpa_ints [row, (i : Int) - ((scanP (seatP s) i).2 : Int), ((scanP (seatP s) i).2 : Int)])
                exact dpa_ex e5 (dpa_app (dpa_ex (era_mono e2) hd) (.cons h4 .nil))
              · rw [scanP_cut hb' h0]
                rfl
        · have h0 : ¬ 0 < (scanP (seatP s) i).2 := by simpa using hq
          apply Xb.sx_next
          intro H2 e2
          refine ⟨e.trans e2, ⟨xs, e2 _ _ hx, ?_, by omega⟩, some (.int (i : Int)), some (.str ⟨#[c]⟩), ?_⟩
          · rw [scanP_stay hb' h0]; exact dpa_ex (era_mono e2) hd
          · rw [scanP_stay hb' h0]; rfl
    · rintro σ' H' ⟨e, ⟨xs, hx, hd, hl⟩, x, y, rfl⟩
      have hsz : (s ++ ("." : Str)).cps.size = s.length + 1 := by
        show (s.cps ++ ("." : Str).cps).size = _
        rw [Array.size_append]
        exact congrArg (s.cps.size + ·) h1l
      walk_at "ret"
      intro H2 e2
      rw [hsz] at hd
      exact q p xs H2 hp (e.trans e2) (e2 _ _ hx) (dpa_ex (era_ex.trans e2) hd)
theorem spd_blocks_of_row {K : PySem.W.Frag} {H : Hp} {row : Int} {s : Str} (hz : s.length ≤ 100) : SpDs K (sp_blocks_of_row K) [.int row, .str s] H ((blocksRow s).map (encR row)) := fun H1 e Q q E => ⟨row, s, rfl, hz, q⟩
local macro_rules | `(tactic| walk_at "ev") => `(tactic| ((with_reducible apply spd_blocks_of_row) <;> (try walk_at "sd")))

/-! ### the blocks of a hall -/
def encRs (row : Int) (l : List (Nat × Nat)) : List PyData := l.map (encR row)
/-- of the rows from the k-th on, counted so -/
def hallRuns (g : Str → List (Nat × Nat)) : Nat → List Str → List PyData
  | _, [] => []
  | k, s :: rs => encRs (k : Int) (g s) ++ hallRuns g (k + 1) rs
theorem hallRuns_snoc (g : Str → List (Nat × Nat)) : ∀ (rs : List Str) (k : Nat) (s : Str), hallRuns g k (rs ++ [s]) = hallRuns g k rs ++ encRs ((k + rs.length : Nat) : Int) (g s)
  | [], k, s => by simp [hallRuns]
  | r :: rs, k, s => by
    show encRs (k : Int) (g r) ++ hallRuns g (k + 1) (rs ++ [s]) = encRs (k : Int) (g r) ++ hallRuns g (k + 1) rs ++ _
    rw [hallRuns_snoc g rs (k + 1) s, List.append_assoc]
    congr 2
    show encRs ((k + 1 + rs.length : Nat) : Int) (g s) = encRs ((k + (rs.length + 1) : Nat) : Int) (g s)
    rw [show k + 1 + rs.length = k + (rs.length + 1) by omega]
theorem noL_enc (row : Int) (l : List (Nat × Nat)) : noLs (encRs row l) = true := noLs_all fun d hd => by
  obtain ⟨b, _, rfl⟩ := List.mem_map.mp hd
  rfl
theorem blocksRow_ok (s : Str) : RunsOk (seatP s) s.length (blocksRow s) := runsP_ok (seatP_end s)
theorem runs_count {f : Nat → Bool} {n : Nat} {l : List (Nat × Nat)} (h : RunsOk f n l) : l.length ≤ n := by
  have h1 : l.length ≤ (l.map (·.2)).sum := by
    have hk := h.ok
    clear h
    induction l with
    | nil => simp
    | cons b r ih =>
      have := (hk b (by simp)).1
      have h2 := ih fun c hc => hk c (by simp [hc])
      simp
      omega
  rw [h.sum] at h1
  have := List.length_filter_le f (List.range n)
  simp at this
  omega
def sp_blocks_of (K : PySem.W.Frag) : Sp := fun vs H Q _ => ∃ (a : Addr) (rows : List Str), vs = [.ref a] ∧ SqL K H a (rows.map V.str) ∧ rows.length ≤ 100 ∧ Short rows ∧ RetDs K (hallRuns blocksRow 0 rows) H Q
theorem spd_blocks_of {K : PySem.W.Frag} {H : Hp} {a : Addr} {rows : List Str} (h : SqL K H a (rows.map V.str)) (hl : rows.length ≤ 100) (hs : Short rows) : SpDs K (sp_blocks_of K) [.ref a] H (hallRuns blocksRow 0 rows) :=
  fun H1 e Q q E => ⟨a, rows, rfl, ex_l e h, hl, hs, q⟩
theorem hallRuns_len {g : Str → List (Nat × Nat)} {n : Nat} : ∀ (rs : List Str) (k : Nat), (∀ s ∈ rs, (g s).length ≤ n) → (hallRuns g k rs).length ≤ n * rs.length
  | [], _, _ => by simp [hallRuns]
  | r :: rs, k, h => by
    have h1 := h r (by simp)
    have h2 := hallRuns_len rs (k + 1) fun s hs => h s (by simp [hs])
    show ((encRs (k : Int) (g r)) ++ hallRuns g (k + 1) rs).length ≤ n * (rs.length + 1)
    rw [List.length_append, Nat.mul_add]
    simp [encRs]
    omega
theorem ok_blocks_of {P : Program} {w : World} {K : PySem.W.Frag} {mg : Str → Option Value} {base : Heap} (T : Top K mg) : FnOk P w K mg base CX0 2 T.a_blocks_of T.f_blocks_of ["rows"] (sp_blocks_of K) := by
  refine T.F_blocks_of.ok sc_blocks_of (fun vs H Q E h => ?_) (fun cdv A outer s H vs Q E hr h => ?_)
  · obtain ⟨a, rows, rfl, _⟩ := h; rfl
  · obtain ⟨a, rows, rfl, hS, hn, hsh, q⟩ := h
    refine ⟨_, (pss_cons (ps_set (i := 1) sc_blocks_of.nd rfl (Or.inl rfl) (pe_lst pa_nil))
  (pss_cons (ps_for PassesOwn.never rfl (pi_enum (by rfl) T.m_enumerate (pa_cons (pv 0) pa_nil)) (pg_tup rfl (pgs_cons (pg_name (i := 2) sc_blocks_of.nd rfl (Or.inl rfl)) (pgs_cons (pg_name (i := 3) sc_blocks_of.nd rfl (Or.inl rfl)) pgs_nil)))
  (pss_one (ps_expr (pe_bm PySem.F.plainAttrs_list PySem.F.slot_list_extend PySem.F.type_list_extend mt_extend (pv 1) (pa_cons (pe_call (ok_blocks_of_row T) (hr.mono (by decide)) (by rfl) T.g_blocks_of_row T.F_blocks_of_row.kp T.b_blocks_of_row .nil pass0 (pa_cons (pv 2) (pa_cons (pv 3) pa_nil))) pa_nil)))))
  (pss_one (ps_ret (pv 1))))), ?_⟩
    walk_at "go"
    apply Xb.sx_asgL
    · walk_at "ev"
    intro p H1 hp e1 h1
    have hS1 := ex_l e1 hS
    apply Xb.sx_forEL
    · walk_at "ev"
    · exact hS1
    case Pv => exact fun i σ H' => Ex H H' ∧ (∃ xs, H' p = some (.lst xs) ∧ DpAll K (era H' p) xs (hallRuns blocksRow 0 (rows.take i))) ∧ ∃ x y, σ = [some (.ref a), some (.ref p), x, y]
    · exact fun H2 e2 => ⟨e1.trans e2, ⟨[], e2 _ _ h1, by simp only [List.take_zero]; exact .nil⟩, none, none, rfl⟩
    · rintro i σ' H2 H3 ⟨e, ⟨xs, hx, hd⟩, r⟩ e2
      exact ⟨e.trans e2, ⟨xs, e2 _ _ hx, dpa_ex (era_mono e2) hd⟩, r⟩
    · exact fun i σ' H' _ k => ex_l k.1 hS
    · rintro i x σ' H' hx ⟨e, ⟨xs, hl, hd⟩, y, z, rfl⟩
      rw [List.getElem?_map] at hx
      obtain ⟨s, hs, rfl⟩ := Option.map_eq_some_iff.mp hx
      have hsz : s.length ≤ 100 := hsh s (List.mem_of_getElem? hs)
      have hil : i < rows.length := by
        by_cases h : i < rows.length
        · exact h
        · rw [List.getElem?_eq_none (by omega)] at hs; cases hs
      have hb1 := runs_count (blocksRow_ok s)
      have hb2 : (hallRuns blocksRow 0 (rows.take i)).length ≤ 100 * (rows.take i).length :=
        hallRuns_len _ _ fun r hr => Nat.le_trans (runs_count (blocksRow_ok r)) (hsh r (List.mem_of_mem_take hr))
      rw [List.length_take] at hb2
      have hxl := dpa_len hd
      apply Xb.sx_extDs1 hl
      · walk_at "ev"
      · walk_at "ev"
      · simp
        omega
      · intro t ys H2 ht e2 h2 hd2
        refine ⟨Ex.mut (e.trans e2) hp, ⟨xs ++ ys, upd_same, ?_⟩, some (.int (i : Int)), some (.str s), rfl⟩
        rw [era_upd, List.take_add_one, hs]
        show DpAll K (era H2 p) (xs ++ ys) (hallRuns blocksRow 0 (rows.take i ++ [s]))
        rw [hallRuns_snoc]
        refine dpa_app (dpa_ex (era_mono e2) hd) ?_
        have e0 : ((0 + (rows.take i).length : Nat) : Int) = (i : Int) := by rw [List.length_take]; omega
        rw [e0]
        exact dpa_era (e2 _ _ hl) (noL_enc _ _) hd2
    · rintro σ' H' ⟨e, ⟨xs, hl, hd⟩, x, y, rfl⟩
      walk_at "ret"
      intro H2 e2
      have ht : rows.take (rows.map V.str).length = rows := by simp
      rw [ht] at hd
      exact q p xs H2 hp (e.trans e2) (e2 _ _ hl) (dpa_ex (era_ex.trans e2) hd)
local macro_rules | `(tactic| walk_at "ev") => `(tactic| ((with_reducible apply spd_blocks_of) <;> (try walk_at "sd")))

/-! ### one block held against the hall -/
structure BlockOk (rows : List Str) (r p n ar ap : Int) : Prop where
  n1 : 1 ≤ n
  n60 : n ≤ 60
  p0 : 0 ≤ p
  p100 : p ≤ 100
  lt : ar < r ∨ (ar = r ∧ ap < p)
  ins : ∀ q, p ≤ q → q < p + n → isSeat rows r q = true
  left : isSeat rows r (p - 1) = false
  right : isSeat rows r (p + n) = false
def sp_law_block (K : PySem.W.Frag) : Sp := fun vs H Q _ => ∃ (a t t2 : Addr) (rows : List Str) (r p n ar ap : Int), vs = [.ref a, .ref t, .ref t2] ∧ SqL K H a (rows.map V.str) ∧ Short rows ∧ SqT K H t [.int r, .int p, .int n] ∧ SqT K H t2 [.int ar, .int ap] ∧ BlockOk rows r p n ar ap ∧ RetV (.bl true) H Q
theorem spv_law_block {K : PySem.W.Frag} {H : Hp} {a t t2 : Addr} {rows : List Str} {r p n ar ap : Int} (h : SqL K H a (rows.map V.str)) (hs : Short rows) (ht : SqT K H t [.int r, .int p, .int n]) (h2 : SqT K H t2 [.int ar, .int ap]) (ok : BlockOk rows r p n ar ap) :
    SpV (sp_law_block K) [.ref a, .ref t, .ref t2] H (.bl true) := fun H1 e Q q E => ⟨a, t, t2, rows, r, p, n, ar, ap, rfl, ex_l e h, hs, ex_t e ht, ex_t e h2, ok, fun H2 e2 => q H2 e2⟩
theorem ok_law_block {P : Program} {w : World} {K : PySem.W.Frag} {mg : Str → Option Value} {base : Heap} (T : Top K mg) : FnOk P w K mg base CX0 2 T.a_law_block T.f_law_block ["_law_rows", "_law_block_here", "_law_ahead"] (sp_law_block K) := by
  refine T.F_law_block.ok sc_law_block (fun vs H Q E h => ?_) (fun cdv A outer s H vs Q E hr h => ?_)
  · obtain ⟨a, t, t2, rows, r, p, n, ar, ap, rfl, _⟩ := h; rfl
  · obtain ⟨a, t, t2, rows, r, p, n, ar, ap, rfl, hS, hsh, ht, ht2, ok, q⟩ := h
    refine ⟨_, (pss_cons (ps_if (PW.pt (pw_or (pt_not (pt_val (pe_callB call_isi (by rfl) T.m_isinstance PyProof.Rows.boot_isinstance (pa_cons (pv 1) (pa_cons (pe_bltn (v := .ty "tuple") (by rfl) T.m_tuple PyProof.Rows.boot_tuple rfl) pa_nil))))) (pw_or1 (pt_cmpR op_ne (pe_callB call_len_seq (by rfl) T.m_len PySem.boot_len (pa_cons (pv 1) pa_nil)) pe_int (nomark _)))))
  (pss_one (ps_ret pe_bl))
  pss_nil)
  (pss_cons (ps_if (PW.pt (pw_or (pt_not (pt_val (pe_call (ok_law_whole T) (hr.mono (by decide)) (by rfl) T.g_law_whole T.F_law_whole.kp T.b_law_whole .nil pass0 (pa_cons (pe_ix ix_tup (pv 1) pe_int (fun _ _ => rfl)) pa_nil)))) (pw_or (pt_not (pt_val (pe_call (ok_law_whole T) (hr.mono (by decide)) (by rfl) T.g_law_whole T.F_law_whole.kp T.b_law_whole .nil pass0 (pa_cons (pe_ix ix_tup (pv 1) pe_int (fun _ _ => rfl)) pa_nil)))) (pw_or1 (pt_not (pt_val (pe_call (ok_law_whole T) (hr.mono (by decide)) (by rfl) T.g_law_whole T.F_law_whole.kp T.b_law_whole .nil pass0 (pa_cons (pe_ix ix_tup (pv 1) pe_int (fun _ _ => rfl)) pa_nil))))))))
  (pss_one (ps_ret pe_bl))
  pss_nil)
  (pss_cons (ps_if (PW.pt (pw_or (pt_cmpR op_lt (pe_ix ix_tup (pv 1) pe_int (fun _ _ => rfl)) pe_int (nomark _)) (pw_or (pt_cmpR op_gt (pe_ix ix_tup (pv 1) pe_int (fun _ _ => rfl)) pe_int (nomark _)) (pw_or1 (pt_not (pt_cmpR (op_ltT hr.units0) (pv 2) (pe_tup (pa_cons (pe_ix ix_tup (pv 1) pe_int (fun _ _ => rfl)) (pa_cons (pe_ix ix_tup (pv 1) pe_int (fun _ _ => rfl)) pa_nil))) (nomark _)))))))
  (pss_one (ps_ret pe_bl))
  pss_nil)
  (pss_cons (ps_for PassesOwn.never rfl (pi_range2 (by rfl) T.m_range (pa_cons (pe_ix ix_tup (pv 1) pe_int (fun _ _ => rfl)) (pa_cons (pe_op op_add (pe_ix ix_tup (pv 1) pe_int (fun _ _ => rfl)) (pe_ix ix_tup (pv 1) pe_int (fun _ _ => rfl))) pa_nil))) (pg_name (i := 3) sc_law_block.nd rfl (Or.inl rfl))
  (pss_one (ps_if (pt_not (pt_val (pe_call (ok_law_seat T) (hr.mono (by decide)) (by rfl) T.g_law_seat T.F_law_seat.kp T.b_law_seat .nil pass0 (pa_cons (pv 0) (pa_cons (pe_ix ix_tup (pv 1) pe_int (fun _ _ => rfl)) (pa_cons (pv 3) pa_nil))))))
  (pss_one (ps_ret pe_bl))
  pss_nil)))
  (pss_one (ps_ret (pe_and (pe_not (pe_call (ok_law_seat T) (hr.mono (by decide)) (by rfl) T.g_law_seat T.F_law_seat.kp T.b_law_seat .nil pass0 (pa_cons (pv 0) (pa_cons (pe_ix ix_tup (pv 1) pe_int (fun _ _ => rfl)) (pa_cons (pe_op op_sub (pe_ix ix_tup (pv 1) pe_int (fun _ _ => rfl)) pe_int) pa_nil))))) (pe_one (pe_not (pe_call (ok_law_seat T) (hr.mono (by decide)) (by rfl) T.g_law_seat T.F_law_seat.kp T.b_law_seat .nil pass0 (pa_cons (pv 0) (pa_cons (pe_ix ix_tup (pv 1) pe_int (fun _ _ => rfl)) (pa_cons (pe_op op_add (pe_ix ix_tup (pv 1) pe_int (fun _ _ => rfl)) (pe_ix ix_tup (pv 1) pe_int (fun _ _ => rfl))) pa_nil))))))))))))), ?_⟩
    walk_at "go"
    walk_at "when" <;> intro hb
    · simp at hb
    walk_at "when" <;> intro hb
    · simp at hb
    have h1 := ok.n1
    have h2 := ok.n60
    have h3 := ok.p0
    have h4 := ok.p100
    walk_at "when" <;> intro hb
    · exfalso
      have := ok.lt
      rw [lex2] at hb
      simp at hb
      omega
    apply Xb.sx_forR2
    · walk_at "ev"
    · omega
    case Pv => exact fun i σ H' => Ex H H' ∧ ∃ x, σ = [some (.ref a), some (.ref t), some (.ref t2), x]
    · exact fun H1 e => ⟨e, none, rfl⟩
    · rintro i σ' H' hi ⟨e, x, rfl⟩
      have hS1 := ex_l e hS
      have ht1 := ex_t e ht
      have hseat := ok.ins (p + (i : Int)) (by omega) (by omega)
      apply Xb.sx_last
      walk_at "when" <;> intro hb
      · rw [hseat] at hb
        cases hb
      · apply Xb.sx_next
        exact fun H1 e1 => ⟨e.trans e1, some (.int (p + (i : Int))), rfl⟩
    · rintro σ' H' ⟨e, x, rfl⟩
      have hS1 := ex_l e hS
      have ht1 := ex_t e ht
      walk_at "ret"
      intro H1 e1
      rw [ok.left, ok.right]
      exact q H1 (e.trans e1)
local macro_rules | `(tactic| walk_at "ev") => `(tactic| ((with_reducible apply spv_law_block) <;> (try walk_at "sd")))

/-! ### how often a sign stands in a text -/
theorem occ_one (x : Str) (c limit : Nat) : ∀ (l : List Nat) (st : Array Nat × Nat), (∀ i ∈ l, st.2 ≤ i) → l.Pairwise (· < ·) → st.1.size + l.length ≤ limit →
    (forIn l st (StrLaws.occBody x ⟨#[c]⟩ x.length limit)).run.fst.size = st.1.size + (l.filter fun i => x.cps.toList[i]? == some c).length
  | [], st, _, _, _ => by simp
  | i :: l, st, h1, h2, h3 => by
    rw [List.forIn_cons]
    unfold StrLaws.occBody
    have hp := List.pairwise_cons.mp h2
    have hi := h1 i (by simp)
    simp only [List.length_cons] at h3
    by_cases hc : x.cps.toList[i]? = some c
    · have hs := (StrLaws.subAt_one x c i).mpr hc
      rw [if_pos ⟨⟨⟨by omega, hi⟩, hs.1⟩, hs.2⟩]
      have ih := occ_one x c limit l (st.1.push i, i + (⟨#[c]⟩ : Str).length) (fun j hj => by
        have := hp.1 j hj
        show i + 1 ≤ j
        omega) hp.2 (by rw [Array.size_push]; omega)
      rw [List.filter_cons_of_pos (by rw [hc]; simp)]
      refine Eq.trans ih ?_
      rw [Array.size_push, List.length_cons]
      omega
    · rw [if_neg (fun q => hc ((StrLaws.subAt_one x c i).mp ⟨q.1.2, q.2⟩))]
      have ih := occ_one x c limit l (st.1, st.2) (fun j hj => h1 j (by simp [hj])) hp.2 (by show st.1.size + l.length ≤ limit; omega)
      rw [List.filter_cons_of_neg (by simpa using hc)]
      exact ih
theorem count_one (x : Str) (c : Nat) : Txt.count x ⟨#[c]⟩ = (((List.range x.length).filter fun i => x.cps.toList[i]? == some c).length : Nat) := by
  unfold Txt.count
  rw [StrLaws.occ_eq]
  have h := occ_one x c (x.length + 1) (List.range' 0 (x.length + 1 - 0)) (#[], 0) (fun _ _ => Nat.zero_le _) (by
    have := List.pairwise_lt_range' (s := 0) (n := x.length + 1)
    simpa using this) (by simp)
  rw [Array.length_toList]
  refine congrArg Nat.cast (Eq.trans h ?_)
  have e : List.range' 0 (x.length + 1 - 0) = List.range (x.length + 1) := by rw [List.range_eq_range']; simp
  rw [e, List.range_succ, List.filter_append]
  have hn : x.cps.toList[x.length]? = none := List.getElem?_eq_none (by rw [cps_len]; exact Nat.le_refl _)
  have e2 : ([x.length].filter fun i => x.cps.toList[i]? == some c) = [] := by
    apply List.filter_eq_nil_iff.mpr
    intro a ha
    obtain rfl := List.mem_singleton.mp ha
    rw [hn]; simp
  rw [e2, List.append_nil]
  simp
theorem count_o (s : Str) : Txt.count s ("o" : Str) = (((List.range s.length).filter (seatP s)).length : Nat) := by
  rw [sOf_o, ← sOf_one, count_one]
  have e : (fun i => s.cps.toList[i]? == some 111) = seatP s := by
    funext i; unfold seatP; simp
  rw [e]

/-! ### the blocks of a hall, one by one -/
def hallTs (g : Str → List (Nat × Nat)) : Nat → List Str → List (Nat × Nat × Nat)
  | _, [] => []
  | k, s :: rs => (g s).map (fun b => (k, b)) ++ hallTs g (k + 1) rs
def encT (t : Nat × Nat × Nat) : PyData := encR (t.1 : Int) t.2
theorem hallRuns_eq (g : Str → List (Nat × Nat)) : ∀ (rs : List Str) (k : Nat), hallRuns g k rs = (hallTs g k rs).map encT
  | [], k => rfl
  | s :: rs, k => by
    show encRs (k : Int) (g s) ++ hallRuns g (k + 1) rs = ((g s).map (fun b => (k, b)) ++ hallTs g (k + 1) rs).map encT
    rw [List.map_append, hallRuns_eq g rs (k + 1), List.map_map]
    rfl
theorem hallTs_mem {g : Str → List (Nat × Nat)} : ∀ (rs : List Str) (k : Nat) (t : Nat × Nat × Nat), t ∈ hallTs g k rs → k ≤ t.1 ∧ ∃ s, rs[t.1 - k]? = some s ∧ t.2 ∈ g s
  | [], k, t, h => by simp [hallTs] at h
  | s :: rs, k, t, h => by
    rcases List.mem_append.mp h with h | h
    · obtain ⟨b, hb, rfl⟩ := List.mem_map.mp h
      exact ⟨Nat.le_refl _, s, by simp, hb⟩
    · obtain ⟨h1, s', h2, h3⟩ := hallTs_mem rs (k + 1) t h
      refine ⟨by omega, s', ?_, h3⟩
      rw [show t.1 - k = (t.1 - (k + 1)) + 1 by omega, List.getElem?_cons_succ]
      exact h2
theorem hallTs_up {g : Str → List (Nat × Nat)} (hg : ∀ s, (g s).Pairwise fun b c => b.1 + b.2 < c.1) : ∀ (rs : List Str) (k : Nat), (hallTs g k rs).Pairwise fun t u => t.1 < u.1 ∨ (t.1 = u.1 ∧ t.2.1 + t.2.2 < u.2.1)
  | [], k => by simp [hallTs]
  | s :: rs, k => by
    refine List.pairwise_append.mpr ⟨?_, hallTs_up hg rs (k + 1), fun t ht u hu => ?_⟩
    · exact List.pairwise_map.mpr ((hg s).imp fun h => .inr ⟨rfl, h⟩)
    · obtain ⟨b, _, rfl⟩ := List.mem_map.mp ht
      have := (hallTs_mem rs (k + 1) u hu).1
      exact .inl (by show k < u.1; omega)
theorem hallTs_sum {g : Str → List (Nat × Nat)} {f : Str → Nat} (hg : ∀ s, ((g s).map (·.2)).sum = f s) : ∀ (rs : List Str) (k : Nat), ((hallTs g k rs).map (·.2.2)).sum = (rs.map f).sum
  | [], k => rfl
  | s :: rs, k => by
    show ((((g s).map (fun b => (k, b))) ++ hallTs g (k + 1) rs).map (·.2.2)).sum = _
    rw [List.map_append, List.sum_append_nat, hallTs_sum hg rs (k + 1), List.map_map, List.map_cons, List.sum_cons, ← hg s]
    rfl
/-- seats of the rows -/
theorem isSeat_nat {rows : List Str} {r : Nat} {s : Str} (hs : rows[r]? = some s) (p : Nat) : isSeat rows (r : Int) (p : Int) = seatP s p := by
  unfold isSeat signAt seatP
  rw [if_pos ⟨by omega, by omega⟩]
  simp [hs]
theorem isSeat_neg {rows : List Str} {r p : Int} (h : p < 0) : isSeat rows r p = false := by
  unfold isSeat signAt
  rw [if_neg (by omega)]
  rfl
theorem blockOk_of {rows : List Str} {t : Nat × Nat × Nat} (hsh : ∀ s ∈ rows, s.length ≤ 60) (ht : t ∈ hallTs blocksRow 0 rows) {ar ap : Int} (hlt : ar < (t.1 : Int) ∨ (ar = (t.1 : Int) ∧ ap < (t.2.1 : Int))) : BlockOk rows (t.1 : Int) (t.2.1 : Int) (t.2.2 : Int) ar ap := by
  obtain ⟨_, s, hs, hb⟩ := hallTs_mem rows 0 t ht
  rw [Nat.sub_zero] at hs
  have k := blocksRow_ok s
  have hl := k.lt _ hb
  have ok := k.ok _ hb
  have h60 := hsh s (List.mem_of_getElem? hs)
  refine ⟨by have := ok.1; omega, by omega, by omega, by omega, hlt, fun q h1 h2 => ?_, ?_, ?_⟩
  · obtain ⟨n, rfl⟩ : ∃ n : Nat, q = (n : Int) := ⟨q.toNat, by omega⟩
    rw [isSeat_nat hs]
    exact ok.2.1 n (by omega) (by omega)
  · rcases ok.2.2.1 with h0 | h0
    · exact isSeat_neg (by omega)
    · by_cases hz : t.2.1 = 0
      · exact isSeat_neg (by omega)
      · rw [show ((t.2.1 : Int) - 1) = ((t.2.1 - 1 : Nat) : Int) by omega, isSeat_nat hs]
        exact h0
  · rw [show ((t.2.1 : Int) + (t.2.2 : Int)) = ((t.2.1 + t.2.2 : Nat) : Int) by omega, isSeat_nat hs]
    exact ok.2.2.2

/-! ### the law -/
theorem good_ok {s : Str} (h : GoodRow s) : PyData.strOk s = true := by
  unfold PyData.strOk
  rw [Array.all_eq_true]
  intro i hi
  have hm : s.cps[i] ∈ s.cps.toList := by simp
  rcases h.2 _ hm with e | e <;> rw [e] <;> decide
def sp_law (K : PySem.W.Frag) : Sp := fun vs H Q _ => ∃ (a : Addr) (ns : List Int), vs = [.ref a] ∧ SqL K H a (ns.map V.int) ∧ ns.length ≤ 63 ∧ (∀ z ∈ ns, Builtin.Int.intBits z ≤ 1048576) ∧ ∀ H', Q (.bl true) H'
/-- what stood ahead of the i-th block -/
def aheadOf (ts : List (Nat × Nat × Nat)) : Nat → Int × Int
  | 0 => (-1, -1)
  | i + 1 => match ts[i]? with
    | some t => ((t.1 : Int), (t.2.1 : Int))
    | none => (-1, -1)
theorem ahead_lt {ts : List (Nat × Nat × Nat)} (h : ts.Pairwise fun t u => t.1 < u.1 ∨ (t.1 = u.1 ∧ t.2.1 + t.2.2 < u.2.1)) {i : Nat} {t : Nat × Nat × Nat} (ht : ts[i]? = some t) :
    (aheadOf ts i).1 < (t.1 : Int) ∨ ((aheadOf ts i).1 = (t.1 : Int) ∧ (aheadOf ts i).2 < (t.2.1 : Int)) := by
  cases i with
  | zero =>
    left
    show (-1 : Int) < _
    omega
  | succ i =>
    have hlt := (List.getElem?_eq_some_iff.mp ht).1
    have hi : i < ts.length := by omega
    have e : ts[i]? = some ts[i] := List.getElem?_eq_getElem hi
    have hp := List.pairwise_iff_getElem.mp h i (i + 1) hi hlt (by omega)
    have e2 : ts[i + 1] = t := (List.getElem?_eq_some_iff.mp ht).2
    rw [e2] at hp
    have ea : aheadOf ts (i + 1) = ((ts[i].1 : Int), (ts[i].2.1 : Int)) := by
      show (match ts[i]? with | some t => ((t.1 : Int), (t.2.1 : Int)) | none => (-1, -1)) = _
      rw [e]
    rw [ea]
    show (ts[i].1 : Int) < _ ∨ ((ts[i].1 : Int) = _ ∧ (ts[i].2.1 : Int) < _)
    omega
theorem sum_take_succ {ts : List (Nat × Nat × Nat)} {i : Nat} {t : Nat × Nat × Nat} (ht : ts[i]? = some t) : ((ts.take (i + 1)).map (·.2.2)).sum = ((ts.take i).map (·.2.2)).sum + t.2.2 := by
  rw [List.take_add_one, ht]
  simp [List.sum_append_nat]
theorem cast_sum {α : Type} (f : α → Nat) : ∀ l : List α, (l.map fun x => ((f x : Nat) : Int)).sum = (((l.map f).sum : Nat) : Int)
  | [] => rfl
  | x :: l => by
    rw [List.map_cons, List.sum_cons, cast_sum f l, List.map_cons, List.sum_cons]
    omega
theorem ok_law {P : Program} {w : World} {K : PySem.W.Frag} {mg : Str → Option Value} {base : Heap} (T : Top K mg) : FnOk P w K mg base CX0 3 T.a_law T.f_law ["_law_script"] (sp_law K) := by
  refine T.F_law.ok sc_law (fun vs H Q E h => ?_) (fun cdv A outer s H vs Q E hr h => ?_)
  · obtain ⟨a, ns, rfl, _⟩ := h; rfl
  · obtain ⟨a, ns, rfl, hS, _, _, q⟩ := h
    refine ⟨_, (pss_cons (ps_set (i := 1) sc_law.nd rfl (Or.inl rfl) (pe_call (ok_law_hall_by T) (hr.mono (by decide)) (by rfl) T.g_law_hall_by T.F_law_hall_by.kp T.b_law_hall_by .nil pass0 (pa_cons (pv 0) (pa_cons pe_int pa_nil))))
  (pss_cons (ps_set (i := 2) sc_law.nd rfl (Or.inl rfl) (pe_callTy call_list_of (by rfl) T.m_list PyProof.Rows.boot_list (pa_cons (pv 1) pa_nil)))
  (pss_cons (ps_set (i := 3) sc_law.nd rfl (Or.inl rfl) (pe_call (ok_need_hall T) (hr.mono (by decide)) (by rfl) T.g_need_hall T.F_need_hall.kp T.b_need_hall .nil pass0 (pa_cons (pv 2) pa_nil)))
  (pss_cons (ps_if (PW.pt (pw_or (pt_not (pt_val (pe_callB call_isi (by rfl) T.m_isinstance PyProof.Rows.boot_isinstance (pa_cons (pv 3) (pa_cons (pe_bltn (v := .ty "list") (by rfl) T.m_list PyProof.Rows.boot_list rfl) pa_nil))))) (pw_or (pt_cmpR (op_neD hr.units) (pv 3) (pv 1) (nomark _)) (pw_or1 (pt_cmpR (op_neD hr.units) (pv 2) (pv 1) (nomark _))))))
  (pss_one (ps_ret pe_bl))
  pss_nil)
  (pss_cons (ps_set (i := 4) sc_law.nd rfl (Or.inl rfl) (pe_call (ok_blocks_of T) (hr.mono (by decide)) (by rfl) T.g_blocks_of T.F_blocks_of.kp T.b_blocks_of .nil pass0 (pa_cons (pv 2) pa_nil)))
  (pss_cons (ps_if (PW.pt (pw_or (pt_not (pt_val (pe_callB call_isi (by rfl) T.m_isinstance PyProof.Rows.boot_isinstance (pa_cons (pv 4) (pa_cons (pe_bltn (v := .ty "list") (by rfl) T.m_list PyProof.Rows.boot_list rfl) pa_nil))))) (pw_or1 (pt_cmpR (op_neD hr.units) (pv 2) (pv 1) (nomark _)))))
  (pss_one (ps_ret pe_bl))
  pss_nil)
  (pss_cons (ps_set (i := 5) sc_law.nd rfl (Or.inl rfl) (pe_tup (pa_cons (pe_un un_neg pe_int) (pa_cons (pe_un un_neg pe_int) pa_nil))))
  (pss_cons (ps_set (i := 6) sc_law.nd rfl (Or.inl rfl) (pe_callB (cr_sum rfl) (by rfl) T.m_sum PyProof.Rows.boot_sum (pa_cons (by exact (pe_lc (own := [("_law_line", 12)]) (g := (gName 12)) (tt := tYes) rfl sc_law.nd (by exact (pi_list (pv 1))) (blkOk_by (N := ["_law_script", "_law_rows", "_law_handed", "_law_good", "_law_found", "_law_ahead", "_law_left", "_law_block_here", "_law_far", "_law_row", "_law_place", "_law_told", "_law_line"]) (sc := defScope s_law) (by decide +kernel)) (fun _ _ _ _ _ => by exact (pg_name (i := 12) sc_law.nd rfl (Or.inl rfl))) (fun _ _ _ _ _ => by exact pts_nil) (fun _ _ _ _ _ => by exact (pe_m1 PySem.F.slot_str_count PySem.F.type_str_count mt_count (pv 12) pe_str)))) pa_nil)))
  (pss_cons (ps_for PassesOwn.never rfl (pi_list (pv 4)) (pg_name (i := 7) sc_law.nd rfl (Or.inl rfl))
  (pss_cons (ps_if (pt_not (pt_val (pe_call (ok_law_block T) (hr.mono (by decide)) (by rfl) T.g_law_block T.F_law_block.kp T.b_law_block .nil pass0 (pa_cons (pv 1) (pa_cons (pv 7) (pa_cons (pv 5) pa_nil))))))
  (pss_one (ps_ret pe_bl))
  pss_nil)
  (pss_cons (ps_set (i := 5) sc_law.nd rfl (Or.inl rfl) (pe_tup (pa_cons (pe_ix ix_tup (pv 7) pe_int (fun _ _ => rfl)) (pa_cons (pe_ix ix_tup (pv 7) pe_int (fun _ _ => rfl)) pa_nil))))
  (pss_one (ps_set (i := 6) sc_law.nd rfl (Or.inl rfl) (pe_op op_sub (pv 6) (pe_ix ix_tup (pv 7) pe_int (fun _ _ => rfl))))))))
  (pss_cons (ps_if (pt_cmpR op_ne (pv 6) pe_int (nomark _))
  (pss_one (ps_ret pe_bl))
  pss_nil)
  (pss_cons (ps_set (i := 8) sc_law.nd rfl (Or.inl rfl) (pe_op op_add (pe_op op_pow pe_int pe_int) (pe_callB call_abs (by rfl) T.m_abs PyProof.Rows.boot_abs (pa_cons (pe_call (ok_law_cell_at T) (hr.mono (by decide)) (by rfl) T.g_law_cell_at T.F_law_cell_at.kp T.b_law_cell_at .nil pass0 (pa_cons (pv 0) (pa_cons pe_int pa_nil))) pa_nil))))
  (pss_cons (ps_set (i := 9) sc_law.nd rfl (Or.inl rfl) (pe_op op_sub (pe_op op_mod (pe_call (ok_law_cell_at T) (hr.mono (by decide)) (by rfl) T.g_law_cell_at T.F_law_cell_at.kp T.b_law_cell_at .nil pass0 (pa_cons (pv 0) (pa_cons pe_int pa_nil))) (pe_op op_add (pe_callB call_len_seq (by rfl) T.m_len PySem.boot_len (pa_cons (pv 1) pa_nil)) pe_int)) pe_int))
  (pss_cons (ps_set (i := 10) sc_law.nd rfl (Or.inl rfl) (pe_op op_sub (pe_op op_mod (pe_call (ok_law_cell_at T) (hr.mono (by decide)) (by rfl) T.g_law_cell_at T.F_law_cell_at.kp T.b_law_cell_at .nil pass0 (pa_cons (pv 0) (pa_cons pe_int pa_nil))) pe_int) pe_int))
  (pss_cons (ps_if (pt_cmpR op_eq (pe_op op_mod (pe_op op_fdiv (pe_call (ok_law_cell_at T) (hr.mono (by decide)) (by rfl) T.g_law_cell_at T.F_law_cell_at.kp T.b_law_cell_at .nil pass0 (pa_cons (pv 0) (pa_cons pe_int pa_nil))) pe_int) pe_int) pe_int (nomark _))
  (pss_one (ps_set (i := 9) sc_law.nd rfl (Or.inl rfl) (pe_ix ix_list (pe_lst (pa_cons (pv 8) (pa_cons (pe_op op_sub pe_int (pv 8)) pa_nil))) (pe_op op_mod (pe_call (ok_law_cell_at T) (hr.mono (by decide)) (by rfl) T.g_law_cell_at T.F_law_cell_at.kp T.b_law_cell_at .nil pass0 (pa_cons (pv 0) (pa_cons pe_int pa_nil))) pe_int) (fun _ _ => rfl))))
  pss_nil)
  (pss_cons (ps_if (pt_cmpR op_eq (pe_op op_mod (pe_op op_fdiv (pe_call (ok_law_cell_at T) (hr.mono (by decide)) (by rfl) T.g_law_cell_at T.F_law_cell_at.kp T.b_law_cell_at .nil pass0 (pa_cons (pv 0) (pa_cons pe_int pa_nil))) pe_int) pe_int) pe_int (nomark _))
  (pss_one (ps_set (i := 10) sc_law.nd rfl (Or.inl rfl) (pe_ix ix_list (pe_lst (pa_cons (pv 8) (pa_cons (pe_op op_sub pe_int (pv 8)) pa_nil))) (pe_op op_mod (pe_op op_fdiv (pe_call (ok_law_cell_at T) (hr.mono (by decide)) (by rfl) T.g_law_cell_at T.F_law_cell_at.kp T.b_law_cell_at .nil pass0 (pa_cons (pv 0) (pa_cons pe_int pa_nil))) pe_int) pe_int) (fun _ _ => rfl))))
  pss_nil)
  (pss_cons (ps_set (i := 11) sc_law.nd rfl (Or.inl rfl) (pe_call (ok_is_seat T) (hr.mono (by decide)) (by rfl) T.g_is_seat T.F_is_seat.kp T.b_is_seat .nil pass0 (pa_cons (pe_callTy call_list_of (by rfl) T.m_list PyProof.Rows.boot_list (pa_cons (pv 1) pa_nil)) (pa_cons (pv 9) (pa_cons (pv 10) pa_nil)))))
  (pss_one (ps_ret (pe_and (pe_callB call_isi (by rfl) T.m_isinstance PyProof.Rows.boot_isinstance (pa_cons (pv 11) (pa_cons (pe_bltn (v := .ty "bool") (by rfl) T.m_bool PyProof.Rows.boot_bool rfl) pa_nil))) (pe_one (pe_cmpR op_eq (pv 11) (pe_call (ok_law_seat T) (hr.mono (by decide)) (by rfl) T.g_law_seat T.F_law_seat.kp T.b_law_seat .nil pass0 (pa_cons (pv 1) (pa_cons (pv 9) (pa_cons (pv 10) pa_nil)))) (nomark _)))))))))))))))))))))), ?_⟩
    walk_at "go"
    have hg := hallBy_good ns 0
    apply Xb.sx_asgL
    · walk_at "ev"
    intro p1 H1 hp1 e1 h1
    generalize hallBy ns 0 = rows at hg h1
    have hsh := hg.short
    have hS1 := ex_l e1 hS
    have hR1 : SqL K H1 p1 (rows.map V.str) := sq_of h1
    apply Xb.sx_asgL
    · walk_at "ev"
    intro p2 H2 hp2 e2 h2
    have hS2 := ex_l e2 hS1
    have hR2 := ex_l e2 hR1
    have hH2 : SqL K H2 p2 (rows.map V.str) := sq_of h2
    apply Xb.sx_asgL
    · walk_at "ev"
    intro p3 H3 hp3 e3 h3
    have hS3 := ex_l e3 hS2
    have hR3 := ex_l e3 hR2
    have hH3 := ex_l e3 hH2
    have hG3 : SqL K H3 p3 (rows.map V.str) := sq_of h3
    have d1 := dp_strs hR3
    have d2 := dp_strs hH3
    have d3 := dp_strs hG3
    have hshape : SeqAt.shaped (.list (rows.map PyData.str)) = true := shaped_strs fun s hs => good_ok (hg.2.2 s hs)
    have heq := eqv_same hshape
    walk_at "skip"
    · rw [heq]; rfl
    have hrl : rows.length ≤ 100 := by have := hg.2.1; omega
    apply Xb.sx_asgDs
    · walk_at "ev"
    intro p4 xs H4 hp4 e4 h4 hd4
    have hS4 := ex_l e4 hS3
    have hR4 := ex_l e4 hR3
    have hH4 := ex_l e4 hH3
    have hF4 : SqL K H4 p4 xs := sq_of h4
    have d5 := dp_strs hR4
    have d6 := dp_strs hH4
    walk_at "skip"
    · rw [heq]; rfl
    apply Xb.sx_asgU
    · walk_at "ev"
    intro p5 H5 hp5 e5 h5
    have hS5 := ex_l e5 hS4
    have hR5 := ex_l e5 hR4
    have hF5 := ex_l e5 hF4
    have hA5 : SqT K H5 p5 [.int (-1), .int (-1)] := st_of h5
    have hd5 := dpa_ex e5 hd4
    rw [hallRuns_eq] at hd5
    -- the seats of the hall
    have hcount : (rows.map fun s => Txt.count s ("o" : Str)).sum = (((hallTs blocksRow 0 rows).map (·.2.2)).sum : Nat) := by
      rw [hallTs_sum (f := fun s => ((List.range s.length).filter (seatP s)).length) (fun s => (blocksRow_ok s).sum) rows 0, ← cast_sum]
      congr 1
      exact List.map_congr_left fun s _ => count_o s
    have hup := hallTs_up (g := blocksRow) (fun s => (blocksRow_ok s).up) rows 0
    have hblk : ∀ t ∈ hallTs blocksRow 0 rows, ∀ ar ap : Int, (ar < (t.1 : Int) ∨ (ar = (t.1 : Int) ∧ ap < (t.2.1 : Int))) → BlockOk rows (t.1 : Int) (t.2.1 : Int) (t.2.2 : Int) ar ap := fun t ht ar ap h => blockOk_of (fun s hs => (hg.2.2 s hs).1) ht h
    apply Xb.sx_asg (v := .int (((hallTs blocksRow 0 rows).map (·.2.2)).sum : Nat))
    · refine Evl.ev_is (v := .int ((rows.map fun s => Txt.count s ("o" : Str)).sum)) ?_ (by rw [hcount])
      apply Xb.ev_cbL (xs := (rows.map fun s => Txt.count s ("o" : Str)).map V.int)
      · rw [List.map_map]
        show EvL _ _ _ (rows.map fun s => V.int (Txt.count s ("o" : Str)))
        apply Xb.el_map (g := V.str)
        · walk_at "ev"
        · exact hR5
        · omega
        · exact fun x => rfl
        · intro u H6 e6 hu
          walk_at "ev"
      · exact fun p H6 hp e6 => rc_sum (sq_of hp)
    generalize hallTs blocksRow 0 rows = ts at hd5 hcount hup hblk
    apply Xb.sx_forL
    · walk_at "ev"
    · exact hF5
    case Pv => exact fun i σ H' => Ex H5 H' ∧ ∃ (qa : Addr) (x : Option V), SqT K H' qa [.int (aheadOf ts i).1, .int (aheadOf ts i).2] ∧ σ = [some (.ref a), some (.ref p1), some (.ref p2), some (.ref p3), some (.ref p4), some (.ref qa), some (.int (((ts.map (·.2.2)).sum : Nat) - (((ts.take i).map (·.2.2)).sum : Nat) : Int)), x, none, none, none, none, none]
    · exact fun H6 e6 => ⟨e6, p5, none, ex_t e6 hA5, by simp⟩
    · exact fun i σ' H' _ k => ex_l k.1 hF5
    · rintro i v σ' H' hv ⟨e, qa, x, hqa, rfl⟩
      obtain ⟨d, hd, hdp⟩ := dpa_get (dpa_ex e hd5) hv
      rw [List.getElem?_map] at hd
      obtain ⟨t, ht, rfl⟩ := Option.map_eq_some_iff.mp hd
      have hsq : ∃ b, v = .ref b ∧ SqT K H' b [.int (t.1 : Int), .int (t.2.1 : Int), .int (t.2.2 : Int)] := by
        cases hdp with
        | tup hs ha =>
          refine ⟨_, rfl, ?_⟩
          cases ha with
          | cons a1 ha =>
            cases ha with
            | cons a2 ha =>
              cases ha with
              | cons a3 ha =>
                cases ha
                cases a1
                cases a2
                cases a3
                exact hs
      obtain ⟨b, rfl, hbt⟩ := hsq
      have hRi := ex_l e hR5
      have hok := hblk t (List.mem_of_getElem? ht) _ _ (ahead_lt hup ht)
      walk_at "skip"
      · rfl
      apply Xb.sx_asgU
      · walk_at "ev"
      intro p6 H6 hp6 e6 h6
      have hb6 := ex_t e6 hbt
      apply Xb.sx_asg1
      · walk_at "ev"
      · intro H7 e7
        have e8 := ((e.trans e6).trans e7)
        refine ⟨e8, p6, some (.ref b), st_of (e7 _ _ ?_), ?_⟩
        · have : aheadOf ts (i + 1) = ((t.1 : Int), (t.2.1 : Int)) := by
            show (match ts[i]? with | some t => ((t.1 : Int), (t.2.1 : Int)) | none => (-1, -1)) = _
            rw [ht]
          rw [this]
          exact h6
        · have hs := sum_take_succ ht
          have e9 : (((ts.map (·.2.2)).sum : Nat) : Int) - (((ts.take (i + 1)).map (·.2.2)).sum : Nat) = (((ts.map (·.2.2)).sum : Nat) : Int) - (((ts.take i).map (·.2.2)).sum : Nat) - (t.2.2 : Int) := by
            rw [hs]
            omega
          rw [e9]
          rfl
    · rintro σ' H' ⟨e, qa, x, hqa, rfl⟩
      have hS6 := ex_l e hS5
      have hR6 := ex_l e hR5
      have htk : ts.take xs.length = ts := by
        have := dpa_len hd5
        rw [List.length_map] at this
        rw [this]
        exact List.take_length
      rw [htk]
      walk_at "skip"
      · simp
      walk_at "asg"
      walk_at "asg"
      walk_at "asg"
      have far : ∃ f : Int, f = 10 ^ 12 + (if cellAt ns 6 < 0 then -cellAt ns 6 else cellAt ns 6) := ⟨_, rfl⟩
      obtain ⟨f, hf⟩ := far
      have hf' : (10 : Int) ^ (12 : Int).toNat + (if cellAt ns 6 < 0 then -cellAt ns 6 else cellAt ns 6) = f := hf.symm
      rw [hf']
      apply Xb.sx_ifAsg (v := .int (if cellAt ns 4 / 50 % 7 = 1 then (if cellAt ns 6 % 2 = 0 then f else 0 - f) else cellAt ns 4 % ((rows.map V.str).length + 4) - 2))
      · walk_at "ev"
      · intro hb
        have hb' : cellAt ns 4 / 50 % 7 = 1 := by simpa using hb
        rw [if_pos hb']
        apply Xb.ev_ixNL (i := cellAt ns 6 % 2)
        · walk_at "ev"
        · walk_at "ev"
        · exact at_twoI (by omega)
      · intro hb
        have hb' : ¬ cellAt ns 4 / 50 % 7 = 1 := by simpa using hb
        rw [if_neg hb']
        rfl
      apply Xb.sx_ifAsg (v := .int (if cellAt ns 5 / 70 % 7 = 1 then (if cellAt ns 6 / 2 % 2 = 0 then f else 0 - f) else cellAt ns 5 % 66 - 2))
      · walk_at "ev"
      · intro hb
        have hb' : cellAt ns 5 / 70 % 7 = 1 := by simpa using hb
        rw [if_pos hb']
        apply Xb.ev_ixNL (i := cellAt ns 6 / 2 % 2)
        · walk_at "ev"
        · walk_at "ev"
        · exact at_twoI (by omega)
      · intro hb
        have hb' : ¬ cellAt ns 5 / 70 % 7 = 1 := by simpa using hb
        rw [if_neg hb']
        rfl
      generalize (if cellAt ns 4 / 50 % 7 = 1 then (if cellAt ns 6 % 2 = 0 then f else 0 - f) else cellAt ns 4 % ((rows.map V.str).length + 4) - 2) = rr
      generalize (if cellAt ns 5 / 70 % 7 = 1 then (if cellAt ns 6 / 2 % 2 = 0 then f else 0 - f) else cellAt ns 5 % 66 - 2) = pp
      apply Xb.sx_asg (v := .bl (isSeat rows rr pp))
      · apply Xb.ev_callL (vs := [.int rr, .int pp]) (xs := rows.map V.str)
        · walk_at "ev"
        · walk_at "ev"
        · exact fun p H1 hp e1 => spv_is_seat hp hsh
      walk_at "ret"
      intro H7 e7
      simp
      exact q H7

theorem all_mk {l : PySem.W.OpenLaw} {w : World} {K : PySem.W.Frag} {h : Heap} {mg : Str → Option Value} {fa f0 f1 f2 f3 f4 f5 f6 f7 f8 f9 f10 f11 : Addr} (X : K.In h) (G : h.Ns mainGlobals mg) (hfa : mg "law" = some (.ref fa))
    {od0 an0 od1 an1 od2 an2 od3 an3 od4 an4 od5 an5 od6 an6 od7 an7 od8 an8 od9 an9 od10 an10 od11 an11 : Option Addr} {sl0 sl1 sl2 sl3 sl4 sl5 sl6 sl7 sl8 sl9 sl10 sl11 : Array (Option Value)} {oc0 kV0 dc0 pm0 cd0 ct0 oc1 kV1 dc1 pm1 cd1 ct1 oc2 kV2 dc2 pm2 cd2 ct2 oc3 kV3 dc3 pm3 cd3 ct3 oc4 kV4 dc4 pm4 cd4 ct4 oc5 kV5 dc5 pm5 cd5 ct5 oc6 kV6 dc6 pm6 cd6 ct6 oc7 kV7 dc7 pm7 cd7 ct7 oc8 kV8 dc8 pm8 cd8 ct8 oc9 kV9 dc9 pm9 cd9 ct9 oc10 kV10 dc10 pm10 cd10 ct10 oc11 kV11 dc11 pm11 cd11 ct11 : Value}
    {u0 u1 u2 u3 : Value}
    (a0 : PySem.W.nsIn K mainGlobals "need_hall" = some (some (.ref f0))) (l0 : K.lookup f0 = some ⟨oc0, od0, .func (PySem.W.fnOf "need_hall" "need_hall" (defArgs s_need_hall) (defBody s_need_hall) (defScope s_need_hall) .none kV0 dc0 pm0 an0 cd0 ct0), sl0⟩) (c0 : PySem.W.codeIn K cd0 "need_hall" = true) (k0 : PySem.W.keepIn K (.ref f0) = true)
    (a1 : PySem.W.nsIn K mainGlobals "need_row" = some (some (.ref f1))) (l1 : K.lookup f1 = some ⟨oc1, od1, .func (PySem.W.fnOf "need_row" "need_row" (defArgs s_need_row) (defBody s_need_row) (defScope s_need_row) .none kV1 dc1 pm1 an1 cd1 ct1), sl1⟩) (c1 : PySem.W.codeIn K cd1 "need_row" = true) (k1 : PySem.W.keepIn K (.ref f1) = true)
    (a2 : PySem.W.nsIn K mainGlobals "blocks_of" = some (some (.ref f2))) (l2 : K.lookup f2 = some ⟨oc2, od2, .func (PySem.W.fnOf "blocks_of" "blocks_of" (defArgs s_blocks_of) (defBody s_blocks_of) (defScope s_blocks_of) .none kV2 dc2 pm2 an2 cd2 ct2), sl2⟩) (c2 : PySem.W.codeIn K cd2 "blocks_of" = true) (k2 : PySem.W.keepIn K (.ref f2) = true)
    (a3 : PySem.W.nsIn K mainGlobals "blocks_of_row" = some (some (.ref f3))) (l3 : K.lookup f3 = some ⟨oc3, od3, .func (PySem.W.fnOf "blocks_of_row" "blocks_of_row" (defArgs s_blocks_of_row) (defBody s_blocks_of_row) (defScope s_blocks_of_row) .none kV3 dc3 pm3 an3 cd3 ct3), sl3⟩) (c3 : PySem.W.codeIn K cd3 "blocks_of_row" = true) (k3 : PySem.W.keepIn K (.ref f3) = true)
    (a4 : PySem.W.nsIn K mainGlobals "is_seat" = some (some (.ref f4))) (l4 : K.lookup f4 = some ⟨oc4, od4, .func (PySem.W.fnOf "is_seat" "is_seat" (defArgs s_is_seat) (defBody s_is_seat) (defScope s_is_seat) .none kV4 dc4 pm4 an4 cd4 ct4), sl4⟩) (c4 : PySem.W.codeIn K cd4 "is_seat" = true) (k4 : PySem.W.keepIn K (.ref f4) = true)
    (a5 : PySem.W.nsIn K mainGlobals "_law_cell_at" = some (some (.ref f5))) (l5 : K.lookup f5 = some ⟨oc5, od5, .func (PySem.W.fnOf "_law_cell_at" "_law_cell_at" (defArgs s_law_cell_at) (defBody s_law_cell_at) (defScope s_law_cell_at) .none kV5 dc5 pm5 an5 cd5 ct5), sl5⟩) (c5 : PySem.W.codeIn K cd5 "_law_cell_at" = true) (k5 : PySem.W.keepIn K (.ref f5) = true)
    (a6 : PySem.W.nsIn K mainGlobals "_law_whole" = some (some (.ref f6))) (l6 : K.lookup f6 = some ⟨oc6, od6, .func (PySem.W.fnOf "_law_whole" "_law_whole" (defArgs s_law_whole) (defBody s_law_whole) (defScope s_law_whole) .none kV6 dc6 pm6 an6 cd6 ct6), sl6⟩) (c6 : PySem.W.codeIn K cd6 "_law_whole" = true) (k6 : PySem.W.keepIn K (.ref f6) = true)
    (a7 : PySem.W.nsIn K mainGlobals "_law_row_by" = some (some (.ref f7))) (l7 : K.lookup f7 = some ⟨oc7, od7, .func (PySem.W.fnOf "_law_row_by" "_law_row_by" (defArgs s_law_row_by) (defBody s_law_row_by) (defScope s_law_row_by) .none kV7 dc7 pm7 an7 cd7 ct7), sl7⟩) (c7 : PySem.W.codeIn K cd7 "_law_row_by" = true) (k7 : PySem.W.keepIn K (.ref f7) = true)
    (a8 : PySem.W.nsIn K mainGlobals "_law_hall_by" = some (some (.ref f8))) (l8 : K.lookup f8 = some ⟨oc8, od8, .func (PySem.W.fnOf "_law_hall_by" "_law_hall_by" (defArgs s_law_hall_by) (defBody s_law_hall_by) (defScope s_law_hall_by) .none kV8 dc8 pm8 an8 cd8 ct8), sl8⟩) (c8 : PySem.W.codeIn K cd8 "_law_hall_by" = true) (k8 : PySem.W.keepIn K (.ref f8) = true)
    (a9 : PySem.W.nsIn K mainGlobals "_law_seat" = some (some (.ref f9))) (l9 : K.lookup f9 = some ⟨oc9, od9, .func (PySem.W.fnOf "_law_seat" "_law_seat" (defArgs s_law_seat) (defBody s_law_seat) (defScope s_law_seat) .none kV9 dc9 pm9 an9 cd9 ct9), sl9⟩) (c9 : PySem.W.codeIn K cd9 "_law_seat" = true) (k9 : PySem.W.keepIn K (.ref f9) = true)
    (a10 : PySem.W.nsIn K mainGlobals "_law_block" = some (some (.ref f10))) (l10 : K.lookup f10 = some ⟨oc10, od10, .func (PySem.W.fnOf "_law_block" "_law_block" (defArgs s_law_block) (defBody s_law_block) (defScope s_law_block) .none kV10 dc10 pm10 an10 cd10 ct10), sl10⟩) (c10 : PySem.W.codeIn K cd10 "_law_block" = true) (k10 : PySem.W.keepIn K (.ref f10) = true)
    (a11 : PySem.W.nsIn K mainGlobals "law" = some (some (.ref f11))) (l11 : K.lookup f11 = some ⟨oc11, od11, .func (PySem.W.fnOf "law" "law" (defArgs s_law) (defBody s_law) (defScope s_law) .none kV11 dc11 pm11 an11 cd11 ct11), sl11⟩) (c11 : PySem.W.codeIn K cd11 "law" = true) (k11 : PySem.W.keepIn K (.ref f11) = true)
    (z0 : PySem.W.nsIn K mainGlobals "abs" = some none)
    (z1 : PySem.W.nsIn K mainGlobals "bool" = some none)
    (z2 : PySem.W.nsIn K mainGlobals "enumerate" = some none)
    (z3 : PySem.W.nsIn K mainGlobals "int" = some none)
    (z4 : PySem.W.nsIn K mainGlobals "isinstance" = some none)
    (z5 : PySem.W.nsIn K mainGlobals "len" = some none)
    (z6 : PySem.W.nsIn K mainGlobals "list" = some none)
    (z7 : PySem.W.nsIn K mainGlobals "range" = some none)
    (z8 : PySem.W.nsIn K mainGlobals "str" = some none)
    (z9 : PySem.W.nsIn K mainGlobals "sum" = some none)
    (z10 : PySem.W.nsIn K mainGlobals "tuple" = some none)
    (v0 : PySem.W.nsIn K mainGlobals "GAP" = some (some u0)) (w0 : RelV (.str ".") u0)
    (v1 : PySem.W.nsIn K mainGlobals "MOST_PLACES" = some (some u1)) (w1 : RelV (.int 60) u1)
    (v2 : PySem.W.nsIn K mainGlobals "MOST_ROWS" = some (some u2)) (w2 : RelV (.int 40) u2)
    (v3 : PySem.W.nsIn K mainGlobals "SEAT" = some (some u3)) (w3 : RelV (.str "o") u3)
    : ∃ fd : FuncData, (∀ (s : Shared) (v : Value), BindsTo s fd ⟨[v], []⟩ [("_law_script", v)]) ∧ ∀ base : Heap, K.In base → base.Ns mainGlobals mg → FnOk l.prog w K mg base CX0 3 fa fd ["_law_script"] (sp_law K) := by
  have e := hfa.symm.trans (PySem.W.mg_of X G a11)
  cases e
  have F0 := fun_mk (st := s_need_hall) l0 c0 k0
  have b0 := F0.binds (ps := ["rows"]) fun _ _ _ _ _ _ us hl => match us, hl with | [_], _ => rfl
  have F1 := fun_mk (st := s_need_row) l1 c1 k1
  have b1 := F1.binds (ps := ["signs"]) fun _ _ _ _ _ _ us hl => match us, hl with | [_], _ => rfl
  have F2 := fun_mk (st := s_blocks_of) l2 c2 k2
  have b2 := F2.binds (ps := ["rows"]) fun _ _ _ _ _ _ us hl => match us, hl with | [_], _ => rfl
  have F3 := fun_mk (st := s_blocks_of_row) l3 c3 k3
  have b3 := F3.binds (ps := ["row", "signs"]) fun _ _ _ _ _ _ us hl => match us, hl with | [_, _], _ => rfl
  have F4 := fun_mk (st := s_is_seat) l4 c4 k4
  have b4 := F4.binds (ps := ["rows", "row", "place"]) fun _ _ _ _ _ _ us hl => match us, hl with | [_, _, _], _ => rfl
  have F5 := fun_mk (st := s_law_cell_at) l5 c5 k5
  have b5 := F5.binds (ps := ["_law_script", "_law_k"]) fun _ _ _ _ _ _ us hl => match us, hl with | [_, _], _ => rfl
  have F6 := fun_mk (st := s_law_whole) l6 c6 k6
  have b6 := F6.binds (ps := ["_law_found"]) fun _ _ _ _ _ _ us hl => match us, hl with | [_], _ => rfl
  have F7 := fun_mk (st := s_law_row_by) l7 c7 k7
  have b7 := F7.binds (ps := ["_law_n"]) fun _ _ _ _ _ _ us hl => match us, hl with | [_], _ => rfl
  have F8 := fun_mk (st := s_law_hall_by) l8 c8 k8
  have b8 := F8.binds (ps := ["_law_script", "_law_k"]) fun _ _ _ _ _ _ us hl => match us, hl with | [_, _], _ => rfl
  have F9 := fun_mk (st := s_law_seat) l9 c9 k9
  have b9 := F9.binds (ps := ["_law_rows", "_law_row", "_law_place"]) fun _ _ _ _ _ _ us hl => match us, hl with | [_, _, _], _ => rfl
  have F10 := fun_mk (st := s_law_block) l10 c10 k10
  have b10 := F10.binds (ps := ["_law_rows", "_law_block_here", "_law_ahead"]) fun _ _ _ _ _ _ us hl => match us, hl with | [_, _, _], _ => rfl
  have F11 := fun_mk (st := s_law) l11 c11 k11
  have b11 := F11.binds (ps := ["_law_script"]) fun _ _ _ _ _ _ us hl => match us, hl with | [_], _ => rfl
  let T : Top K mg := ⟨f0, _, F0, b0, (PySem.W.mg_of X G a0), f1, _, F1, b1, (PySem.W.mg_of X G a1), f2, _, F2, b2, (PySem.W.mg_of X G a2), f3, _, F3, b3, (PySem.W.mg_of X G a3), f4, _, F4, b4, (PySem.W.mg_of X G a4), f5, _, F5, b5, (PySem.W.mg_of X G a5), f6, _, F6, b6, (PySem.W.mg_of X G a6), f7, _, F7, b7, (PySem.W.mg_of X G a7), f8, _, F8, b8, (PySem.W.mg_of X G a8), f9, _, F9, b9, (PySem.W.mg_of X G a9), f10, _, F10, b10, (PySem.W.mg_of X G a10), fa, _, F11, b11, (PySem.W.mg_of X G a11), (PySem.W.mg_none_of X G z0), (PySem.W.mg_none_of X G z1), (PySem.W.mg_none_of X G z2), (PySem.W.mg_none_of X G z3), (PySem.W.mg_none_of X G z4), (PySem.W.mg_none_of X G z5), (PySem.W.mg_none_of X G z6), (PySem.W.mg_none_of X G z7), (PySem.W.mg_none_of X G z8), (PySem.W.mg_none_of X G z9), (PySem.W.mg_none_of X G z10), u0, (PySem.W.mg_of X G v0), w0, u1, (PySem.W.mg_of X G v1), w1, u2, (PySem.W.mg_of X G v2), w2, u3, (PySem.W.mg_of X G v3), w3⟩
  exact ⟨PySem.W.fnOf "law" "law" (defArgs s_law) (defBody s_law) (defScope s_law) .none kV11 dc11 pm11 an11 cd11 ct11, fun s v => .of_eq rfl, fun base _ _ => ok_law T⟩
end Lw
open PySem PySem.W PyProof.Rows in
set_option maxRecDepth 100000 in
set_option maxHeartbeats 0 in
theorem PySem.Challenge.cw_seatplan_k01_blocks_holds : PySem.Challenge.rw_seatplan_k01_blocks.Holds := by
  w_on; o_law; k_head; (case hw => w_witness2)
  k_fill
  refine L2.walk_ofB (l := PySem.Challenge.rw_seatplan_k01_blocks) (n := 63) (k := 3) (x := "_law_script") (CX := fun _ => L2.CX0) (sp := fun w => Lw.sp_law _) rfl (by decide) rfl ⟨rfl, by decide, by decide⟩ (fun w h Y => PySem.W.kIn_of Y) ?F (fun _ _ a ns hl hb _ hS => ⟨a, ns, rfl, hS, hl, hb, fun _ => rfl⟩) (fun _ _ _ _ _ h => h)
  case F =>
    intro w mg fa h KX G hmg
    refine' Lw.all_mk KX G hmg ?a0 ?l0 ?c0 ?k0 ?a1 ?l1 ?c1 ?k1 ?a2 ?l2 ?c2 ?k2 ?a3 ?l3 ?c3 ?k3 ?a4 ?l4 ?c4 ?k4 ?a5 ?l5 ?c5 ?k5 ?a6 ?l6 ?c6 ?k6 ?a7 ?l7 ?c7 ?k7 ?a8 ?l8 ?c8 ?k8 ?a9 ?l9 ?c9 ?k9 ?a10 ?l10 ?c10 ?k10 ?a11 ?l11 ?c11 ?k11 ?z0 ?z1 ?z2 ?z3 ?z4 ?z5 ?z6 ?z7 ?z8 ?z9 ?z10 ?v0 ?w0 ?v1 ?w1 ?v2 ?w2 ?v3 ?w3
    (case a0 => first | k_is | exact ⟨_, rfl⟩)
    (case l0 => first | k_is | exact ⟨_, rfl⟩)
    (case c0 => first | k_is | exact ⟨_, rfl⟩)
    (case k0 => first | k_is | exact ⟨_, rfl⟩)
    (case a1 => first | k_is | exact ⟨_, rfl⟩)
    (case l1 => first | k_is | exact ⟨_, rfl⟩)
    (case c1 => first | k_is | exact ⟨_, rfl⟩)
    (case k1 => first | k_is | exact ⟨_, rfl⟩)
    (case a2 => first | k_is | exact ⟨_, rfl⟩)
    (case l2 => first | k_is | exact ⟨_, rfl⟩)
    (case c2 => first | k_is | exact ⟨_, rfl⟩)
    (case k2 => first | k_is | exact ⟨_, rfl⟩)
    (case a3 => first | k_is | exact ⟨_, rfl⟩)
    (case l3 => first | k_is | exact ⟨_, rfl⟩)
    (case c3 => first | k_is | exact ⟨_, rfl⟩)
    (case k3 => first | k_is | exact ⟨_, rfl⟩)
    (case a4 => first | k_is | exact ⟨_, rfl⟩)
    (case l4 => first | k_is | exact ⟨_, rfl⟩)
    (case c4 => first | k_is | exact ⟨_, rfl⟩)
    (case k4 => first | k_is | exact ⟨_, rfl⟩)
    (case a5 => first | k_is | exact ⟨_, rfl⟩)
    (case l5 => first | k_is | exact ⟨_, rfl⟩)
    (case c5 => first | k_is | exact ⟨_, rfl⟩)
    (case k5 => first | k_is | exact ⟨_, rfl⟩)
    (case a6 => first | k_is | exact ⟨_, rfl⟩)
    (case l6 => first | k_is | exact ⟨_, rfl⟩)
    (case c6 => first | k_is | exact ⟨_, rfl⟩)
    (case k6 => first | k_is | exact ⟨_, rfl⟩)
    (case a7 => first | k_is | exact ⟨_, rfl⟩)
    (case l7 => first | k_is | exact ⟨_, rfl⟩)
    (case c7 => first | k_is | exact ⟨_, rfl⟩)
    (case k7 => first | k_is | exact ⟨_, rfl⟩)
    (case a8 => first | k_is | exact ⟨_, rfl⟩)
    (case l8 => first | k_is | exact ⟨_, rfl⟩)
    (case c8 => first | k_is | exact ⟨_, rfl⟩)
    (case k8 => first | k_is | exact ⟨_, rfl⟩)
    (case a9 => first | k_is | exact ⟨_, rfl⟩)
    (case l9 => first | k_is | exact ⟨_, rfl⟩)
    (case c9 => first | k_is | exact ⟨_, rfl⟩)
    (case k9 => first | k_is | exact ⟨_, rfl⟩)
    (case a10 => first | k_is | exact ⟨_, rfl⟩)
    (case l10 => first | k_is | exact ⟨_, rfl⟩)
    (case c10 => first | k_is | exact ⟨_, rfl⟩)
    (case k10 => first | k_is | exact ⟨_, rfl⟩)
    (case a11 => first | k_is | exact ⟨_, rfl⟩)
    (case l11 => first | k_is | exact ⟨_, rfl⟩)
    (case c11 => first | k_is | exact ⟨_, rfl⟩)
    (case k11 => first | k_is | exact ⟨_, rfl⟩)
    (case z0 => first | k_is | exact ⟨_, rfl⟩)
    (case z1 => first | k_is | exact ⟨_, rfl⟩)
    (case z2 => first | k_is | exact ⟨_, rfl⟩)
    (case z3 => first | k_is | exact ⟨_, rfl⟩)
    (case z4 => first | k_is | exact ⟨_, rfl⟩)
    (case z5 => first | k_is | exact ⟨_, rfl⟩)
    (case z6 => first | k_is | exact ⟨_, rfl⟩)
    (case z7 => first | k_is | exact ⟨_, rfl⟩)
    (case z8 => first | k_is | exact ⟨_, rfl⟩)
    (case z9 => first | k_is | exact ⟨_, rfl⟩)
    (case z10 => first | k_is | exact ⟨_, rfl⟩)
    (case v0 => first | k_is | exact ⟨_, rfl⟩)
    (case w0 => first | k_is | exact ⟨_, rfl⟩)
    (case v1 => first | k_is | exact ⟨_, rfl⟩)
    (case w1 => first | k_is | exact ⟨_, rfl⟩)
    (case v2 => first | k_is | exact ⟨_, rfl⟩)
    (case w2 => first | k_is | exact ⟨_, rfl⟩)
    (case v3 => first | k_is | exact ⟨_, rfl⟩)
    (case w3 => first | k_is | exact ⟨_, rfl⟩)
