import PyProof.Rows.All
import Wide.All
import OpenK.AllK
import Wide.FinOn
import HandS.ForMost
import HandS.Evl
import HandS.IsInst
import HandS.EndBits
import HandS.Walk
import PyProof.Draws
import PyProof.EnumMake
import HandS.ForExc
import HandS.TryMany
import HandS.DictComp
import HandS.Conv
import HandS.Codes
import HandS.FStr
import HandS.SortRule
import HandS.SortKw
import HandS.TupLe
import HandS.Flow
import HandS.Remove
import HandS.More
import HandS.TupLen
import KE.KDictCopyH
import KE.KEqDict
import PySem.Challenge.RW_seatplan_k02_free_runs
set_option Elab.async false
set_option linter.all false
set_option maxRecDepth 100000
set_option maxHeartbeats 4000000
namespace Xb
open PySem PySem.Spec PyProof.Rows L2
/-! ### enumerate(text): each sign in a new pair with its place -/
def IteS (x : Str) : It :=
  ⟨fun i _ => i < x.cps.size, fun i H v H' => ∃ A c, v = .ref A ∧ H A = none ∧ H' = upd H A (.tup [.int (i : Nat), .str ⟨#[c]⟩]) ∧ x.cps[i]? = some c, fun i _ => x.cps.size ≤ i⟩
theorem drawsS {prog : Program} {w : World} {A : Around} (hh : A.handled = none) (it : Addr) (x : Str) (t : Tok) :
    Draws prog w A it [it] x.cps.size (fun i v => ∃ c u, x.cps[i]? = some c ∧ v = .str ⟨#[c]⟩ u) (fun i h => h.IsStrIter it (strIterType x) x t i) := by
  cases ha : x.cps.all (· < 128)
  · have e : strIterType x = "str_iterator" := by simp [strIterType, ha]
    rw [e]
    exact Draws.strWide hh it x t
  · have e : strIterType x = "str_ascii_iterator" := by simp [strIterType, ha]
    rw [e]
    exact Draws.strAscii hh it x t
theorem turn_enumS {P : Program} {w : World} {K : PySem.W.Frag} {elts : List Expr} {kk : Nat} {tpos : Pos} (x : Str) (t : Tok) (e it : Addr) :
    Turn P w K (.Tuple elts kk tpos) (IteS x) [e, it] e (fun i h => (∃ old, IsEnum h e it ((i : Nat) : Int) old) ∧ h.IsStrIter it (strIterType x) x t i ∧ e ≠ it ∧ i ≤ x.cps.size) where
  mem := by simp
  obj := fun i h st b hb => by
    obtain ⟨⟨old, he⟩, ⟨o, ho, hc, hd⟩, _, _⟩ := st
    have e' : b = e ∨ b = it := by simpa using hb
    rcases e' with z | z
    · rw [z]; exact ⟨_, he, fun v q => nomatch q⟩
    · rw [z]; exact ⟨o, ho, fun v q => by rw [hd] at q; cases q⟩
  keep := fun i h h' st k => by
    obtain ⟨⟨old, he⟩, ⟨o, ho, r⟩, hne, hle⟩ := st
    exact ⟨⟨old, k e (by simp) _ he⟩, ⟨o, k it (by simp) o ho, r⟩, hne, hle⟩
  item := by
    intro X hP hw hK hc i pins s σ H E I hf st hg
    subst hP hw hK
    obtain ⟨⟨old, he⟩, hit, hne, hle⟩ := st
    have hel : e < s.heap.objs.size := Heap.lt_size he
    have hil : it < s.heap.objs.size := by obtain ⟨_, q, _⟩ := hit; exact Heap.lt_size q
    have hh : X.A.in1.handled = none := I.ok.hd hc
    refine wpAny_pyNext_enum_itemD (drawsS hh it x t) he hit hg hne (by simpa using hne) fun v h' tk hv ho hit' hT hsz hk => ?_
    obtain ⟨c, u, hcx, rfl⟩ := hv
    refine ⟨_, rfl, wpAny_letOwnedTupleGo_enum (s := { s with heap := h', toks := tk + 1 }) ho fun h'' he' sb => ?_⟩
    have hT2 : h''.get? s.heap.objs.size = some { cls := .type "tuple", data := .seq #[.int i tk, .str ⟨#[c]⟩ u] } := (sb.2 _ (Nat.ne_of_gt hel)).trans hT
    have new : ObjOk X.prog X.w (upd H s.heap.objs.size (.tup [.int (i : Nat), .str ⟨#[c]⟩])) h'' s.heap.objs.size (.tup [.int (i : Nat), .str ⟨#[c]⟩]) :=
      ⟨by show 2 ≤ sizeLine; decide, [.int i tk, .str ⟨#[c]⟩ u], .cons ⟨_, rfl⟩ (.cons ⟨_, rfl⟩ .nil), ⟨_, hT2, rfl, _, rfl⟩⟩
    have I1 : Inv X pins σ (upd H s.heap.objs.size (.tup [.int (i : Nat), .str ⟨#[c]⟩])) { s with heap := h'', toks := tk + 1 } :=
      I.turnedNew (t' := tk + 1) (ch := [e, it]) (fun b ob hb q => (sb.2 b (fun z => hb (by simp [z]))).trans (hk b ob (fun z => hb (by simp [z])) (fun z => hb (by simp [z])) q)) hf (Nat.le_refl _) new
    refine ⟨.ref s.heap.objs.size, _, I1, rfl, ⟨_, c, rfl, I.hok.fresh (Nat.le_refl _), rfl, hcx⟩, ⟨⟨.str ⟨#[c]⟩ u, ?_⟩, ?_, hne, hg⟩, fun b hb => ?_⟩
    · have e1 : ((i + 1 : Nat) : Int) = (i : Int) + 1 := by omega
      rw [e1]; exact he'
    · obtain ⟨o, q, r⟩ := hit'
      exact ⟨o, (sb.2 it (Ne.symm hne)).trans q, r⟩
    · have hb' : b < s.heap.objs.size := by
        have e' : b = e ∨ b = it := by simpa using hb
        rcases e' with z | z
        · rw [z]; exact hel
        · rw [z]; exact hil
      rw [upd_ne (Nat.ne_of_lt hb')]
      exact (hf b hb).1
  done := by
    intro X hP hw hK hc i pins s σ H E I hf st hg
    subst hP hw hK
    obtain ⟨⟨old, he⟩, hit, hne, hle⟩ := st
    obtain ⟨f0, f1, f2, f3, f4, f5⟩ := hf it (by simp)
    have hh : X.A.in1.handled = none := I.ok.hd hc
    have hi : i = x.cps.size := Nat.le_antisymm hle hg
    subst hi
    exact wpAny_pyNext_enum_endD (drawsS hh it x t) he hit fun h' eb => ⟨rfl, I.turned (t' := s.toks) (fun b o hb q => eb b o hb q) f0 f1 f3 f4 f5⟩
  self := fun A i s Q E st h => let ⟨⟨_, he⟩, _⟩ := st; wpAny_pyIter_enum he h
def iEnumS (ta : TA) : TI := fun σ H R => ta σ H fun vs H1 => ∃ x, vs = [.str x] ∧ R (IteS x) H1
theorem pi_enumS {X : Cx} {e : Expr} {ta : TA} {p pos tpos : Pos} {elts : List Expr} {kk : Nat} (hg : Gl X "enumerate") (hm : X.mg "enumerate" = none) (ha : PA X [e] ta) (hs : starEach [e] X.env = [(false, eval e X.env)] := by rfl) :
    PI X (.Tuple elts kk tpos) (.Call (.Name "enumerate" p) [e] [] pos) (iEnumS ta) := by
  refine ⟨fun pins s σ H R I h => ?_⟩
  refine Call_ (ld_blt I hg hm boot_enumerate (PyProof.Rows.callWith_type1 (thn (ha.run pos pins s σ H _ I h) fun us s1 ⟨vs, H1, I1, r1, q1⟩ => ?_) hs rfl))
  obtain ⟨x, ex, q⟩ := q1
  subst ex
  cases r1 with
  | cons r rr =>
    cases rr
    obtain ⟨t, rfl⟩ := r
    refine call_enumerate_str fun h' he hit hsz hk => wpAny_pyIter_enum he ?_
    have I2 : Inv X pins σ H1 { s1 with heap := h' } := I1.kept (t' := s1.toks) hk
    refine ⟨s1.heap.objs.size + 1, [s1.heap.objs.size + 1, s1.heap.objs.size], _, _, H1, rfl, I2, turn_enumS x t (s1.heap.objs.size + 1) s1.heap.objs.size, ⟨⟨.none, he⟩, hit, Nat.succ_ne_self _, Nat.zero_le _⟩, fun b hb => ?_, q⟩
    have e' : b = s1.heap.objs.size + 1 ∨ b = s1.heap.objs.size := by simpa using hb
    have hle : s1.heap.objs.size ≤ b := by
      rcases e' with z | z
      · rw [z]; exact Nat.le_add_right _ _
      · rw [z]; exact Nat.le_refl _
    exact I1.fpOk hle (I1.hok.fresh hle)
end Xb

namespace Xb
open PySem PySem.Spec PyProof.Rows L2 Evl
/-! ### data of any depth stays under an extension -/
section
variable {K : PySem.W.Frag} {H H' : Hp}
mutual
theorem dp_ex (e : Ex H H') : ∀ {d : PyData} {v : V}, Dp K H v d → Dp K H' v d
  | .none, _, h => by cases h; exact .non
  | .bool _, _, h => by cases h; exact .bl _
  | .int _, _, h => by cases h; exact .int _
  | .str _, _, h => by cases h; exact .str _
  | .list ds, _, h => by cases h with | lst hs ha => exact .lst (ex_l e hs) (dpa_ex e ha)
  | .tuple ds, _, h => by cases h with | tup hs ha => exact .tup (ex_t e hs) (dpa_ex e ha)
  | .dict _, _, h => by cases h
theorem dpa_ex (e : Ex H H') : ∀ {ds : List PyData} {vs : List V}, DpAll K H vs ds → DpAll K H' vs ds
  | [], _, h => by cases h; exact .nil
  | d :: ds, _, h => by cases h with | cons h1 h2 => exact .cons (dp_ex e h1) (dpa_ex e h2)
end
theorem dpa_len : ∀ {ds : List PyData} {vs : List V}, DpAll K H vs ds → vs.length = ds.length
  | [], _, h => by cases h; rfl
  | d :: ds, _, h => by cases h with | cons h1 h2 => simp [dpa_len h2]
theorem dpa_app : ∀ {ds es : List PyData} {vs ws : List V}, DpAll K H vs ds → DpAll K H ws es → DpAll K H (vs ++ ws) (ds ++ es)
  | [], _, _, _, h, k => by cases h; exact k
  | d :: ds, _, _, _, h, k => by cases h with | cons h1 h2 => exact .cons h1 (dpa_app h2 k)
theorem dpa_get : ∀ {ds : List PyData} {vs : List V} {i : Nat} {v : V}, DpAll K H vs ds → vs[i]? = some v → ∃ d, ds[i]? = some d ∧ Dp K H v d
  | [], _, _, _, h, q => by cases h; simp at q
  | d :: ds, _, 0, _, h, q => by cases h with | cons h1 h2 => simp at q; subst q; exact ⟨d, rfl, h1⟩
  | d :: ds, _, i + 1, _, h, q => by
    cases h with
    | cons h1 h2 =>
      obtain ⟨d', h3, h4⟩ := dpa_get (i := i) h2 (by simpa using q)
      exact ⟨d', by simpa using h3, h4⟩
theorem dpa_at : ∀ {ds : List PyData} {vs : List V} {i : Nat} {d : PyData}, DpAll K H vs ds → ds[i]? = some d → ∃ v, vs[i]? = some v ∧ Dp K H v d
  | [], _, _, _, h, q => by simp at q
  | d :: ds, _, 0, _, h, q => by cases h with | cons h1 h2 => simp at q; subst q; exact ⟨_, rfl, h1⟩
  | d :: ds, _, i + 1, _, h, q => by
    cases h with
    | cons h1 h2 =>
      obtain ⟨v, hv, hd⟩ := dpa_at h2 (show ds[i]? = some _ by simpa using q)
      exact ⟨v, by simpa using hv, hd⟩
theorem dpa_strs (xs : List Str) : DpAll K H (xs.map V.str) (xs.map PyData.str) := by
  induction xs with
  | nil => exact .nil
  | cons x xs ih => exact .cons (.str x) ih
theorem dpa_ints (xs : List Int) : DpAll K H (xs.map V.int) (xs.map PyData.int) := by
  induction xs with
  | nil => exact .nil
  | cons x xs ih => exact .cons (.int x) ih
theorem dp_strs {a : Addr} {xs : List Str} (h : SqL K H a (xs.map V.str)) : Dp K H (.ref a) (.list (xs.map PyData.str)) := .lst h (dpa_strs xs)
end

/-! ### statements over a base: at every extension of it -/
def Sx (H0 : Hp) (t : TS) (D : Ends) (σ : L2.St) : Prop := ∀ H, Ex H0 H → t D σ H
/-- a value whose data are told -/
def EvD (K : PySem.W.Frag) (te : TE) (σ : L2.St) (H : Hp) (d : PyData) : Prop := ∀ H1, Ex H H1 → ∀ Q : VK, (∀ v H2, Ex H1 H2 → Dp K H2 v d → Q v H2) → te σ H1 Q
section
variable {K : PySem.W.Frag} {σ : L2.St} {H H0 H' : Hp} {ta tb te tx tl : TE} {t u : TT} {x y z v : V} {D : Ends} {tu tw tz : TS} {g : TG} {i j : Nat}
theorem Sx.of (h : ∀ H1, Ex H H1 → Sx H1 tz D σ) : Sx H tz D σ := fun H1 e => h H1 e H1 (Ex.refl H1)
theorem Sx.mono (e : Ex H H') (h : Sx H tz D σ) : Sx H' tz D σ := fun H1 e1 => h H1 (e.trans e1)
theorem Sx.go (h : Sx H tz D σ) : tz D σ H := h H (Ex.refl H)
theorem Sx.at (h : Sx H tz D σ) (e : Ex H H') : tz D σ H' := h H' e
theorem sx_asg (h : Ev te σ H v) (k : Sx H tz D (σ.set i (some v))) : Sx H (tSeq (tAsg te (gName i)) tz) D σ := fun H1 e => q_asg (h.mono e) fun H2 e2 => k H2 (e.trans e2)
theorem sx_asg1 (h : Ev te σ H v) (k : ∀ H1, Ex H H1 → D.nx (σ.set i (some v)) H1) : Sx H (tAsg te (gName i)) D σ := fun H1 e => s_asg (h.mono e) fun H2 e2 => k H2 (e.trans e2)
theorem sx_asgL {xs : List V} (h : EvL te σ H xs) (k : ∀ p H1, H p = none → Ex H H1 → H1 p = some (.lst xs) → Sx H1 tz D (σ.set i (some (.ref p)))) : Sx H (tSeq (tAsg te (gName i)) tz) D σ := fun H1 e => q_asgL (h.mono e) fun p H2 hp e2 h2 => k p H2 (fresh_back e hp) (e.trans e2) h2 H2 (Ex.refl H2)
theorem sx_asgU {xs : List V} (h : EvU te σ H xs) (k : ∀ p H1, H p = none → Ex H H1 → H1 p = some (.tup xs) → Sx H1 tz D (σ.set i (some (.ref p)))) : Sx H (tSeq (tAsg te (gName i)) tz) D σ := fun H1 e => q_asgU (fun H2 e2 => h H2 (e.trans e2)) fun p H2 hp e2 h2 => k p H2 (fresh_back e hp) (e.trans e2) h2 H2 (Ex.refl H2)
theorem sx_asgD {d : PyData} (h : EvD K te σ H d) (k : ∀ v H1, Ex H H1 → Dp K H1 v d → Sx H1 tz D (σ.set i (some v))) : Sx H (tSeq (tAsg te (gName i)) tz) D σ := fun H1 e => h H1 e _ fun v H2 e2 hd => k v H2 (e.trans e2) hd H2 (Ex.refl H2)
theorem sx_if {b : Bool} (h : EvT t σ H b) (h1 : b = true → Sx H tu { D with nx := tz D } σ) (h2 : b = false → Sx H tw { D with nx := tz D } σ) : Sx H (tSeq (tIfS t tu tw) tz) D σ := fun H1 e =>
  q_if (h.mono e) (fun hb H2 e2 => h1 hb H2 (e.trans e2)) fun hb H2 e2 => h2 hb H2 (e.trans e2)
theorem sx_when {b : Bool} (h : EvT t σ H b) (h1 : b = true → Sx H tu { D with nx := tz D } σ) (h2 : b = false → Sx H tz D σ) : Sx H (tSeq (tIfS t tu tNext) tz) D σ := fun H1 e =>
  q_when (h.mono e) (fun hb H2 e2 => h1 hb H2 (e.trans e2)) fun hb H2 e2 => h2 hb H2 (e.trans e2)
theorem sx_if1 {b : Bool} (h : EvT t σ H b) (h1 : b = true → Sx H tu D σ) (h2 : b = false → Sx H tw D σ) : Sx H (tIfS t tu tw) D σ := fun H1 e =>
  s_if (h.mono e) (fun hb H2 e2 => h1 hb H2 (e.trans e2)) fun hb H2 e2 => h2 hb H2 (e.trans e2)
/-- a test that is known: the other branch is never looked at -/
theorem sx_skip (h : EvT t σ H false) (h2 : Sx H tz D σ) : Sx H (tSeq (tIfS t tu tNext) tz) D σ := sx_when h (fun q => nomatch q) fun _ => h2
theorem sx_ret (h : Ev te σ H v) (k : ∀ H1, Ex H H1 → D.rt v H1) : Sx H (tRet te) D σ := fun H1 e => s_ret (h.mono e) fun H2 e2 => k H2 (e.trans e2)
theorem sx_retL {xs : List V} (h : EvL te σ H xs) (k : ∀ p H1, H p = none → Ex H H1 → H1 p = some (.lst xs) → D.rt (.ref p) H1) : Sx H (tRet te) D σ := fun H1 e => s_retL (h.mono e) fun p H2 hp e2 h2 => k p H2 (fresh_back e hp) (e.trans e2) h2
theorem sx_retD {d : PyData} (h : EvD K te σ H d) (k : ∀ v H1, Ex H H1 → Dp K H1 v d → D.rt v H1) : Sx H (tRet te) D σ := fun H1 e => h H1 e _ fun v H2 e2 hd => k v H2 (e.trans e2) hd
theorem sx_next (k : ∀ H1, Ex H H1 → D.nx σ H1) : Sx H tNext D σ := fun H1 e => k H1 e
theorem sx_drop (h : Ev te σ H v) (k : Sx H tz D σ) : Sx H (tSeq (tDrop te) tz) D σ := fun H1 e => q_drop (h.mono e) fun H2 e2 => k H2 (e.trans e2)
theorem sx_drop1 (h : Ev te σ H v) (k : ∀ H1, Ex H H1 → D.nx σ H1) : Sx H (tDrop te) D σ := fun H1 e => s_drop (h.mono e) fun H2 e2 => k H2 (e.trans e2)
theorem sx_aug1 {f : Int → Int → Int} {a b : Int} (hx : σ[i]? = some (some (.int a))) (h : Ev te σ H (.int b)) (k : ∀ H1, Ex H H1 → D.nx (σ.set i (some (.int (f a b)))) H1) : Sx H (tAug i te (ipI f)) D σ := fun H1 e => s_aug hx (h.mono e) fun H2 e2 => k H2 (e.trans e2)
theorem sx_app {l : Addr} {xs : List V} (hl : H l = some (.lst xs)) (ha : Ev ta σ H (.ref l)) (h : Ev te σ H v) (hz : xs.length < 100000) (k : ∀ H1, Ex H H1 → Sx (upd H1 l (.lst (xs ++ [v]))) tz D σ) :
    Sx H (tSeq (tDrop (tBM K "list" rAppend ta (tCons te tNil))) tz) D σ := fun H1 e => q_app (e l _ hl) (ha.mono e) (h.mono e) hz fun H2 e2 => k H2 (e.trans e2) _ (Ex.refl _)
theorem sx_app1 {l : Addr} {xs : List V} (hl : H l = some (.lst xs)) (ha : Ev ta σ H (.ref l)) (h : Ev te σ H v) (hz : xs.length < 100000) (k : ∀ H1, Ex H H1 → D.nx σ (upd H1 l (.lst (xs ++ [v])))) :
    Sx H (tDrop (tBM K "list" rAppend ta (tCons te tNil))) D σ := fun H1 e => s_app (e l _ hl) (ha.mono e) (h.mono e) hz fun H2 e2 => k H2 (e.trans e2)
theorem sx_appU {l : Addr} {xs ys : List V} (hl : H l = some (.lst xs)) (ha : Ev ta σ H (.ref l)) (h : EvU te σ H ys) (hz : xs.length < 100000) (k : ∀ p H1, H p = none → Ex H H1 → H1 p = some (.tup ys) → Sx (upd H1 l (.lst (xs ++ [.ref p]))) tz D σ) :
    Sx H (tSeq (tDrop (tBM K "list" rAppend ta (tCons te tNil))) tz) D σ := fun H1 e => q_appU (e l _ hl) (ha.mono e) (fun H2 e2 => h H2 (e.trans e2)) hz fun p H2 hp e2 h2 => k p H2 (fresh_back e hp) (e.trans e2) h2 _ (Ex.refl _)
theorem sx_appU1 {l : Addr} {xs ys : List V} (hl : H l = some (.lst xs)) (ha : Ev ta σ H (.ref l)) (h : EvU te σ H ys) (hz : xs.length < 100000) (k : ∀ p H1, H p = none → Ex H H1 → H1 p = some (.tup ys) → D.nx σ (upd H1 l (.lst (xs ++ [.ref p])))) :
    Sx H (tDrop (tBM K "list" rAppend ta (tCons te tNil))) D σ := fun H1 e => s_appU (e l _ hl) (ha.mono e) (fun H2 e2 => h H2 (e.trans e2)) hz fun p H2 hp e2 h2 => k p H2 (fresh_back e hp) (e.trans e2) h2
/-- loops; P holds of the turn, the slots and the heap, at every extension -/
theorem sx_forR1 {ta : TA} {n : Int} (h : EvA ta σ H [.int n]) (hn : 0 ≤ n ∧ n ≤ 100000) (Pv : Nat → L2.St → Hp → Prop) (h0 : ∀ H1, Ex H H1 → Pv 0 σ H1)
    (hs : ∀ (i : Nat) σ' H', (i : Int) < n → Pv i σ' H' → Sx H' tu { D with nx := Pv (i + 1), ct := Pv (i + 1), bk := tz D } (σ'.set j (some (.int (i : Int))))) (hd : ∀ σ' H', Pv n.toNat σ' H' → Sx H' tz D σ') : Sx H (tSeq (tFor (iRng1 ta) (gName j) tu) tz) D σ := fun H1 e =>
  q_forR1 (h.mono e) hn Pv (fun H2 e2 => h0 H2 (e.trans e2)) (fun i σ' H' hi p => (hs i σ' H' hi p).go) fun σ' H' p => (hd σ' H' p).go
theorem sx_forR2 {ta : TA} {lo n : Int} (h : EvA ta σ H [.int lo, .int n]) (hn : 0 ≤ lo ∧ lo ≤ 100000 ∧ -100000 ≤ n ∧ n ≤ 100000) (Pv : Nat → L2.St → Hp → Prop) (h0 : ∀ H1, Ex H H1 → Pv 0 σ H1)
    (hs : ∀ (i : Nat) σ' H', lo + (i : Int) < n → Pv i σ' H' → Sx H' tu { D with nx := Pv (i + 1), ct := Pv (i + 1), bk := tz D } (σ'.set j (some (.int (lo + (i : Int)))))) (hd : ∀ σ' H', Pv (n - lo).toNat σ' H' → Sx H' tz D σ') : Sx H (tSeq (tFor (iRng2 ta) (gName j) tu) tz) D σ := fun H1 e =>
  q_forR2 (h.mono e) hn Pv (fun H2 e2 => h0 H2 (e.trans e2)) (fun i σ' H' hi p => (hs i σ' H' hi p).go) fun σ' H' p => (hd σ' H' p).go
theorem sx_forL {a : Addr} {xs : List V} (h : Ev tl σ H (.ref a)) (hx : SqL K H a xs) (Pv : Nat → L2.St → Hp → Prop) (h0 : ∀ H1, Ex H H1 → Pv 0 σ H1) (hl : ∀ i σ' H', i ≤ xs.length → Pv i σ' H' → SqL K H' a xs)
    (hs : ∀ i x σ' H', xs[i]? = some x → Pv i σ' H' → Sx H' tu { D with nx := Pv (i + 1), ct := Pv (i + 1), bk := tz D } (σ'.set j (some x))) (hd : ∀ σ' H', Pv xs.length σ' H' → Sx H' tz D σ') : Sx H (tSeq (tFor (iList K tl) (gName j) tu) tz) D σ := fun H1 e =>
  q_forLn (h.mono e) (ex_l e hx) Pv (fun H2 e2 => h0 H2 (e.trans e2)) hl (fun i x σ' H' hi p => (hs i x σ' H' hi p).go) fun σ' H' p => (hd σ' H' p).go
/-- over a text -/
theorem sx_forS0 {s : Str} (h : Ev tl σ H (.str s)) (Pv : Nat → L2.St → Hp → Prop) (h0 : ∀ H1, Ex H H1 → Pv 0 σ H1)
    (hs : ∀ i c σ' H', s.cps[i]? = some c → Pv i σ' H' → Sx H' tu { D with nx := Pv (i + 1), ct := Pv (i + 1), bk := tz D } (σ'.set j (some (.str ⟨#[c]⟩)))) (hd : ∀ σ' H', Pv s.cps.size σ' H' → Sx H' tz D σ') : Sx H (tSeq (tFor (iStr tl) (gName j) tu) tz) D σ := fun H1 e =>
  h H1 e _ fun H2 e2 => ⟨s, rfl, fun i m σ' H' => m = s.cps.size - i ∧ i ≤ s.cps.size ∧ Pv i σ' H', ⟨_, rfl, Nat.zero_le _, h0 H2 (e.trans e2)⟩, fun i m σ' H' => by
    rintro ⟨rfl, hi, p⟩
    by_cases hlt : i < s.cps.size
    · refine .inr ⟨hlt, Pv (i + 1), fun σ2 H3 p2 => ⟨s.cps.size - (i + 1), by omega, rfl, hlt, p2⟩, fun x H3 hy => ?_⟩
      obtain ⟨rfl, c, hc, rfl⟩ := hy
      exact (hs i c σ' H3 hc p).go
    · have : i = s.cps.size := by omega
      subst this
      exact .inl ⟨Nat.le_refl _, (hd σ' H' p).go⟩⟩
/-- over enumerate(text) -/
theorem sx_forES {s : Str} {ta : TA} {k l : Nat} (h : EvA ta σ H [.str s]) (Pv : Nat → L2.St → Hp → Prop) (h0 : ∀ H1, Ex H H1 → Pv 0 σ H1) (hm : ∀ i σ' H1 H2, Pv i σ' H1 → Ex H1 H2 → Pv i σ' H2)
    (hs : ∀ (i : Nat) c σ' H', s.cps[i]? = some c → Pv i σ' H' → Sx H' tu { D with nx := Pv (i + 1), ct := Pv (i + 1), bk := tz D } ((σ'.set k (some (.int (i : Int)))).set l (some (.str ⟨#[c]⟩)))) (hd : ∀ σ' H', Pv s.cps.size σ' H' → Sx H' tz D σ') :
    Sx H (tSeq (tFor (iEnumS ta) (gTup K 2 (gCons (gName k) (gCons (gName l) gNil))) tu) tz) D σ := fun H1 e =>
  h H1 e _ fun H2 e2 => ⟨s, rfl, fun i m σ' H' => m = s.cps.size - i ∧ i ≤ s.cps.size ∧ Pv i σ' H', ⟨_, rfl, Nat.zero_le _, h0 H2 (e.trans e2)⟩, fun i m σ' H' => by
    rintro ⟨rfl, hi, p⟩
    by_cases hlt : i < s.cps.size
    · refine .inr ⟨hlt, Pv (i + 1), fun σ2 H3 p2 => ⟨s.cps.size - (i + 1), by omega, rfl, hlt, p2⟩, fun x H3 hy => ?_⟩
      obtain ⟨A, c, rfl, hA, rfl, hc⟩ := hy
      refine ⟨A, _, rfl, .inl (.inl upd_same), rfl, _, _, rfl, _, _, rfl, rfl, ?_⟩
      exact (hs i c σ' _ hc (hm _ _ _ _ p (Ex.new hA))).go
    · have : i = s.cps.size := by omega
      subst this
      exact .inl ⟨Nat.le_refl _, (hd σ' H' p).go⟩⟩
/-- over enumerate(list) -/
theorem sx_forEL {a : Addr} {xs : List V} {ta : TA} {k l : Nat} (h : EvA ta σ H [.ref a]) (hx : SqL K H a xs) (Pv : Nat → L2.St → Hp → Prop) (h0 : ∀ H1, Ex H H1 → Pv 0 σ H1) (hm : ∀ i σ' H1 H2, Pv i σ' H1 → Ex H1 H2 → Pv i σ' H2) (hl : ∀ i σ' H', i ≤ xs.length → Pv i σ' H' → SqL K H' a xs)
    (hs : ∀ (i : Nat) x σ' H', xs[i]? = some x → Pv i σ' H' → Sx H' tu { D with nx := Pv (i + 1), ct := Pv (i + 1), bk := tz D } ((σ'.set k (some (.int (i : Int)))).set l (some x))) (hd : ∀ σ' H', Pv xs.length σ' H' → Sx H' tz D σ') :
    Sx H (tSeq (tFor (iEnum K ta) (gTup K 2 (gCons (gName k) (gCons (gName l) gNil))) tu) tz) D σ := fun H1 e =>
  h H1 e _ fun H2 e2 => ⟨a, xs, rfl, ex_l (e.trans e2) hx, fun i m σ' H' => m = xs.length - i ∧ i ≤ xs.length ∧ Pv i σ' H', ⟨_, rfl, Nat.zero_le _, h0 H2 (e.trans e2)⟩, fun i m σ' H' => by
    rintro ⟨rfl, hi, p⟩
    have hL := hl i σ' H' hi p
    by_cases hlt : i < xs.length
    · refine .inr ⟨⟨xs, xs[i], hL, by simp [hlt]⟩, Pv (i + 1), fun σ2 H3 p2 => ⟨xs.length - (i + 1), by omega, rfl, hlt, p2⟩, fun x H3 hy => ?_⟩
      obtain ⟨A, x1, rfl, hA, rfl, hc⟩ := hy
      refine ⟨A, _, rfl, .inl (.inl upd_same), rfl, _, _, rfl, _, _, rfl, rfl, ?_⟩
      exact (hs i x1 σ' _ (hc xs hL) (hm _ _ _ _ p (Ex.new hA))).go
    · have : i = xs.length := by omega
      subst this
      exact .inl ⟨⟨xs, hL, Nat.le_refl _⟩, (hd σ' H' p).go⟩⟩
/-! the same where nothing stands behind the loop -/
theorem sx_last (h : Sx H (tSeq tu tNext) D σ) : Sx H tu D σ := h
end

/-! ### what evaluates to what: further rules -/
section
variable {K : PySem.W.Frag} {σ : L2.St} {H H' : Hp} {ta tb tc te tx : TE} {t u : TT} {x y z v : V} {r r' : R2}
theorem rv_eqI {i j : Int} : RV rEq (.int i) (.int j) H (.bl (decide (i = j))) := fun H1 _ _ q => ⟨rfl, by
  have e : decide (V.int i = V.int j) = decide (i = j) := by simp
  rw [e]; exact q H1 (Ex.refl H1)⟩
theorem rv_neI {i j : Int} : RV rNe (.int i) (.int j) H (.bl (!decide (i = j))) := fun H1 _ _ q => ⟨rfl, by
  have e : decide (V.int i = V.int j) = decide (i = j) := by simp
  rw [e]; exact q H1 (Ex.refl H1)⟩
theorem rv_eqS {i j : Str} : RV rEq (.str i) (.str j) H (.bl (decide (i = j))) := fun H1 _ _ q => ⟨rfl, by
  have e : decide (V.str i = V.str j) = decide (i = j) := by simp
  rw [e]; exact q H1 (Ex.refl H1)⟩
theorem rv_neS {i j : Str} : RV rNe (.str i) (.str j) H (.bl (!decide (i = j))) := fun H1 _ _ q => ⟨rfl, by
  have e : decide (V.str i = V.str j) = decide (i = j) := by simp
  rw [e]; exact q H1 (Ex.refl H1)⟩
theorem rv_eqB {i j : Bool} : RV rEq (.bl i) (.bl j) H (.bl (decide (i = j))) := fun H1 _ _ q => ⟨rfl, by
  have e : decide (V.bl i = V.bl j) = decide (i = j) := by simp
  rw [e]; exact q H1 (Ex.refl H1)⟩
theorem rv_adds {i j : Str} (h : i.length + j.length ≤ 100000) : RV (fun x y H Q => ∃ i j, x = .str i ∧ y = .str j ∧ i.length + j.length ≤ sizeLine ∧ Q (.str (i ++ j)) H) (.str i) (.str j) H (.str (i ++ j)) := fun H1 _ _ q => ⟨i, j, rfl, rfl, sz_of h, q H1 (Ex.refl H1)⟩
theorem rv_eqD {d e : PyData} (hx : Dp K H x d) (hy : Dp K H y e) (s1 : SeqAt.shaped d = true) (s2 : SeqAt.shaped e = true) : RV (rEqD K) x y H (.bl (PyData.eqv d e)) := fun H1 e1 _ q => ⟨d, e, dp_ex e1 hx, dp_ex e1 hy, s1, s2, q H1 (Ex.refl H1)⟩
theorem rv_neD {d e : PyData} (hx : Dp K H x d) (hy : Dp K H y e) (s1 : SeqAt.shaped d = true) (s2 : SeqAt.shaped e = true) : RV (rNeD K) x y H (.bl (!PyData.eqv d e)) := fun H1 e1 _ q => ⟨d, e, dp_ex e1 hx, dp_ex e1 hy, s1, s2, q H1 (Ex.refl H1)⟩
theorem rv_ltT {a b : Addr} {ns ms : List Int} (h1 : SqT K H a (ns.map V.int)) (h2 : SqT K H b (ms.map V.int)) : RV (rLtT K) (.ref a) (.ref b) H (.bl (HT.lexLt ns ms)) := fun H1 e1 _ q => ⟨a, b, ns, ms, rfl, rfl, ex_t e1 h1, ex_t e1 h2, q H1 (Ex.refl H1)⟩
/-- len -/
theorem rc_lenL {p : Addr} {xs : List V} (h : SqL K H p xs) : RC (fun xs H Q => ∃ p ys, xs = [.ref p] ∧ (SqL K H p ys ∨ SqT K H p ys) ∧ Q (.int ys.length) H) [.ref p] H (.int (xs.length : Int)) := fun H1 e1 _ q => ⟨p, xs, rfl, .inl (ex_l e1 h), q H1 (Ex.refl H1)⟩
theorem rc_lenT {p : Addr} {xs : List V} (h : SqT K H p xs) : RC (fun xs H Q => ∃ p ys, xs = [.ref p] ∧ (SqL K H p ys ∨ SqT K H p ys) ∧ Q (.int ys.length) H) [.ref p] H (.int (xs.length : Int)) := fun H1 e1 _ q => ⟨p, xs, rfl, .inr (ex_t e1 h), q H1 (Ex.refl H1)⟩
theorem rc_lenS {s : Str} (h : s.length ≤ 100000) : RC (fun xs H Q => ∃ z, xs = [.str z] ∧ z.length ≤ sizeLine ∧ Q (.int z.length) H) [.str s] H (.int (s.length : Int)) := fun H1 e1 _ q => ⟨s, rfl, sz_of h, q H1 (Ex.refl H1)⟩
theorem rc_abs {i : Int} : RC (fun xs H Q => ∃ i, xs = [.int i] ∧ Q (.int (if i < 0 then -i else i)) H) [.int i] H (.int (if i < 0 then -i else i)) := fun H1 _ _ q => ⟨i, rfl, q H1 (Ex.refl H1)⟩
theorem rc_min2 {i j : Int} : RC (fun xs H Q => ∃ i j, xs = [.int i, .int j] ∧ Q (.int (if j < i then j else i)) H) [.int i, .int j] H (.int (if j < i then j else i)) := fun H1 _ _ q => ⟨i, j, rfl, q H1 (Ex.refl H1)⟩
theorem rc_max2 {i j : Int} : RC (fun xs H Q => ∃ i j, xs = [.int i, .int j] ∧ Q (.int (if j > i then j else i)) H) [.int i, .int j] H (.int (if j > i then j else i)) := fun H1 _ _ q => ⟨i, j, rfl, q H1 (Ex.refl H1)⟩
theorem rc_sum {a : Addr} {ns : List Int} (h : SqL K H a (ns.map V.int)) : RC (rSum K) [.ref a] H (.int ns.sum) := fun H1 e1 _ q => ⟨a, ns, rfl, ex_l e1 h, q H1 (Ex.refl H1)⟩
/-- a built-in of a new list -/
theorem ev_cbL {r : List V → Hp → VK → Prop} {xs : List V} (h : EvL te σ H xs) (hr : ∀ p H1, H1 p = some (.lst xs) → Ex H H1 → RC r [.ref p] H1 z) : Ev (tCB r (tCons te tNil)) σ H z := fun H1 e Q q =>
  h H1 e _ fun p H2 hp e2 h2 => hr p H2 h2 (e.trans e2) H2 (Ex.refl H2) Q fun H3 e3 => q H3 (e2.trans e3)
theorem rcl_list {p : Addr} {xs : List V} (h : SqL K H p xs) : RCL (fun xs H Q => ∃ p ys, xs = [.ref p] ∧ (SqL K H p ys ∨ SqT K H p ys) ∧ ∀ l, H l = none → Q (.ref l) (upd H l (.lst ys))) [.ref p] H xs := fun H1 e1 _ q => ⟨p, xs, rfl, .inl (ex_l e1 h), fun l hl => q l _ hl (Ex.new hl) upd_same⟩
/-- isinstance of a built-in class -/
theorem rc_isi {c : String} {ty : String} {b : Bool} (hx : ∀ H1, Ex H H1 → TyX K H1 x (.type ty)) (hk : kitB ty c = some b) : RC (rIsi K) [x, .ty c] H (.bl b) := fun H1 e1 _ q => ⟨x, .ty c, .type ty, .type c, b, rfl, .ty c, hx H1 e1, kit_ty hk, q H1 (Ex.refl H1)⟩
theorem ty_int {i : Int} : TyX K H (.int i) (.type "int") := .base (.int _)
theorem ty_bl {i : Bool} : TyX K H (.bl i) (.type "bool") := .base (.bl _)
theorem ty_str {i : Str} : TyX K H (.str i) (.type "str") := .base (.str _)
/-- a method of a text -/
theorem ev_bmS {r : V → List V → Hp → VK → Prop} {to : TE} {ta : TA} {s : Str} {vs : List V} (ho : Ev to σ H (.str s)) (ha : EvA ta σ H vs) (hr : RC (r (.str s)) vs H z) : Ev (tBM K "str" r to ta) σ H z := fun H1 e Q q =>
  ho H1 e _ fun H2 e2 => ⟨rfl, ha H2 (e.trans e2) _ fun H3 e3 => hr H3 ((e.trans e2).trans e3) Q fun H4 e4 => q H4 ((e2.trans e3).trans e4)⟩
theorem rc_count {a b : Str} : RC (fun xs H Q => ∃ a' b', V.str a = .str a' ∧ xs = [.str b'] ∧ Q (.int (Txt.count a' b')) H) [.str b] H (.int (Txt.count a b)) := fun H1 e1 _ q => ⟨a, b, rfl, rfl, q H1 (Ex.refl H1)⟩
/-- a slice of a text -/
theorem ev_slS {tl th : TO} {s : Str} {lo hi : Option Int} (h : Ev te σ H (.str s)) (h1 : EvO tl σ H lo) (h2 : EvO th σ H hi) (hz : s.length ≤ 100000) : Ev (tSl rSlS te tl th) σ H (.str (cutS s lo hi)) := fun H1 e _ q =>
  h H1 e _ fun H2 e2 => h1 H2 (e.trans e2) _ fun H3 e3 => h2 H3 ((e.trans e2).trans e3) _ fun H4 e4 => ⟨s, rfl, sz_of hz, q H4 ((e2.trans e3).trans e4)⟩
/-- a chain of two comparisons -/
theorem ev_chain {a b : Bool} (ha : Ev ta σ H x) (hb : Ev tb σ H y) (hr : RV r x y H (.bl a)) (hc : a = true → Ev tc σ H z) (hr2 : a = true → RV r' y z H (.bl b)) : Ev (tChain r r' ta tb tc) σ H (.bl (a && b)) := fun H1 e Q q =>
  ha H1 e _ fun H2 e2 => hb H2 (e.trans e2) _ fun H3 e3 => hr H3 ((e.trans e2).trans e3) _ fun H4 e4 => ⟨a, rfl, by
    have e5 := ((e.trans e2).trans e3).trans e4
    cases a with
    | true =>
      show tc σ H4 _
      exact hc rfl H4 e5 _ fun H6 e6 => hr2 rfl H6 (e5.trans e6) Q fun H7 e7 => q H7 ((((e2.trans e3).trans e4).trans e6).trans e7)
    | false =>
      show Q (.bl false) H4
      exact q H4 ((e2.trans e3).trans e4)⟩
/-- data -/
theorem EvD.mono {d : PyData} (e : Ex H H') (h : EvD K te σ H d) : EvD K te σ H' d := fun H1 a Q q => h H1 (e.trans a) Q q
def SpD (K : PySem.W.Frag) (sp : Sp) (vs : List V) (H : Hp) (d : PyData) : Prop := ∀ H1, Ex H H1 → ∀ Q : VK, (∀ v H2, Ex H1 H2 → Dp K H2 v d → Q v H2) → ∀ E : XK, sp vs H1 Q E
theorem ed_call {sp : Sp} {dvs vs : List V} {E : XK} {ta : TA} {d : PyData} (h : EvA ta σ H vs) (hs : SpD K sp (vs ++ dvs) H d) : EvD K (tCall sp dvs E ta) σ H d := fun H1 e Q q =>
  h H1 e _ fun H2 e2 => hs H2 (e.trans e2) Q (fun v H3 e3 => q v H3 (e2.trans e3)) E
end

/-! ### small arithmetic of places -/
theorem at_map {α : Type} {f : α → V} {xs : List α} {i : Int} {y : α} (h0 : 0 ≤ i) (h : xs[i.toNat]? = some y) : atI (xs.map f) i = some (f y) := by
  have e : i = ((i.toNat : Nat) : Int) := by omega
  rw [e]
  exact atI_nat (by rw [List.getElem?_map, h]; rfl)
theorem at_nat {xs : List V} {i : Int} {y : V} (h0 : 0 ≤ i) (h : xs[i.toNat]? = some y) : atI xs i = some y := by
  have e : i = ((i.toNat : Nat) : Int) := by omega
  rw [e]
  exact atI_nat h
section
variable {K : PySem.W.Frag} {H : Hp}
theorem ty_lst {a : Addr} {xs : List V} (h : SqL K H a xs) : TyX K H (.ref a) (.type "list") := by
  rcases h with (h | ⟨o, h⟩) | h
  · exact .base (.lst h)
  · exact .base (.frz h)
  · obtain ⟨o, its, n, h1, h2, _⟩ := h
    exact .kList h1 h2
theorem ty_tup {a : Addr} {xs : List V} (h : SqT K H a xs) : TyX K H (.ref a) (.type "tuple") := by
  rcases h with (h | ⟨o, h⟩) | h
  · exact .base (.tup h)
  · exact .fTuple h
  · obtain ⟨o, its, n, h1, h2, _⟩ := h
    exact .kTuple h1 h2
end
/-! an implication that a walk opens by itself -/
def Imp (p q : Prop) : Prop := p → q
section
variable {K : PySem.W.Frag} {σ : L2.St} {H H' : Hp} {ta tb tc te : TE} {t u : TT} {x y z v : V} {r r' : R2} {a b : Bool}
theorem et_and2 (h1 : EvT t σ H a) (h2 : Imp (a = true) (EvT u σ H b)) : EvT (tAnd t u) σ H (a && b) := et_and h1 h2
theorem et_or2 (h1 : EvT t σ H a) (h2 : Imp (a = false) (EvT u σ H b)) : EvT (tOr t u) σ H (a || b) := et_or h1 h2
theorem ev_andV2 (h1 : Ev ta σ H (.bl a)) (h2 : Imp (a = true) (Ev tb σ H (.bl b))) : Ev (tAndV ta tb) σ H (.bl (a && b)) := ev_andV h1 h2
theorem ev_orV2 (h1 : Ev ta σ H (.bl a)) (h2 : Imp (a = false) (Ev tb σ H (.bl b))) : Ev (tOrV ta tb) σ H (.bl (a || b)) := ev_orV h1 h2
theorem ev_chain2 (ha : Ev ta σ H x) (hb : Ev tb σ H y) (hr : RV r x y H (.bl a)) (hc : Imp (a = true) (Ev tc σ H z)) (hr2 : Imp (a = true) (RV r' y z H (.bl b))) : Ev (tChain r r' ta tb tc) σ H (.bl (a && b)) := ev_chain ha hb hr hc hr2
end
section
variable {K : PySem.W.Frag} {H : Hp}
theorem is_ii {i : Int} : RC (rIsi K) [.int i, .ty "int"] H (.bl true) := rc_isi (fun _ _ => ty_int) (by decide +kernel)
theorem is_ib {i : Int} : RC (rIsi K) [.int i, .ty "bool"] H (.bl false) := rc_isi (fun _ _ => ty_int) (by decide +kernel)
theorem is_is {i : Int} : RC (rIsi K) [.int i, .ty "str"] H (.bl false) := rc_isi (fun _ _ => ty_int) (by decide +kernel)
theorem is_il {i : Int} : RC (rIsi K) [.int i, .ty "list"] H (.bl false) := rc_isi (fun _ _ => ty_int) (by decide +kernel)
theorem is_bb {i : Bool} : RC (rIsi K) [.bl i, .ty "bool"] H (.bl true) := rc_isi (fun _ _ => ty_bl) (by decide +kernel)
theorem is_bi {i : Bool} : RC (rIsi K) [.bl i, .ty "int"] H (.bl true) := rc_isi (fun _ _ => ty_bl) (by decide +kernel)
theorem is_bs {i : Bool} : RC (rIsi K) [.bl i, .ty "str"] H (.bl false) := rc_isi (fun _ _ => ty_bl) (by decide +kernel)
theorem is_ss {i : Str} : RC (rIsi K) [.str i, .ty "str"] H (.bl true) := rc_isi (fun _ _ => ty_str) (by decide +kernel)
theorem is_si {i : Str} : RC (rIsi K) [.str i, .ty "int"] H (.bl false) := rc_isi (fun _ _ => ty_str) (by decide +kernel)
theorem is_sb {i : Str} : RC (rIsi K) [.str i, .ty "bool"] H (.bl false) := rc_isi (fun _ _ => ty_str) (by decide +kernel)
theorem is_sl {i : Str} : RC (rIsi K) [.str i, .ty "list"] H (.bl false) := rc_isi (fun _ _ => ty_str) (by decide +kernel)
theorem is_ll {a : Addr} {xs : List V} (h : SqL K H a xs) : RC (rIsi K) [.ref a, .ty "list"] H (.bl true) := rc_isi (fun _ e => ty_lst (ex_l e h)) (by decide +kernel)
theorem is_ls {a : Addr} {xs : List V} (h : SqL K H a xs) : RC (rIsi K) [.ref a, .ty "str"] H (.bl false) := rc_isi (fun _ e => ty_lst (ex_l e h)) (by decide +kernel)
theorem is_li {a : Addr} {xs : List V} (h : SqL K H a xs) : RC (rIsi K) [.ref a, .ty "int"] H (.bl false) := rc_isi (fun _ e => ty_lst (ex_l e h)) (by decide +kernel)
theorem is_tt {a : Addr} {xs : List V} (h : SqT K H a xs) : RC (rIsi K) [.ref a, .ty "tuple"] H (.bl true) := rc_isi (fun _ e => ty_tup (ex_t e h)) (by decide +kernel)
theorem is_tl {a : Addr} {xs : List V} (h : SqT K H a xs) : RC (rIsi K) [.ref a, .ty "list"] H (.bl false) := rc_isi (fun _ e => ty_tup (ex_t e h)) (by decide +kernel)
theorem is_ts {a : Addr} {xs : List V} (h : SqT K H a xs) : RC (rIsi K) [.ref a, .ty "str"] H (.bl false) := rc_isi (fun _ e => ty_tup (ex_t e h)) (by decide +kernel)
theorem is_nl : RC (rIsi K) [.non, .ty "list"] H (.bl false) := rc_isi (fun _ _ => .base .non) (by decide +kernel)
theorem is_ns : RC (rIsi K) [.non, .ty "str"] H (.bl false) := rc_isi (fun _ _ => .base .non) (by decide +kernel)
theorem is_ni : RC (rIsi K) [.non, .ty "int"] H (.bl false) := rc_isi (fun _ _ => .base .non) (by decide +kernel)
end
section
variable {σ : L2.St} {H : Hp} {te : TE} {t : TT} {v : V} {D : Ends} {tz : TS} {i : Nat}
/-- if c: x = e: the value that x has behind it -/
theorem sx_ifAsg {b : Bool} (h : EvT t σ H b) (h1 : b = true → Ev te σ H v) (h2 : b = false → σ.set i (some v) = σ) (k : Sx H tz D (σ.set i (some v))) : Sx H (tSeq (tIfS t (tAsg te (gName i)) tNext) tz) D σ :=
  sx_when h (fun hb => sx_asg1 (h1 hb) fun H1 e => k.at e) (fun hb => by have := k; rwa [h2 hb] at this)
end
section
variable {K : PySem.W.Frag} {σ : L2.St} {H : Hp} {z : V} {sp : Sp} {vs xs : List V} {E : XK} {ta : TA} {d : PyData}
theorem ev_call0 (h : EvA ta σ H vs) (hs : SpV sp vs H z) : Ev (tCall sp [] E ta) σ H z := ev_call h (by rw [List.append_nil]; exact hs)
theorem el_call0 (h : EvA ta σ H vs) (hs : SpL sp vs H xs) : EvL (tCall sp [] E ta) σ H xs := el_call h (by rw [List.append_nil]; exact hs)
theorem ed_call0 (h : EvA ta σ H vs) (hs : SpD K sp vs H d) : EvD K (tCall sp [] E ta) σ H d := ed_call h (by rw [List.append_nil]; exact hs)
end
section
variable {σ : L2.St} {H : Hp} {t u : TT} {a b : Bool}
/-! an or, an and, whose first test decides; and whose first does not -/
theorem et_ifT (h1 : EvT t σ H a) (h : a = true) : EvT (tOr t u) σ H true := by subst h; exact et_is (et_or (b := true) h1 fun q => nomatch q) rfl
theorem et_ifF (h1 : EvT t σ H a) (h : a = false) (h2 : EvT u σ H b) : EvT (tOr t u) σ H b := by subst h; exact et_is (et_or h1 fun _ => h2) (by simp)
theorem et_anT (h1 : EvT t σ H a) (h : a = true) (h2 : EvT u σ H b) : EvT (tAnd t u) σ H b := by subst h; exact et_is (et_and h1 fun _ => h2) (by simp)
theorem et_anF (h1 : EvT t σ H a) (h : a = false) : EvT (tAnd t u) σ H false := by subst h; exact et_is (et_and (b := false) h1 fun q => nomatch q) rfl
end
/-! ### a heap without the object at p: what does not lean on p stays when p is changed -/
def era (H : Hp) (p : Addr) : Hp := fun a => if a = p then none else H a
theorem era_ne {H : Hp} {p a : Addr} (h : a ≠ p) : era H p a = H a := by unfold era; rw [if_neg h]
theorem era_ex {H : Hp} {p : Addr} : Ex (era H p) H := fun a o h => by
  by_cases e : a = p
  · unfold era at h; rw [if_pos e] at h; cases h
  · rwa [era_ne e] at h
theorem era_mono {H H' : Hp} {p : Addr} (k : Ex H H') : Ex (era H p) (era H' p) := fun a o h => by
  by_cases e : a = p
  · unfold era at h; rw [if_pos e] at h; cases h
  · rw [era_ne e] at h ⊢; exact k a o h
theorem era_upd {H : Hp} {p : Addr} {o : HO} : era (upd H p o) p = era H p := by
  funext a
  by_cases e : a = p
  · unfold era; rw [if_pos e, if_pos e]
  · rw [era_ne e, era_ne e, upd_ne e]
theorem ex_era {H H' : Hp} {p : Addr} (k : Ex H H') (h : H p = none) : Ex H (era H' p) := fun a o e => by
  have ne : a ≠ p := fun q => by rw [q, h] at e; cases e
  rw [era_ne ne]; exact k a o e
/-! data without lists do not lean on a list -/
mutual
def noL : PyData → Bool
  | .list _ => false
  | .dict _ => false
  | .tuple ds => noLs ds
  | _ => true
def noLs : List PyData → Bool
  | [] => true
  | d :: ds => noL d && noLs ds
end
section
variable {K : PySem.W.Frag} {H : Hp} {l : Addr} {zs : List V}
theorem sqT_era (h : H l = some (.lst zs)) {t : Addr} {xs : List V} (k : SqT K H t xs) : SqT K (era H l) t xs := by
  rcases k with (k | ⟨o, k⟩) | k
  · exact .inl (.inl (by rw [era_ne (fun e => by rw [e, h] at k; cases k)]; exact k))
  · exact .inl (.inr ⟨o, by rw [era_ne (fun e => by rw [e, h] at k; cases k)]; exact k⟩)
  · exact .inr k
mutual
theorem dp_era (h : H l = some (.lst zs)) : ∀ {d : PyData} {v : V}, noL d = true → Dp K H v d → Dp K (era H l) v d
  | .none, _, _, k => by cases k; exact .non
  | .bool _, _, _, k => by cases k; exact .bl _
  | .int _, _, _, k => by cases k; exact .int _
  | .str _, _, _, k => by cases k; exact .str _
  | .list ds, _, n, k => by simp [noL] at n
  | .tuple ds, _, n, k => by cases k with | tup hs ha => exact .tup (sqT_era h hs) (dpa_era h (by simpa [noL] using n) ha)
  | .dict _, _, _, k => by cases k
theorem dpa_era (h : H l = some (.lst zs)) : ∀ {ds : List PyData} {vs : List V}, noLs ds = true → DpAll K H vs ds → DpAll K (era H l) vs ds
  | [], _, _, k => by cases k; exact .nil
  | d :: ds, _, n, k => by
    cases k with
    | cons h1 h2 =>
      have n' : noL d = true ∧ noLs ds = true := by simpa [noLs] using n
      exact .cons (dp_era h n'.1 h1) (dpa_era h n'.2 h2)
end
end
theorem noLs_all : ∀ {ds : List PyData}, (∀ d ∈ ds, noL d = true) → noLs ds = true
  | [], _ => rfl
  | d :: ds, h => by
    show (noL d && noLs ds) = true
    rw [h d (by simp), noLs_all fun x hx => h x (by simp [hx])]
    rfl
/-! ### a new list whose items' data are told -/
def EvDs (K : PySem.W.Frag) (te : TE) (σ : L2.St) (H : Hp) (ds : List PyData) : Prop := ∀ H1, Ex H H1 → ∀ Q : VK, (∀ p xs H2, H1 p = none → Ex H1 H2 → H2 p = some (.lst xs) → DpAll K H2 xs ds → Q (.ref p) H2) → te σ H1 Q
def RetDs (K : PySem.W.Frag) (ds : List PyData) (H : Hp) (Q : VK) : Prop := ∀ p xs H2, H p = none → Ex H H2 → H2 p = some (.lst xs) → DpAll K H2 xs ds → Q (.ref p) H2
def SpDs (K : PySem.W.Frag) (sp : Sp) (vs : List V) (H : Hp) (ds : List PyData) : Prop := ∀ H1, Ex H H1 → ∀ Q : VK, RetDs K ds H1 Q → ∀ E : XK, sp vs H1 Q E
section
variable {K : PySem.W.Frag} {σ : L2.St} {H H' : Hp} {te ta : TE} {D : Ends} {tz : TS} {i : Nat} {ds : List PyData} {sp : Sp} {vs : List V} {E : XK} {tb : TA}
theorem es_call0 (h : EvA tb σ H vs) (hs : SpDs K sp vs H ds) : EvDs K (tCall sp [] E tb) σ H ds := fun H1 e Q q =>
  h H1 e _ fun H2 e2 => by
    rw [List.append_nil]
    exact hs H2 (e.trans e2) Q (fun p xs H3 hp e3 h3 hd => q p xs H3 (fresh_back e2 hp) (e2.trans e3) h3 hd) E
theorem RetDs.go {Q : VK} (k : RetDs K ds H Q) (e : Ex H H') : RetDs K ds H' Q := fun p xs H2 hp e2 h2 hd => k p xs H2 (fresh_back e hp) (e.trans e2) h2 hd
theorem sx_asgDs (h : EvDs K te σ H ds) (k : ∀ p xs H1, H p = none → Ex H H1 → H1 p = some (.lst xs) → DpAll K H1 xs ds → Sx H1 tz D (σ.set i (some (.ref p)))) : Sx H (tSeq (tAsg te (gName i)) tz) D σ := fun H1 e =>
  h H1 e _ fun p xs H2 hp e2 h2 hd => k p xs H2 (fresh_back e hp) (e.trans e2) h2 hd H2 (Ex.refl H2)
/-- l.extend(a new list) -/
theorem sx_extDs1 {l : Addr} {xs : List V} (hl : H l = some (.lst xs)) (ha : Ev ta σ H (.ref l)) (h : EvDs K te σ H ds) (hz : xs.length + ds.length ≤ 100000)
    (k : ∀ p ys H1, H p = none → Ex H H1 → H1 p = some (.lst ys) → DpAll K H1 ys ds → D.nx σ (upd H1 l (.lst (xs ++ ys)))) :
    Sx H (tDrop (tBM K "list" rExtend ta (tCons te tNil))) D σ := fun H1 e => ha H1 e _ fun H2 e2 =>
  ⟨.inl ⟨rfl, xs, sq_of ((e.trans e2) l _ hl)⟩, h H2 (e.trans e2) _ fun p ys H3 hp e3 h3 hd => ⟨l, p, xs, ys, rfl, rfl, ((e.trans e2).trans e3) l _ hl, h3, sz_of (by rw [dpa_len hd]; exact hz), k p ys H3 (fresh_back (e.trans e2) hp) ((e.trans e2).trans e3) h3 hd⟩⟩
end
section
variable {K : PySem.W.Frag} {σ : L2.St} {H : Hp} {ta tb : TE} {a b : Addr} {x y u v : Int}
/-! pairs of whole numbers compared -/
theorem ev_lt2U (ha : Ev ta σ H (.ref a)) (hs : SqT K H a [.int x, .int y]) (hb : EvU tb σ H [.int u, .int v]) : Ev (tOp (rLtT K) ta tb) σ H (.bl (HT.lexLt [x, y] [u, v])) :=
  ev_opU ha hb fun p H1 hp e => rv_ltT (ns := [x, y]) (ms := [u, v]) (ex_t e hs) (st_of hp)
theorem rv_lt2 (h1 : SqT K H a [.int x, .int y]) (h2 : SqT K H b [.int u, .int v]) : RV (rLtT K) (.ref a) (.ref b) H (.bl (HT.lexLt [x, y] [u, v])) := rv_ltT (ns := [x, y]) (ms := [u, v]) h1 h2
theorem lex2 : HT.lexLt [x, y] [u, v] = decide (x < u ∨ (x = u ∧ y < v)) := by
  rw [HT.lexLt_cons]
  by_cases e : x = u
  · rw [if_pos e, HT.lexLt_cons]
    by_cases e2 : y = v
    · rw [if_pos e2, HT.lexLt_nil_nil]
      symm
      apply decide_eq_false
      omega
    · rw [if_neg e2]
      exact decide_eq_decide.mpr (by omega)
  · rw [if_neg e]
    exact decide_eq_decide.mpr (by omega)
end
section
variable {K : PySem.W.Frag} {σ : L2.St} {H : Hp} {ta tb te : TE} {tr : TA} {z v : V} {xs vs : List V} {i : Int} {sp : Sp} {E : XK} {f : Nat → V} {wi : TI}
/-- a new list's item -/
theorem ev_ixNL (ha : EvL ta σ H xs) (hb : Ev tb σ H (.int i)) (h : atI xs i = some z) : Ev (tOp (rIxL K) ta tb) σ H z := ev_opL1 ha (fun H1 e => hb.mono e) fun p H1 hp e => rv_ixL (sq_of hp) h
theorem at_two {x y : V} {c : Int} (h : c = 0 ∨ c = 1) : atI [x, y] c = some (if c = 0 then x else y) := by
  rcases h with rfl | rfl
  · rfl
  · rfl
/-- a call whose first argument is a new list -/
theorem ev_callL (ha : EvL ta σ H xs) (hr : EvA tr σ H vs) (hs : ∀ p H1, SqL K H1 p xs → Ex H H1 → SpV sp (.ref p :: vs) H1 z) : Ev (tCall sp [] E (tCons ta tr)) σ H z := fun H1 e Q q =>
  ha H1 e _ fun p H2 hp e2 h2 => hr H2 (e.trans e2) _ fun H3 e3 => by
    show sp ((.ref p :: vs) ++ []) H3 Q E
    rw [List.append_nil]
    exact hs p H3 (sq_of (e3 _ _ h2)) ((e.trans e2).trans e3) H3 (Ex.refl H3) Q (fun H4 e4 => q H4 ((e2.trans e3).trans e4)) E
theorem et_yes : EvT tYes σ H true := fun H1 _ _ q => q H1 (Ex.refl H1)
theorem given_all (n : Nat) : given n (fun _ => true) f = (List.range n).map f := by
  unfold given
  rw [List.filter_eq_self.mpr (by simp)]
/-- [e for x in xs], xs a list -/
theorem el_map {a : Addr} {tl : TE} {j : Nat} {ws : List Nat} {α : Type} {us : List α} {g h : α → V} (hl : Ev tl σ H (.ref a)) (hx : SqL K H a (us.map g)) (hz : us.length ≤ 40000) (hw : ∀ x, wipe ((wipe σ ws).set j (some x)) ws = wipe σ ws)
    (he : ∀ (u : α) H1, Ex H H1 → u ∈ us → Ev te ((wipe σ ws).set j (some (g u))) H1 (h u)) : EvL (tLc (iList K tl) (gName j) tYes te ws) σ H (us.map h) := by
  have k := el_lcL (K := K) (a := a) (xs := us.map g) (te := te) (t := tYes) (j := j) (vs := ws) (fun _ => true) (fun i => (us[i]?.map h).getD .non) hl hx (by simpa using hz) hw (fun _ _ _ _ _ => et_yes) fun i x H1 e hi _ => by
    rw [List.getElem?_map] at hi
    obtain ⟨u, hu, rfl⟩ := Option.map_eq_some_iff.mp hi
    rw [hu]
    exact he u H1 e (List.mem_of_getElem? hu)
  rw [given_all] at k
  have e : (List.range (us.map g).length).map (fun i => (us[i]?.map h).getD .non) = us.map h := by
    apply List.ext_getElem?
    intro i
    rw [List.getElem?_map, List.getElem?_map]
    by_cases hi : i < us.length
    · rw [List.getElem?_range (by simpa using hi), List.getElem?_eq_getElem hi]
      simp [List.getElem?_eq_getElem hi]
    · rw [List.getElem?_eq_none (by simpa using hi), List.getElem?_eq_none (by omega)]
      rfl
  rw [e] at k
  exact k
end
/-! equal texts in a list -/
theorem shaped_strs {xs : List Str} (h : ∀ s ∈ xs, PyData.strOk s = true) : SeqAt.shaped (.list (xs.map PyData.str)) = true := by
  have h1 : ∀ xs : List Str, (∀ s ∈ xs, PyData.strOk s = true) → PyData.canLayAll0 (xs.map PyData.str) = true := by
    intro xs
    induction xs with
    | nil => intro _; rfl
    | cons x xs ih =>
      intro h
      show (PyData.strOk x && PyData.canLayAll0 (xs.map PyData.str)) = true
      rw [h x (by simp), ih fun s hs => h s (by simp [hs])]
      rfl
  have h2 : ∀ xs : List Str, PyData.depthAll (xs.map PyData.str) = 0 := by
    intro xs
    induction xs with
    | nil => rfl
    | cons x xs ih =>
      show max 0 (PyData.depthAll (xs.map PyData.str)) = 0
      rw [ih]
      rfl
  unfold SeqAt.shaped
  rw [Bool.and_eq_true]
  refine ⟨h1 xs h, decide_eq_true ?_⟩
  show PyData.depthAll (xs.map PyData.str) + 1 ≤ 64
  rw [h2]
  decide
theorem eqv_same {d : PyData} (h : SeqAt.shaped d = true) : PyData.eqv d d = true := SeqAt.eqv_refl d (SeqAt.canLay_of_shaped h)
section
variable {σ : L2.St} {H : Hp} {to te : TE} {r : V → List V → Hp → VK → Prop} {s : Str} {v z : V}
theorem ev_m1 (ho : Ev to σ H (.str s)) (he : Ev te σ H v) (hr : RC (r (.str s)) [v] H z) : Ev (tM1 r to te) σ H z := fun H1 e Q q =>
  ho H1 e _ fun H2 e2 => ⟨⟨s, rfl⟩, he H2 (e.trans e2) _ fun H3 e3 => hr H3 ((e.trans e2).trans e3) Q fun H4 e4 => q H4 ((e2.trans e3).trans e4)⟩
theorem ev_m0 (ho : Ev to σ H (.str s)) (hr : RC (r (.str s)) [] H z) : Ev (tM0 r to) σ H z := fun H1 e Q q =>
  ho H1 e _ fun H2 e2 => ⟨⟨s, rfl⟩, hr H2 (e.trans e2) Q fun H4 e4 => q H4 (e2.trans e4)⟩
end
theorem at_twoI {x y c : Int} (h : c = 0 ∨ c = 1) : atI [V.int x, V.int y] c = some (.int (if c = 0 then x else y)) := by
  rcases h with rfl | rfl
  · rfl
  · rfl
end Xb

namespace Dl
open PySem PySem.Spec PyProof.Rows L2 Evl Xb
/-! ### pure data -/
inductive D where
  | non | bl (b : Bool) | int (i : Int) | str (s : Str) | ty (n : String) | ref (a : Addr)
  | lst (ds : List D) | tup (ds : List D)
  | dK (ks : List Key) (ds : List D) | dT (ks : List (List Key)) (ds : List D)
  | ins (C : Addr) (ks : List Str) (ds : List D)
  | scr (ns : List Int)
mutual
/-- v stands for the data d, all of it in F -/
inductive Rp (F : Hp) : V → D → Prop
  | non : Rp F .non .non
  | bl (b : Bool) : Rp F (.bl b) (.bl b)
  | int (i : Int) : Rp F (.int i) (.int i)
  | str (s : Str) : Rp F (.str s) (.str s)
  | ty (n : String) : Rp F (.ty n) (.ty n)
  | ref (a : Addr) : Rp F (.ref a) (.ref a)
  | lst {a : Addr} {vs : List V} {ds : List D} (h : F a = some (.lst vs)) (r : RpA F vs ds) : Rp F (.ref a) (.lst ds)
  | tup {a : Addr} {vs : List V} {ds : List D} (h : F a = some (.tup vs)) (r : RpA F vs ds) : Rp F (.ref a) (.tup ds)
  | dK {a : Addr} {kvs : List (Key × V)} {ks : List Key} {ds : List D} (h : F a = some (.dK kvs)) (k : kvs.map (·.1) = ks) (r : RpA F (kvs.map (·.2)) ds) : Rp F (.ref a) (.dK ks ds)
  | dT {a : Addr} {kvs : List (List Key × V)} {ks : List (List Key)} {ds : List D} (h : F a = some (.dT kvs)) (k : kvs.map (·.1) = ks) (r : RpA F (kvs.map (·.2)) ds) : Rp F (.ref a) (.dT ks ds)
  | ins {a C dx : Addr} {fs : List (Str × V)} {ks : List Str} {ds : List D} (h : F a = some (.ins C dx fs)) (k : fs.map (·.1) = ks) (r : RpA F (fs.map (·.2)) ds) : Rp F (.ref a) (.ins C ks ds)
inductive RpA (F : Hp) : List V → List D → Prop
  | nil : RpA F [] []
  | cons {v : V} {d : D} {vs : List V} {ds : List D} (h : Rp F v d) (r : RpA F vs ds) : RpA F (v :: vs) (d :: ds)
end
section
variable {F F' : Hp}
mutual
theorem Rp.mono (e : Ex F F') : ∀ {v : V} {d : D}, Rp F v d → Rp F' v d
  | _, _, .non => .non
  | _, _, .bl b => .bl b
  | _, _, .int i => .int i
  | _, _, .str s => .str s
  | _, _, .ty n => .ty n
  | _, _, .ref a => .ref a
  | _, _, .lst h r => .lst (e _ _ h) (RpA.mono e r)
  | _, _, .tup h r => .tup (e _ _ h) (RpA.mono e r)
  | _, _, .dK h k r => .dK (e _ _ h) k (RpA.mono e r)
  | _, _, .dT h k r => .dT (e _ _ h) k (RpA.mono e r)
  | _, _, .ins h k r => .ins (e _ _ h) k (RpA.mono e r)
theorem RpA.mono (e : Ex F F') : ∀ {vs : List V} {ds : List D}, RpA F vs ds → RpA F' vs ds
  | _, _, .nil => .nil
  | _, _, .cons h r => .cons (Rp.mono e h) (RpA.mono e r)
end
theorem RpA.len : ∀ {vs : List V} {ds : List D}, RpA F vs ds → vs.length = ds.length
  | _, _, .nil => rfl
  | _, _, .cons _ r => by simp [RpA.len r]
theorem RpA.app : ∀ {vs ws : List V} {ds es : List D}, RpA F vs ds → RpA F ws es → RpA F (vs ++ ws) (ds ++ es)
  | _, _, _, _, .nil, k => k
  | _, _, _, _, .cons h r, k => .cons h (RpA.app r k)
theorem RpA.get : ∀ {vs : List V} {ds : List D} {i : Nat} {v : V}, RpA F vs ds → vs[i]? = some v → ∃ d, ds[i]? = some d ∧ Rp F v d
  | _, _, _, _, .nil, q => by simp at q
  | _, _, 0, _, .cons h r, q => by simp at q; subst q; exact ⟨_, rfl, h⟩
  | _, _, i + 1, _, .cons h r, q => by
    obtain ⟨d, h1, h2⟩ := RpA.get (i := i) r (by simpa using q)
    exact ⟨d, by simpa using h1, h2⟩
theorem RpA.at : ∀ {vs : List V} {ds : List D} {i : Nat} {d : D}, RpA F vs ds → ds[i]? = some d → ∃ v, vs[i]? = some v ∧ Rp F v d
  | _, _, _, _, .nil, q => by simp at q
  | _, _, 0, _, .cons h r, q => by simp at q; subst q; exact ⟨_, rfl, h⟩
  | _, _, i + 1, _, .cons h r, q => by
    obtain ⟨d, h1, h2⟩ := RpA.at (i := i) r (by simpa using q)
    exact ⟨d, by simpa using h1, h2⟩
theorem RpA.drop : ∀ {vs : List V} {ds : List D} (n : Nat), RpA F vs ds → RpA F (vs.drop n) (ds.drop n)
  | _, _, 0, r => r
  | _, _, _ + 1, .nil => .nil
  | _, _, n + 1, .cons _ r => RpA.drop n r
theorem RpA.take : ∀ {vs : List V} {ds : List D} (n : Nat), RpA F vs ds → RpA F (vs.take n) (ds.take n)
  | _, _, 0, _ => .nil
  | _, _, _ + 1, .nil => .nil
  | _, _, n + 1, .cons h r => .cons h (RpA.take n r)
theorem RpA.set {v : V} {d : D} (h : Rp F v d) : ∀ {vs : List V} {ds : List D} (i : Nat), RpA F vs ds → RpA F (vs.set i v) (ds.set i d)
  | _, _, _, .nil => .nil
  | _, _, 0, .cons _ r => .cons h r
  | _, _, i + 1, .cons k r => .cons k (RpA.set h i r)
theorem RpA.snoc {vs : List V} {ds : List D} {v : V} {d : D} (r : RpA F vs ds) (h : Rp F v d) : RpA F (vs ++ [v]) (ds ++ [d]) := r.app (.cons h .nil)
theorem RpA.ints : ∀ {vs : List V} {ns : List Int}, RpA F vs (ns.map D.int) → vs = ns.map V.int
  | _, [], .nil => rfl
  | _, n :: ns, .cons h r => by
    cases h
    rw [List.map_cons, ← RpA.ints r]
theorem RpA.bls : ∀ {vs : List V} {ns : List Bool}, RpA F vs (ns.map D.bl) → vs = ns.map V.bl
  | _, [], .nil => rfl
  | _, n :: ns, .cons h r => by
    cases h
    rw [List.map_cons, ← RpA.bls r]
theorem RpA.strs : ∀ {vs : List V} {ns : List Str}, RpA F vs (ns.map D.str) → vs = ns.map V.str
  | _, [], .nil => rfl
  | _, n :: ns, .cons h r => by
    cases h
    rw [List.map_cons, ← RpA.strs r]
theorem RpA.ofInts : ∀ (ns : List Int), RpA F (ns.map V.int) (ns.map D.int)
  | [] => .nil
  | n :: ns => .cons (.int n) (RpA.ofInts ns)
theorem RpA.ofStrs : ∀ (ns : List Str), RpA F (ns.map V.str) (ns.map D.str)
  | [] => .nil
  | n :: ns => .cons (.str n) (RpA.ofStrs ns)
theorem RpA.one {v : V} {d : D} (h : Rp F v d) : RpA F [v] [d] := .cons h .nil
end
/-! ### the object at a stands in H, what it holds in F -/
def Ow (K : PySem.W.Frag) (F H : Hp) (a : Addr) : D → Prop
  | .lst ds => ∃ vs, H a = some (.lst vs) ∧ RpA F vs ds
  | .dK ks ds => ∃ kvs : List (Key × V), H a = some (.dK kvs) ∧ kvs.map (·.1) = ks ∧ RpA F (kvs.map (·.2)) ds
  | .dT ks ds => ∃ kvs : List (List Key × V), H a = some (.dT kvs) ∧ kvs.map (·.1) = ks ∧ RpA F (kvs.map (·.2)) ds
  | .ins C ks ds => ∃ (dx : Addr) (fs : List (Str × V)), H a = some (.ins C dx fs) ∧ fs.map (·.1) = ks ∧ RpA F (fs.map (·.2)) ds
  | .scr ns => SqL K H a (ns.map V.int)
  | _ => False
theorem Ow.mono {K : PySem.W.Frag} {F F' H H' : Hp} {a : Addr} {d : D} (e : Ex F F') (k : Ex H H') (h : Ow K F H a d) : Ow K F' H' a d := by
  cases d with
  | lst ds => obtain ⟨vs, h1, h2⟩ := h; exact ⟨vs, k _ _ h1, h2.mono e⟩
  | dK ks ds => obtain ⟨vs, h1, h2, h3⟩ := h; exact ⟨vs, k _ _ h1, h2, h3.mono e⟩
  | dT ks ds => obtain ⟨vs, h1, h2, h3⟩ := h; exact ⟨vs, k _ _ h1, h2, h3.mono e⟩
  | ins C ks ds => obtain ⟨dx, fs, h1, h2, h3⟩ := h; exact ⟨dx, fs, k _ _ h1, h2, h3.mono e⟩
  | scr ns => exact ex_l k h
  | non => exact h.elim
  | bl b => exact h.elim
  | int b => exact h.elim
  | str b => exact h.elim
  | ty b => exact h.elim
  | ref b => exact h.elim
  | tup b => exact h.elim
/-- the same where only the object at a is known to stay -/
theorem Ow.keep {K : PySem.W.Frag} {F F' H H' : Hp} {a : Addr} {d : D} (e : Ex F F') (k : ∀ o, H a = some o → H' a = some o) (h : Ow K F H a d) : Ow K F' H' a d := by
  cases d with
  | lst ds => obtain ⟨vs, h1, h2⟩ := h; exact ⟨vs, k _ h1, h2.mono e⟩
  | dK ks ds => obtain ⟨vs, h1, h2, h3⟩ := h; exact ⟨vs, k _ h1, h2, h3.mono e⟩
  | dT ks ds => obtain ⟨vs, h1, h2, h3⟩ := h; exact ⟨vs, k _ h1, h2, h3.mono e⟩
  | ins C ks ds => obtain ⟨dx, fs, h1, h2, h3⟩ := h; exact ⟨dx, fs, k _ h1, h2, h3.mono e⟩
  | scr ns =>
    rcases h with (h | ⟨o, h⟩) | h
    · exact .inl (.inl (k _ h))
    · exact .inl (.inr ⟨o, k _ h⟩)
    · exact .inr h
  | non => exact h.elim
  | bl b => exact h.elim
  | int b => exact h.elim
  | str b => exact h.elim
  | ty b => exact h.elim
  | ref b => exact h.elim
  | tup b => exact h.elim
theorem Ow.there {K : PySem.W.Frag} {F H : Hp} {a : Addr} {d : D} (h : Ow K F H a d) (hs : ∀ ns, d ≠ .scr ns) : H a ≠ none := by
  cases d with
  | lst ds => obtain ⟨vs, h1, h2⟩ := h; rw [h1]; exact fun q => nomatch q
  | dK ks ds => obtain ⟨vs, h1, h2, h3⟩ := h; rw [h1]; exact fun q => nomatch q
  | dT ks ds => obtain ⟨vs, h1, h2, h3⟩ := h; rw [h1]; exact fun q => nomatch q
  | ins C ks ds => obtain ⟨dx, fs, h1, h2, h3⟩ := h; rw [h1]; exact fun q => nomatch q
  | scr ns => exact absurd rfl (hs ns)
  | non => exact h.elim
  | bl b => exact h.elim
  | int b => exact h.elim
  | str b => exact h.elim
  | ty b => exact h.elim
  | ref b => exact h.elim
  | tup b => exact h.elim
/-- frozen is owned by itself -/
theorem Ow.rp {K : PySem.W.Frag} {F H : Hp} {a : Addr} {d : D} (h : Ow K F H a d) (hs : ∀ ns, d ≠ .scr ns) (k : ∀ o, H a = some o → F a = some o) : Rp F (.ref a) d := by
  cases d with
  | lst ds => obtain ⟨vs, h1, h2⟩ := h; exact .lst (k _ h1) h2
  | dK ks ds => obtain ⟨vs, h1, h2, h3⟩ := h; exact .dK (k _ h1) h2 h3
  | dT ks ds => obtain ⟨vs, h1, h2, h3⟩ := h; exact .dT (k _ h1) h2 h3
  | ins C ks ds => obtain ⟨dx, fs, h1, h2, h3⟩ := h; exact .ins (k _ h1) h2 h3
  | scr ns => exact absurd rfl (hs ns)
  | non => exact h.elim
  | bl b => exact h.elim
  | int b => exact h.elim
  | str b => exact h.elim
  | ty b => exact h.elim
  | ref b => exact h.elim
  | tup b => exact h.elim
/-- read: in F as a whole, or an object that stands in H -/
def Shl (K : PySem.W.Frag) (F H : Hp) (v : V) (d : D) : Prop := Rp F v d ∨ ∃ a, v = .ref a ∧ Ow K F H a d
theorem Shl.lst {K : PySem.W.Frag} {F H : Hp} {v : V} {ds : List D} (e : Ex F H) (h : Shl K F H v (.lst ds)) : ∃ a vs, v = .ref a ∧ H a = some (.lst vs) ∧ RpA F vs ds := by
  rcases h with h | ⟨a, rfl, vs, h1, h2⟩
  · cases h with | lst h r => exact ⟨_, _, rfl, e _ _ h, r⟩
  · exact ⟨a, vs, rfl, h1, h2⟩
theorem Shl.tup {K : PySem.W.Frag} {F H : Hp} {v : V} {ds : List D} (h : Shl K F H v (.tup ds)) : ∃ a vs, v = .ref a ∧ F a = some (.tup vs) ∧ RpA F vs ds := by
  rcases h with h | ⟨a, rfl, h⟩
  · cases h with | tup h r => exact ⟨_, _, rfl, h, r⟩
  · exact h.elim
theorem Shl.dK {K : PySem.W.Frag} {F H : Hp} {v : V} {ks : List Key} {ds : List D} (e : Ex F H) (h : Shl K F H v (.dK ks ds)) : ∃ a kvs, v = .ref a ∧ H a = some (.dK kvs) ∧ kvs.map (·.1) = ks ∧ RpA F (kvs.map (·.2)) ds := by
  rcases h with h | ⟨a, rfl, vs, h1, h2, h3⟩
  · cases h with | dK h k r => exact ⟨_, _, rfl, e _ _ h, k, r⟩
  · exact ⟨a, vs, rfl, h1, h2, h3⟩
theorem Shl.dT {K : PySem.W.Frag} {F H : Hp} {v : V} {ks : List (List Key)} {ds : List D} (e : Ex F H) (h : Shl K F H v (.dT ks ds)) : ∃ a kvs, v = .ref a ∧ H a = some (.dT kvs) ∧ kvs.map (·.1) = ks ∧ RpA F (kvs.map (·.2)) ds := by
  rcases h with h | ⟨a, rfl, vs, h1, h2, h3⟩
  · cases h with | dT h k r => exact ⟨_, _, rfl, e _ _ h, k, r⟩
  · exact ⟨a, vs, rfl, h1, h2, h3⟩
theorem Shl.ins {K : PySem.W.Frag} {F H : Hp} {v : V} {C : Addr} {ks : List Str} {ds : List D} (e : Ex F H) (h : Shl K F H v (.ins C ks ds)) : ∃ a dx fs, v = .ref a ∧ H a = some (.ins C dx fs) ∧ fs.map (·.1) = ks ∧ RpA F (fs.map (·.2)) ds := by
  rcases h with h | ⟨a, rfl, dx, fs, h1, h2, h3⟩
  · cases h with | ins h k r => exact ⟨_, _, _, rfl, e _ _ h, k, r⟩
  · exact ⟨a, dx, fs, rfl, h1, h2, h3⟩
theorem Shl.scr {K : PySem.W.Frag} {F H : Hp} {v : V} {ns : List Int} (h : Shl K F H v (.scr ns)) : ∃ a, v = .ref a ∧ SqL K H a (ns.map V.int) := by
  rcases h with h | ⟨a, rfl, h1⟩
  · cases h
  · exact ⟨a, rfl, h1⟩
/-! ### on: nothing that stood is changed, what stood outside F stays outside -/
structure Go (F H F' H' : Hp) : Prop where
  h : Ex H H'
  f : Ex F F'
  s : Ex F' H'
  n : ∀ p, H p ≠ none → F' p = F p
theorem Go.refl {F H : Hp} (s : Ex F H) : Go F H F H := ⟨Ex.refl H, Ex.refl F, s, fun _ _ => rfl⟩
theorem Ex.ne {H H' : Hp} (e : Ex H H') {p : Addr} (h : H p ≠ none) : H' p ≠ none := by
  cases q : H p with
  | none => exact absurd q h
  | some o => rw [e _ _ q]; exact fun q => nomatch q
theorem Go.trans {F H F1 H1 F2 H2 : Hp} (a : Go F H F1 H1) (b : Go F1 H1 F2 H2) : Go F H F2 H2 :=
  ⟨a.h.trans b.h, a.f.trans b.f, b.s, fun p hp => (b.n p (Ex.ne a.h hp)).trans (a.n p hp)⟩
theorem Go.out {F H F' H' : Hp} (a : Go F H F' H') {p : Addr} (h : H p ≠ none) (hf : F p = none) : F' p = none := (a.n p h).trans hf
/-- a new object, put into F -/
theorem Go.newF {F H : Hp} (s : Ex F H) {p : Addr} {o : HO} (h : H p = none) : Go F H (upd F p o) (upd H p o) :=
  ⟨Ex.new h, Ex.new (fresh_back s h), fun a u q => by
    by_cases e : a = p
    · subst e; rw [upd_same] at q ⊢; exact q
    · rw [upd_ne e] at q ⊢; exact s a u q, fun a ha => upd_ne fun e => ha (by rw [e]; exact h)⟩
/-- a new object, left out of F -/
theorem Go.newH {F H : Hp} (s : Ex F H) {p : Addr} {o : HO} (h : H p = none) : Go F H F (upd H p o) :=
  ⟨Ex.new h, Ex.refl F, s.trans (Ex.new h), fun _ _ => rfl⟩
/-! ### the state of a def: what its slots stand for, and the objects that it may change -/
abbrev Res := List (Addr × D)
abbrev En := List (Option D)
structure Ct where
  K : PySem.W.Frag
  B : Hp
  F0 : Hp
  S : Res
abbrev Ct.pin (c : Ct) (a : Addr) (d : D) : Ct := { c with S := (a, d) :: c.S }
def Slots (F : Hp) (ρ : En) (σ : L2.St) : Prop := ρ.length = σ.length ∧ ∀ (i : Nat) d, ρ[i]? = some (some d) → ∃ v, σ[i]? = some (some v) ∧ Rp F v d
structure At (c : Ct) (G : Res) (ρ : En) (F : Hp) (σ : L2.St) (H : Hp) : Prop where
  go : Go c.F0 c.B F H
  sl : Slots F ρ σ
  sh : ∀ x ∈ c.S, Shl c.K F c.B (.ref x.1) x.2
  ow : ∀ x ∈ G, Ow c.K F H x.1 x.2 ∧ F x.1 = none ∧ c.B x.1 = none
  nd : (G.map (·.1)).Nodup
  ns : ∀ x ∈ G, ∀ ns, x.2 ≠ .scr ns
theorem Slots.mono {F F' : Hp} {ρ : En} {σ : L2.St} (e : Ex F F') (h : Slots F ρ σ) : Slots F' ρ σ := ⟨h.1, fun i d q => let ⟨v, h1, h2⟩ := h.2 i d q; ⟨v, h1, h2.mono e⟩⟩
theorem Slots.set {F : Hp} {ρ : En} {σ : L2.St} {i : Nat} {d : D} {v : V} (h : Slots F ρ σ) (r : Rp F v d) : Slots F (ρ.set i (some d)) (σ.set i (some v)) := by
  refine ⟨by simp [h.1], fun j e q => ?_⟩
  by_cases hj : i = j
  · subst hj
    have hl : i < ρ.length := by
      have := (List.getElem?_eq_some_iff.mp q).1
      simpa using this
    rw [List.getElem?_set_self hl] at q
    have hl2 : i < σ.length := by rw [← h.1]; exact hl
    rw [List.getElem?_set_self hl2]
    have q' := Option.some.inj (Option.some.inj q)
    subst q'
    exact ⟨v, rfl, r⟩
  · rw [List.getElem?_set_ne hj] at q ⊢
    exact h.2 j e q
/-- fewer slots told -/
def Le : En → En → Prop
  | [], [] => True
  | none :: r, _ :: s => Le r s
  | some d :: r, some e :: s => d = e ∧ Le r s
  | _, _ => False
theorem Le.ix : ∀ {r s : En}, Le r s → r.length = s.length ∧ ∀ (i : Nat) d, r[i]? = some (some d) → s[i]? = some (some d)
  | [], [], _ => ⟨rfl, fun i d q => by simp at q⟩
  | none :: r, x :: s, h => by
    obtain ⟨h1, h2⟩ := Le.ix (r := r) (s := s) h
    refine ⟨by simp [h1], fun i d q => ?_⟩
    cases i with
    | zero => simp at q
    | succ i => simpa using h2 i d (by simpa using q)
  | some d :: r, some e :: s, h => by
    obtain ⟨h1, h2⟩ := Le.ix (r := r) (s := s) h.2
    refine ⟨by simp [h1], fun i x q => ?_⟩
    cases i with
    | zero => have := h.1; subst this; simpa using q
    | succ i => simpa using h2 i x (by simpa using q)
  | some d :: r, none :: s, h => by cases h
  | [], _ :: _, h => by cases h
  | none :: _, [], h => by cases h
  | some _ :: _, [], h => by cases h
theorem Le.refl : ∀ r : En, Le r r
  | [] => trivial
  | none :: r => Le.refl r
  | some _ :: r => ⟨rfl, Le.refl r⟩
theorem Slots.le {F : Hp} {r s : En} {σ : L2.St} (l : Le r s) (h : Slots F s σ) : Slots F r σ := ⟨l.ix.1.trans h.1, fun i d q => h.2 i d (l.ix.2 i d q)⟩
section
variable {c : Ct} {G G' : Res} {ρ ρ' : En} {F F' H H' : Hp} {σ σ' : L2.St}
theorem At.ex (A : At c G ρ F σ H) : Ex F H := A.go.s
theorem At.on (A : At c G ρ F σ H) (g : Go F H F' H') : At c G ρ F' σ H' :=
  ⟨A.go.trans g, A.sl.mono g.f, fun x hx => by
    rcases A.sh x hx with h | ⟨a, h1, h2⟩
    · exact .inl (h.mono g.f)
    · exact .inr ⟨a, h1, h2.mono g.f (Ex.refl _)⟩, fun x hx => by
    obtain ⟨h1, h2, h3⟩ := A.ow x hx
    exact ⟨h1.mono g.f g.h, g.out (h1.there (A.ns x hx)) h2, h3⟩, A.nd, A.ns⟩
theorem At.set {i : Nat} {d : D} {v : V} (A : At c G ρ F σ H) (r : Rp F v d) : At c G (ρ.set i (some d)) F (σ.set i (some v)) H := ⟨A.go, A.sl.set r, A.sh, A.ow, A.nd, A.ns⟩
theorem At.le (A : At c G ρ F σ H) (l : Le ρ' ρ) : At c G ρ' F σ H := ⟨A.go, A.sl.le l, A.sh, A.ow, A.nd, A.ns⟩
theorem At.unpin {a : Addr} {d : D} (A : At (c.pin a d) G ρ F σ H) : At c G ρ F σ H := ⟨A.go, A.sl, fun x hx => A.sh x (List.mem_cons_of_mem _ hx), A.ow, A.nd, A.ns⟩
theorem At.pin {a : Addr} {d : D} (A : At c G ρ F σ H) (h : Shl c.K F c.B (.ref a) d) : At (c.pin a d) G ρ F σ H := ⟨A.go, A.sl, fun x hx => by
    rcases List.mem_cons.mp hx with e | e
    · rw [e]; exact h
    · exact A.sh x e, A.ow, A.nd, A.ns⟩
/-- an own object of the def stands in no frame but its own -/
theorem At.get {p : Addr} {d : D} (A : At c G ρ F σ H) (h : (p, d) ∈ G) : Ow c.K F H p d := (A.ow _ h).1
theorem At.read {p : Addr} {d : D} (A : At c G ρ F σ H) (h : (p, d) ∈ c.S ∨ (p, d) ∈ G) : Shl c.K F H (.ref p) d := by
  rcases h with h | h
  · rcases A.sh _ h with k | ⟨a, k1, k2⟩
    · exact .inl k
    · exact .inr ⟨a, k1, k2.mono (Ex.refl _) A.go.h⟩
  · exact .inr ⟨p, rfl, A.get h⟩
end
end Dl

namespace Dl
open PySem PySem.Spec PyProof.Rows L2 Evl Xb
/-! ### what is asked: an expression gives data (all in F), is read, is a new object, gives a test's answer -/
def EvP (c : Ct) (G : Res) (ρ : En) (te : TE) (d : D) : Prop := ∀ F σ H, At c G ρ F σ H → ∀ Q : VK, (∀ v F' H', Go F H F' H' → Rp F' v d → Q v H') → te σ H Q
def EvS (c : Ct) (G : Res) (ρ : En) (te : TE) (d : D) : Prop := ∀ F σ H, At c G ρ F σ H → ∀ Q : VK, (∀ v F' H', Go F H F' H' → Shl c.K F' H' v d → Q v H') → te σ H Q
def EvN (c : Ct) (G : Res) (ρ : En) (te : TE) (d : D) : Prop := ∀ F σ H, At c G ρ F σ H → ∀ Q : VK, (∀ p F' H', Go F H F' H' → H p = none → F' p = none → Ow c.K F' H' p d → (∀ ns, d ≠ .scr ns) → Q (.ref p) H') → te σ H Q
def EvT (c : Ct) (G : Res) (ρ : En) (tt : TT) (b : Bool) : Prop := ∀ F σ H, At c G ρ F σ H → ∀ Q : Bool → Hp → Prop, (∀ F' H', Go F H F' H' → Q b H') → tt σ H Q
def EvA (c : Ct) (G : Res) (ρ : En) (ta : TA) (ds : List D) : Prop := ∀ F σ H, At c G ρ F σ H → ∀ Q : List V → Hp → Prop, (∀ vs F' H', Go F H F' H' → RpA F' vs ds → Q vs H') → ta σ H Q
def EvO (c : Ct) (G : Res) (ρ : En) (to : TO) (o : Option Int) : Prop := ∀ F σ H, At c G ρ F σ H → ∀ Q : Option Int → Hp → Prop, (∀ F' H', Go F H F' H' → Q o H') → to σ H Q
/-- two things side by side, one behind the other -/
def Imp (p q : Prop) : Prop := p → q
section
variable {c : Ct} {G : Res} {ρ : En} {ta tb tc te : TE} {t u : TT} {d e : D}
theorem EvN.toP (h : EvN c G ρ te d) : EvP c G ρ te d := fun F σ H A Q q => h F σ H A Q fun p F' H' g hp hf ho hs => by
  have hF : F p = none := fresh_back A.ex hp
  obtain ⟨o, hH⟩ : ∃ o, H' p = some o := by
    cases e : H' p with
    | none => exact absurd e (ho.there hs)
    | some o => exact ⟨o, rfl⟩
  refine q _ (upd F' p o) H' ⟨g.h, g.f.trans (Ex.new hf), fun a u ha => ?_, fun a ha => ?_⟩ ((ho.mono (Ex.new hf) (Ex.refl _)).rp hs fun u hu => ?_)
  · by_cases e : a = p
    · subst e; rw [upd_same] at ha; rw [hH]; exact ha
    · rw [upd_ne e] at ha; exact g.s a u ha
  · rw [upd_ne fun e => ha (by rw [e]; exact hp)]
    exact g.n a ha
  · rw [upd_same, ← hu, hH]
theorem EvP.toS (h : EvP c G ρ te d) : EvS c G ρ te d := fun F σ H A Q q => h F σ H A Q fun v F' H' g r => q v F' H' g (.inl r)
theorem EvS.res {p : Addr} (h : EvP c G ρ te (.ref p)) (m : (p, d) ∈ c.S ∨ (p, d) ∈ G) : EvS c G ρ te d := fun F σ H A Q q => h F σ H A Q fun v F' H' g r => by
  cases r
  exact q _ F' H' g ((A.on g).read m)
theorem EvP.is (h : EvP c G ρ te d) (k : d = e) : EvP c G ρ te e := k ▸ h
theorem EvN.is (h : EvN c G ρ te d) (k : d = e) : EvN c G ρ te e := k ▸ h
theorem EvT.is {a b : Bool} (h : EvT c G ρ t a) (e : a = b) : EvT c G ρ t b := e ▸ h
theorem EvS.int {i : Int} (h : EvS c G ρ te (.int i)) : EvP c G ρ te (.int i) := fun F σ H A Q q => h F σ H A Q fun v F' H' g r => by
  rcases r with r | ⟨a, _, k⟩
  · exact q v F' H' g r
  · exact k.elim
/-! names, constants -/
theorem p_var {i : Nat} (h : ρ[i]? = some (some d)) : EvP c G ρ (tVar i) d := fun F σ H A Q q => by
  obtain ⟨v, h1, h2⟩ := A.sl.2 i d h
  exact ⟨v, h1, q v F H (Go.refl A.ex) h2⟩
theorem p_int {i : Int} : EvP c G ρ (tC (.int i)) (.int i) := fun F σ H A Q q => q _ F H (Go.refl A.ex) (.int i)
theorem p_str {i : Str} : EvP c G ρ (tC (.str i)) (.str i) := fun F σ H A Q q => q _ F H (Go.refl A.ex) (.str i)
theorem p_bl {i : Bool} : EvP c G ρ (tC (.bl i)) (.bl i) := fun F σ H A Q q => q _ F H (Go.refl A.ex) (.bl i)
theorem p_non : EvP c G ρ (tC .non) .non := fun F σ H A Q q => q _ F H (Go.refl A.ex) .non
theorem p_ty {n : String} : EvP c G ρ (tC (.ty n)) (.ty n) := fun F σ H A Q q => q _ F H (Go.refl A.ex) (.ty n)
/-! two operands -/
theorem p_two {P : VK → V → V → Hp → Prop} {x y : D} (ha : EvP c G ρ ta x) (hb : EvP c G ρ tb y) (F : Hp) (σ : L2.St) (H : Hp) (A : At c G ρ F σ H) (Q : VK)
    (q : ∀ v w F' H', Go F H F' H' → Rp F' v x → Rp F' w y → P Q v w H') : ta σ H fun v H1 => tb σ H1 fun w H2 => P Q v w H2 :=
  ha F σ H A _ fun v F1 H1 g1 r1 => hb F1 σ H1 (A.on g1) _ fun w F2 H2 g2 r2 => q v w F2 H2 (g1.trans g2) (r1.mono g2.f) r2
theorem p_opI {f : Int → Int → Int} {i j : Int} (ha : EvP c G ρ ta (.int i)) (hb : EvP c G ρ tb (.int j)) : EvP c G ρ (tOp (rI0 fun i j => .int (f i j)) ta tb) (.int (f i j)) := fun F σ H A Q q =>
  ha F σ H A _ fun v F1 H1 g1 r1 => hb F1 σ H1 (A.on g1) _ fun w F2 H2 g2 r2 => by cases r1; cases r2; exact ⟨i, j, rfl, rfl, q _ F2 H2 (g1.trans g2) (.int _)⟩
theorem p_opB {f : Int → Int → Bool} {i j : Int} (ha : EvP c G ρ ta (.int i)) (hb : EvP c G ρ tb (.int j)) : EvP c G ρ (tOp (rI0 fun i j => .bl (f i j)) ta tb) (.bl (f i j)) := fun F σ H A Q q =>
  ha F σ H A _ fun v F1 H1 g1 r1 => hb F1 σ H1 (A.on g1) _ fun w F2 H2 g2 r2 => by cases r1; cases r2; exact ⟨i, j, rfl, rfl, q _ F2 H2 (g1.trans g2) (.bl _)⟩
theorem p_opC {C : Int → Int → Prop} {f : Int → Int → Int} {i j : Int} (ha : EvP c G ρ ta (.int i)) (hb : EvP c G ρ tb (.int j)) (hc : C i j) : EvP c G ρ (tOp (rI C fun i j => .int (f i j)) ta tb) (.int (f i j)) := fun F σ H A Q q =>
  ha F σ H A _ fun v F1 H1 g1 r1 => hb F1 σ H1 (A.on g1) _ fun w F2 H2 g2 r2 => by cases r1; cases r2; exact ⟨i, j, rfl, rfl, hc, q _ F2 H2 (g1.trans g2) (.int _)⟩
theorem p_neg {i : Int} (ha : EvP c G ρ ta (.int i)) : EvP c G ρ (tUn (rU fun i => .int (-i)) ta) (.int (-i)) := fun F σ H A Q q => ha F σ H A _ fun v F1 H1 g1 r1 => by cases r1; exact ⟨i, rfl, q _ F1 H1 g1 (.int _)⟩
theorem p_eqI {i j : Int} (ha : EvP c G ρ ta (.int i)) (hb : EvP c G ρ tb (.int j)) : EvP c G ρ (tOp rEq ta tb) (.bl (decide (i = j))) := fun F σ H A Q q =>
  ha F σ H A _ fun v F1 H1 g1 r1 => hb F1 σ H1 (A.on g1) _ fun w F2 H2 g2 r2 => by
    cases r1; cases r2
    refine ⟨rfl, ?_⟩
    rw [show decide (V.int i = V.int j) = decide (i = j) by simp]
    exact q _ F2 H2 (g1.trans g2) (.bl _)
theorem p_neI {i j : Int} (ha : EvP c G ρ ta (.int i)) (hb : EvP c G ρ tb (.int j)) : EvP c G ρ (tOp rNe ta tb) (.bl (!decide (i = j))) := fun F σ H A Q q =>
  ha F σ H A _ fun v F1 H1 g1 r1 => hb F1 σ H1 (A.on g1) _ fun w F2 H2 g2 r2 => by
    cases r1; cases r2
    refine ⟨rfl, ?_⟩
    rw [show decide (V.int i = V.int j) = decide (i = j) by simp]
    exact q _ F2 H2 (g1.trans g2) (.bl _)
theorem p_eqS {i j : Str} (ha : EvP c G ρ ta (.str i)) (hb : EvP c G ρ tb (.str j)) : EvP c G ρ (tOp rEq ta tb) (.bl (decide (i = j))) := fun F σ H A Q q =>
  ha F σ H A _ fun v F1 H1 g1 r1 => hb F1 σ H1 (A.on g1) _ fun w F2 H2 g2 r2 => by
    cases r1; cases r2
    refine ⟨rfl, ?_⟩
    rw [show decide (V.str i = V.str j) = decide (i = j) by simp]
    exact q _ F2 H2 (g1.trans g2) (.bl _)
theorem p_neS {i j : Str} (ha : EvP c G ρ ta (.str i)) (hb : EvP c G ρ tb (.str j)) : EvP c G ρ (tOp rNe ta tb) (.bl (!decide (i = j))) := fun F σ H A Q q =>
  ha F σ H A _ fun v F1 H1 g1 r1 => hb F1 σ H1 (A.on g1) _ fun w F2 H2 g2 r2 => by
    cases r1; cases r2
    refine ⟨rfl, ?_⟩
    rw [show decide (V.str i = V.str j) = decide (i = j) by simp]
    exact q _ F2 H2 (g1.trans g2) (.bl _)
theorem p_eqB {i j : Bool} (ha : EvP c G ρ ta (.bl i)) (hb : EvP c G ρ tb (.bl j)) : EvP c G ρ (tOp rEq ta tb) (.bl (decide (i = j))) := fun F σ H A Q q =>
  ha F σ H A _ fun v F1 H1 g1 r1 => hb F1 σ H1 (A.on g1) _ fun w F2 H2 g2 r2 => by
    cases r1; cases r2
    refine ⟨rfl, ?_⟩
    rw [show decide (V.bl i = V.bl j) = decide (i = j) by simp]
    exact q _ F2 H2 (g1.trans g2) (.bl _)
theorem p_neB {i j : Bool} (ha : EvP c G ρ ta (.bl i)) (hb : EvP c G ρ tb (.bl j)) : EvP c G ρ (tOp rNe ta tb) (.bl (!decide (i = j))) := fun F σ H A Q q =>
  ha F σ H A _ fun v F1 H1 g1 r1 => hb F1 σ H1 (A.on g1) _ fun w F2 H2 g2 r2 => by
    cases r1; cases r2
    refine ⟨rfl, ?_⟩
    rw [show decide (V.bl i = V.bl j) = decide (i = j) by simp]
    exact q _ F2 H2 (g1.trans g2) (.bl _)
/-- text + text -/
theorem p_cat {i j : Str} (ha : EvP c G ρ ta (.str i)) (hb : EvP c G ρ tb (.str j)) (hz : i.length + j.length ≤ 100000) :
    EvP c G ρ (tOp (fun x y H Q => ∃ i j, x = .str i ∧ y = .str j ∧ i.length + j.length ≤ sizeLine ∧ Q (.str (i ++ j)) H) ta tb) (.str (i ++ j)) := fun F σ H A Q q =>
  ha F σ H A _ fun v F1 H1 g1 r1 => hb F1 σ H1 (A.on g1) _ fun w F2 H2 g2 r2 => by cases r1; cases r2; exact ⟨i, j, rfl, rfl, sz_of hz, q _ F2 H2 (g1.trans g2) (.str _)⟩
/-- is None -/
def D.isN : D → Bool
  | .non => true
  | _ => false
theorem rp_isN {F : Hp} {v : V} {d : D} (r : Rp F v d) : decide (v = V.non) = d.isN := by cases r <;> simp [D.isN]
theorem p_isN (ha : EvP c G ρ ta d) (hb : EvP c G ρ tb .non) : EvP c G ρ (tOp (fun x y H Q => y = .non ∧ Q (.bl (decide (x = .non))) H) ta tb) (.bl d.isN) := fun F σ H A Q q =>
  ha F σ H A _ fun v F1 H1 g1 r1 => hb F1 σ H1 (A.on g1) _ fun w F2 H2 g2 r2 => by
    cases r2
    refine ⟨rfl, ?_⟩
    rw [rp_isN r1]
    exact q _ F2 H2 (g1.trans g2) (.bl _)
theorem p_notN (ha : EvP c G ρ ta d) (hb : EvP c G ρ tb .non) : EvP c G ρ (tOp (fun x y H Q => y = .non ∧ Q (.bl (!decide (x = .non))) H) ta tb) (.bl (!d.isN)) := fun F σ H A Q q =>
  ha F σ H A _ fun v F1 H1 g1 r1 => hb F1 σ H1 (A.on g1) _ fun w F2 H2 g2 r2 => by
    cases r2
    refine ⟨rfl, ?_⟩
    rw [rp_isN r1]
    exact q _ F2 H2 (g1.trans g2) (.bl _)
/-! subscripts -/
theorem atI_rp {F : Hp} {vs : List V} {ds : List D} (r : RpA F vs ds) {i : Int} (h : atI ds i = some d) : ∃ v, atI vs i = some v ∧ Rp F v d := by
  unfold atI at h ⊢
  rw [r.len]
  cases e : ixN ds.length i with
  | none => rw [e] at h; cases h
  | some j =>
    rw [e] at h
    exact r.at (i := j) h
theorem p_ixL {ds : List D} {i : Int} (ha : EvS c G ρ ta (.lst ds)) (hb : EvP c G ρ tb (.int i)) (h : atI ds i = some d) : EvP c G ρ (tOp (rIxL c.K) ta tb) d := fun F σ H A Q q =>
  ha F σ H A _ fun v F1 H1 g1 r1 => hb F1 σ H1 (A.on g1) _ fun w F2 H2 g2 r2 => by
    cases r2
    obtain ⟨a, vs, rfl, h1, h2⟩ := r1.lst g1.s
    obtain ⟨v, hv, rv⟩ := atI_rp h2 h
    exact ⟨a, vs, i, v, rfl, rfl, sq_of (g2.h _ _ h1), hv, q _ F2 H2 (g1.trans g2) (rv.mono g2.f)⟩
theorem p_ixScr {ns : List Int} {i k : Int} (ha : EvS c G ρ ta (.scr ns)) (hb : EvP c G ρ tb (.int i)) (h : atI ns i = some k) : EvP c G ρ (tOp (rIxL c.K) ta tb) (.int k) := fun F σ H A Q q =>
  ha F σ H A _ fun v F1 H1 g1 r1 => hb F1 σ H1 (A.on g1) _ fun w F2 H2 g2 r2 => by
    cases r2
    obtain ⟨a, rfl, h1⟩ := r1.scr
    refine ⟨a, _, i, .int k, rfl, rfl, ex_l g2.h h1, ?_, q _ F2 H2 (g1.trans g2) (.int _)⟩
    unfold atI at h ⊢
    rw [List.length_map]
    cases e : ixN ns.length i with
    | none => rw [e] at h; cases h
    | some j =>
      rw [e] at h
      have h' : ns[j]? = some k := h
      show (ns.map V.int)[j]? = _
      rw [List.getElem?_map, h']
      rfl
theorem p_ixT {ds : List D} {i : Int} (ha : EvP c G ρ ta (.tup ds)) (hb : EvP c G ρ tb (.int i)) (h : atI ds i = some d) : EvP c G ρ (tOp (rIxT c.K) ta tb) d := fun F σ H A Q q =>
  ha F σ H A _ fun v F1 H1 g1 r1 => hb F1 σ H1 (A.on g1) _ fun w F2 H2 g2 r2 => by
    cases r2
    cases r1 with
    | tup h1 h2 =>
      obtain ⟨v, hv, rv⟩ := atI_rp h2 h
      exact ⟨_, _, i, v, rfl, rfl, st_of (g2.h _ _ (g1.s _ _ h1)), hv, q _ F2 H2 (g1.trans g2) (rv.mono g2.f)⟩
theorem p_ixS {s : Str} {i : Int} {k : Nat} (ha : EvP c G ρ ta (.str s)) (hb : EvP c G ρ tb (.int i)) (hz : s.length ≤ 100000) (h : atI s.cps.toList i = some k) : EvP c G ρ (tOp rIxS ta tb) (.str ⟨#[k]⟩) := fun F σ H A Q q =>
  ha F σ H A _ fun v F1 H1 g1 r1 => hb F1 σ H1 (A.on g1) _ fun w F2 H2 g2 r2 => by
    cases r1; cases r2
    exact ⟨s, i, k, rfl, rfl, sz_of hz, h, q _ F2 H2 (g1.trans g2) (.str _)⟩
/-! tests -/
theorem t_test {b : Bool} (h : EvP c G ρ te (.bl b)) : EvT c G ρ (tTest te) b := fun F σ H A Q q => h F σ H A _ fun v F1 H1 g1 r1 => by cases r1; exact ⟨b, rfl, q F1 H1 g1⟩
theorem t_B {b : Bool} (h : EvP c G ρ te (.bl b)) : EvT c G ρ (tB te) b := fun F σ H A Q q => h F σ H A _ fun v F1 H1 g1 r1 => by cases r1; exact ⟨b, rfl, q F1 H1 g1⟩
theorem t_yes : EvT c G ρ tYes true := fun F σ H A Q q => q F H (Go.refl A.ex)
theorem t_not {a : Bool} (h : EvT c G ρ t a) : EvT c G ρ (tNot t) (!a) := fun F σ H A Q q => h F σ H A _ fun F1 H1 g1 => q F1 H1 g1
theorem t_and {a b : Bool} (h1 : EvT c G ρ t a) (h2 : Imp (a = true) (EvT c G ρ u b)) : EvT c G ρ (tAnd t u) (a && b) := fun F σ H A Q q => h1 F σ H A _ fun F1 H1 g1 => by
  cases a with
  | true =>
    show u σ H1 Q
    exact h2 rfl F1 σ H1 (A.on g1) Q fun F2 H2 g2 => q F2 H2 (g1.trans g2)
  | false =>
    show Q false H1
    exact q F1 H1 g1
theorem t_or {a b : Bool} (h1 : EvT c G ρ t a) (h2 : Imp (a = false) (EvT c G ρ u b)) : EvT c G ρ (tOr t u) (a || b) := fun F σ H A Q q => h1 F σ H A _ fun F1 H1 g1 => by
  cases a with
  | true =>
    show Q true H1
    exact q F1 H1 g1
  | false =>
    show u σ H1 Q
    exact h2 rfl F1 σ H1 (A.on g1) Q fun F2 H2 g2 => q F2 H2 (g1.trans g2)
theorem p_andV {a b : Bool} (h1 : EvP c G ρ ta (.bl a)) (h2 : Imp (a = true) (EvP c G ρ tb (.bl b))) : EvP c G ρ (tAndV ta tb) (.bl (a && b)) := fun F σ H A Q q => h1 F σ H A _ fun v F1 H1 g1 r1 => by
  cases r1
  refine ⟨a, rfl, ?_⟩
  cases a with
  | true =>
    show tb σ H1 Q
    exact h2 rfl F1 σ H1 (A.on g1) Q fun v F2 H2 g2 r2 => q v F2 H2 (g1.trans g2) r2
  | false =>
    show Q (.bl false) H1
    exact q _ F1 H1 g1 (.bl _)
theorem p_orV {a b : Bool} (h1 : EvP c G ρ ta (.bl a)) (h2 : Imp (a = false) (EvP c G ρ tb (.bl b))) : EvP c G ρ (tOrV ta tb) (.bl (a || b)) := fun F σ H A Q q => h1 F σ H A _ fun v F1 H1 g1 r1 => by
  cases r1
  refine ⟨a, rfl, ?_⟩
  cases a with
  | true =>
    show Q (.bl true) H1
    exact q _ F1 H1 g1 (.bl _)
  | false =>
    show tb σ H1 Q
    exact h2 rfl F1 σ H1 (A.on g1) Q fun v F2 H2 g2 r2 => q v F2 H2 (g1.trans g2) r2
theorem p_notV {a : Bool} (h1 : EvP c G ρ ta (.bl a)) : EvP c G ρ (tNotV ta) (.bl (!a)) := fun F σ H A Q q => h1 F σ H A _ fun v F1 H1 g1 r1 => by cases r1; exact ⟨a, rfl, q _ F1 H1 g1 (.bl _)⟩
theorem p_if {b : Bool} (h : EvT c G ρ t b) (h1 : Imp (b = true) (EvP c G ρ ta d)) (h2 : Imp (b = false) (EvP c G ρ tb d)) : EvP c G ρ (tIf t ta tb) d := fun F σ H A Q q => h F σ H A _ fun F1 H1 g1 => by
  cases b with
  | true =>
    show ta σ H1 Q
    exact h1 rfl F1 σ H1 (A.on g1) Q fun v F2 H2 g2 r2 => q v F2 H2 (g1.trans g2) r2
  | false =>
    show tb σ H1 Q
    exact h2 rfl F1 σ H1 (A.on g1) Q fun v F2 H2 g2 r2 => q v F2 H2 (g1.trans g2) r2
theorem p_ifI {b : Bool} {i j : Int} (h : EvT c G ρ t b) (h1 : Imp (b = true) (EvP c G ρ ta (.int i))) (h2 : Imp (b = false) (EvP c G ρ tb (.int j))) : EvP c G ρ (tIf t ta tb) (.int (if b then i else j)) :=
  p_if h (fun e => by subst e; exact h1 rfl) (fun e => by subst e; exact h2 rfl)
/-- a < b < c -/
theorem p_chain {r r' : R2} {x y z : D} {a b : Bool} (h1 : EvP c G ρ (tOp r ta tb) (.bl a)) (hb : EvP c G ρ ta x) (hy : EvP c G ρ tb y) (hr : ∀ F v w H, Ex F H → Rp F v x → Rp F w y → ∀ Q : VK, (∀ u F' H', Go F H F' H' → Rp F' u (.bl a) → Q u H') → r v w H Q)
    (hc : Imp (a = true) (EvP c G ρ tc z)) (hr2 : a = true → ∀ F v w H, Ex F H → Rp F v y → Rp F w z → ∀ Q : VK, (∀ u F' H', Go F H F' H' → Rp F' u (.bl b) → Q u H') → r' v w H Q) : EvP c G ρ (tChain r r' ta tb tc) (.bl (a && b)) := fun F σ H A Q q =>
  hb F σ H A _ fun v F1 H1 g1 r1 => hy F1 σ H1 (A.on g1) _ fun w F2 H2 g2 r2 => hr F2 v w H2 g2.s (r1.mono g2.f) r2 _ fun u F3 H3 g3 r3 => by
    cases r3
    refine ⟨a, rfl, ?_⟩
    have g := (g1.trans g2).trans g3
    cases a with
    | true =>
      show tc σ H3 _
      exact hc rfl F3 σ H3 (A.on g) _ fun z' F4 H4 g4 r4 => hr2 rfl F4 w z' H4 g4.s ((r2.mono g3.f).mono g4.f) r4 Q fun u F5 H5 g5 r5 => q u F5 H5 ((g.trans g4).trans g5) r5
    | false =>
      show Q (.bl false) H3
      exact q _ F3 H3 g (.bl _)
theorem p_chainI {f f' : Int → Int → Bool} {i j k : Int} (hb : EvP c G ρ ta (.int i)) (hy : EvP c G ρ tb (.int j)) (hc : Imp (f i j = true) (EvP c G ρ tc (.int k))) :
    EvP c G ρ (tChain (rI0 fun i j => .bl (f i j)) (rI0 fun i j => .bl (f' i j)) ta tb tc) (.bl (f i j && f' j k)) := by
  refine p_chain (x := .int i) (y := .int j) (z := .int k) (p_opB hb hy) hb hy (fun F v w H e r1 r2 Q q => ?_) hc fun h F v w H e r1 r2 Q q => ?_
  · cases r1; cases r2; exact ⟨i, j, rfl, rfl, q _ F H (Go.refl e) (.bl _)⟩
  · cases r1; cases r2; exact ⟨j, k, rfl, rfl, q _ F H (Go.refl e) (.bl _)⟩
/-! arguments, displays -/
theorem a_nil : EvA c G ρ tNil [] := fun F σ H A Q q => q _ F H (Go.refl A.ex) .nil
theorem a_cons {tr : TA} {ds : List D} (h : EvP c G ρ ta d) (hr : EvA c G ρ tr ds) : EvA c G ρ (tCons ta tr) (d :: ds) := fun F σ H A Q q =>
  h F σ H A _ fun v F1 H1 g1 r1 => hr F1 σ H1 (A.on g1) _ fun vs F2 H2 g2 r2 => q _ F2 H2 (g1.trans g2) (.cons (r1.mono g2.f) r2)
theorem p_tup {tr : TA} {ds : List D} (h : EvA c G ρ tr ds) (hz : ds.length ≤ 100000) : EvP c G ρ (tTup tr) (.tup ds) := fun F σ H A Q q =>
  h F σ H A _ fun vs F1 H1 g1 r1 => ⟨sz_of (by rw [r1.len]; exact hz), fun p hp => q _ _ _ (g1.trans (Go.newF g1.s hp)) (.tup upd_same (r1.mono (Ex.new (fresh_back g1.s hp))))⟩
theorem n_lst {tr : TA} {ds : List D} (h : EvA c G ρ tr ds) (hz : ds.length ≤ 100000) : EvN c G ρ (tLst tr) (.lst ds) := fun F σ H A Q q =>
  h F σ H A _ fun vs F1 H1 g1 r1 => ⟨sz_of (by rw [r1.len]; exact hz), fun p hp => q _ F1 _ (g1.trans (Go.newH g1.s hp)) (fresh_back g1.h hp) (fresh_back g1.s hp) ⟨vs, upd_same, r1⟩ fun _ e => nomatch e⟩
theorem o_none : EvO c G ρ tNoPart none := fun F σ H A Q q => q F H (Go.refl A.ex)
end
end Dl

namespace Dl
open PySem PySem.Spec PyProof.Rows L2 Evl Xb
/-! ### what is walked -/
/-- J gives the data ds one by one while what pins tells stands -/
structure ItOk (K : PySem.W.Frag) (J : It) (ds : List D) (pins : Res) : Prop where
  goes : ∀ i F H, i < ds.length → Ex F H → (∀ x ∈ pins, Shl K F H (.ref x.1) x.2) → J.go i H
  stops : ∀ F H, Ex F H → (∀ x ∈ pins, Shl K F H (.ref x.1) x.2) → J.stop ds.length H
  yields : ∀ i F H v H', i < ds.length → Ex F H → (∀ x ∈ pins, Shl K F H (.ref x.1) x.2) → J.yld i H v H' → ∃ F' d, Go F H F' H' ∧ ds[i]? = some d ∧ Rp F' v d
/-- wi walks over the data ds; g: the objects of G that it leans on -/
def EvI (c : Ct) (G : Res) (ρ : En) (wi : TI) (ds : List D) (g : Res) : Prop := ∀ F σ H, At c G ρ F σ H → ∀ R : It → Hp → Prop,
  (∀ J F' H' pins, Go F H F' H' → (∀ x ∈ pins, Shl c.K F' c.B (.ref x.1) x.2 ∨ x ∈ g) → ItOk c.K J ds pins → R J H') → wi σ H R
section
variable {c : Ct} {G : Res} {ρ : En} {ta tb tc te tl : TE} {t u : TT} {d e : D}
theorem itok_list {K : PySem.W.Frag} {a : Addr} {ds : List D} : ItOk K (Itl K a) ds [(a, .lst ds)] := by
  have h : ∀ F H, Ex F H → (∀ x ∈ [(a, D.lst ds)], Shl K F H (.ref x.1) x.2) → ∃ vs, H a = some (.lst vs) ∧ RpA F vs ds := fun F H e k => by
    obtain ⟨a', vs, e1, h1, h2⟩ := (k (a, .lst ds) List.mem_cons_self).lst e
    cases e1
    exact ⟨vs, h1, h2⟩
  refine ⟨fun i F H hi e k => ?_, fun F H e k => ?_, fun i F H v H' hi e k y => ?_⟩
  · obtain ⟨vs, h1, h2⟩ := h F H e k
    have hi' : i < vs.length := by rw [h2.len]; exact hi
    exact ⟨vs, vs[i], sq_of h1, by simp [hi']⟩
  · obtain ⟨vs, h1, h2⟩ := h F H e k
    exact ⟨vs, sq_of h1, by rw [h2.len]; exact Nat.le_refl _⟩
  · obtain ⟨vs, h1, h2⟩ := h F H e k
    obtain ⟨e1, y⟩ := y
    subst e1
    obtain ⟨d, hd, rd⟩ := h2.get (y vs (sq_of h1))
    exact ⟨F, d, Go.refl e, hd, rd⟩
theorem i_list {ds : List D} (h : EvP c G ρ tl (.lst ds)) : EvI c G ρ (iList c.K tl) ds [] := fun F σ H A R r => h F σ H A _ fun v F1 H1 g1 r1 => by
  cases r1 with
  | @lst a vs _ h1 h2 =>
    exact ⟨_, rfl, ⟨vs, sq_of (g1.s _ _ h1)⟩, r _ F1 H1 [(_, .lst ds)] g1 (fun x hx => by
      rcases List.mem_singleton.mp hx with rfl
      exact .inl (.inl (.lst h1 h2))) itok_list⟩
theorem i_listS {ds : List D} {a : Addr} (h : EvP c G ρ tl (.ref a)) (m : (a, .lst ds) ∈ c.S) : EvI c G ρ (iList c.K tl) ds [] := fun F σ H A R r => h F σ H A _ fun v F1 H1 g1 r1 => by
  cases r1
  have A1 := A.on g1
  obtain ⟨b, vs, e1, h1, h2⟩ := (A1.read (.inl m)).lst g1.s
  cases e1
  exact ⟨_, rfl, ⟨vs, sq_of h1⟩, r _ F1 H1 [(_, .lst ds)] g1 (fun x hx => by
    rcases List.mem_singleton.mp hx with rfl
    exact .inl (A1.sh _ m)) itok_list⟩
theorem i_listG {ds : List D} {a : Addr} (h : EvP c G ρ tl (.ref a)) (m : (a, .lst ds) ∈ G) : EvI c G ρ (iList c.K tl) ds [(a, .lst ds)] := fun F σ H A R r => h F σ H A _ fun v F1 H1 g1 r1 => by
  cases r1
  have A1 := A.on g1
  obtain ⟨b, vs, e1, h1, h2⟩ := (A1.read (.inr m)).lst g1.s
  cases e1
  exact ⟨_, rfl, ⟨vs, sq_of h1⟩, r _ F1 H1 [(_, .lst ds)] g1 (fun x hx => .inr hx) itok_list⟩
/-- ranges -/
def rangeD (lo : Int) (n : Nat) : List D := (List.range n).map fun (i : Nat) => D.int (lo + (i : Int))
theorem itok_range {K : PySem.W.Frag} {lo : Int} {n : Nat} : ItOk K (Itr lo n) (rangeD lo n) [] := by
  have hl : (rangeD lo n).length = n := by simp [rangeD]
  refine ⟨fun i F H hi e k => by rw [hl] at hi; exact hi, fun F H e k => by rw [hl]; exact Nat.le_refl n, fun i F H v H' hi e k y => ?_⟩
  obtain ⟨e1, e2⟩ := y
  subst e1 e2
  rw [hl] at hi
  exact ⟨F, .int (lo + (i : Int)), Go.refl e, by simp [rangeD, hi], .int _⟩
theorem i_range1 {ta : TA} {n : Int} (h : EvA c G ρ ta [.int n]) (hn : -100000 ≤ n ∧ n ≤ 100000) : EvI c G ρ (iRng1 ta) (rangeD 0 n.toNat) [] := fun F σ H A R r => h F σ H A _ fun vs F1 H1 g1 r1 => by
  cases r1 with
  | cons h1 h2 =>
    cases h1; cases h2
    exact ⟨n, rfl, by omega, by omega, r _ F1 H1 [] g1 (fun x hx => by simp at hx) itok_range⟩
theorem i_range2 {ta : TA} {lo n : Int} (h : EvA c G ρ ta [.int lo, .int n]) (hn : -(2 ^ 61) ≤ lo ∧ lo ≤ 2 ^ 61 ∧ -(2 ^ 61) ≤ n ∧ n ≤ 2 ^ 61) : EvI c G ρ (iRng2 ta) (rangeD lo (n - lo).toNat) [] := fun F σ H A R r => h F σ H A _ fun vs F1 H1 g1 r1 => by
  cases r1 with
  | cons h1 h2 =>
    cases h1
    cases h2 with
    | cons h3 h4 =>
      cases h3; cases h4
      exact ⟨lo, n, rfl, by omega, r _ F1 H1 [] g1 (fun x hx => by simp at hx) itok_range⟩
theorem i_range1m {ta : TA} {n : Int} (h : EvA c G ρ ta [.int n]) (hn : -100000 ≤ n ∧ n ≤ 100000) : EvI c G ρ (iRng1 ta) ((List.range n.toNat).map fun (i : Nat) => D.int (i : Int)) [] := by
  have := i_range1 h hn
  unfold rangeD at this
  simpa using this
theorem i_range2m {ta : TA} {lo n : Int} (h : EvA c G ρ ta [.int lo, .int n]) (hn : -(2 ^ 61) ≤ lo ∧ lo ≤ 2 ^ 61 ∧ -(2 ^ 61) ≤ n ∧ n ≤ 2 ^ 61) : EvI c G ρ (iRng2 ta) ((List.range (n - lo).toNat).map fun (i : Nat) => D.int (lo + (i : Int))) [] := i_range2 h hn
/-- a text, sign by sign -/
def signsD (s : Str) : List D := s.cps.toList.map fun k => D.str ⟨#[k]⟩
theorem i_str {s : Str} (h : EvP c G ρ tl (.str s)) : EvI c G ρ (iStr tl) (signsD s) [] := fun F σ H A R r => h F σ H A _ fun v F1 H1 g1 r1 => by
  cases r1
  have hl : (signsD s).length = s.cps.size := by simp [signsD]
  refine ⟨s, rfl, r _ F1 H1 [] g1 (fun x hx => by simp at hx) ⟨fun i F H hi e k => by rw [hl] at hi; exact hi, fun F H e k => by rw [hl]; exact Nat.le_refl _, fun i F H v H' hi e k y => ?_⟩⟩
  obtain ⟨e1, kc, hk, rfl⟩ := y
  subst e1
  refine ⟨F, .str ⟨#[kc]⟩, Go.refl e, ?_, .str _⟩
  simp [signsD, hk]
/-- enumerate(list), enumerate(text): new pairs -/
def enumD (ds : List D) : List D := ds.zipIdx.map fun p => D.tup [.int ((p.2 : Nat) : Int), p.1]
theorem enumD_at {ds : List D} {i : Nat} {d : D} (h : ds[i]? = some d) : (enumD ds)[i]? = some (.tup [.int (i : Int), d]) := by
  unfold enumD
  rw [List.getElem?_map, List.getElem?_zipIdx, h]
  simp
theorem enumD_len {ds : List D} : (enumD ds).length = ds.length := by simp [enumD]
theorem itok_enum {K : PySem.W.Frag} {a : Addr} {ds : List D} : ItOk K (Ite K a) (enumD ds) [(a, .lst ds)] := by
  have h : ∀ F H, Ex F H → (∀ x ∈ [(a, D.lst ds)], Shl K F H (.ref x.1) x.2) → ∃ vs, H a = some (.lst vs) ∧ RpA F vs ds := fun F H e k => by
    obtain ⟨a', vs, e1, h1, h2⟩ := (k (a, .lst ds) List.mem_cons_self).lst e
    cases e1
    exact ⟨vs, h1, h2⟩
  refine ⟨fun i F H hi e k => ?_, fun F H e k => ?_, fun i F H v H' hi e k y => ?_⟩
  · obtain ⟨vs, h1, h2⟩ := h F H e k
    rw [enumD_len] at hi
    have hi' : i < vs.length := by rw [h2.len]; exact hi
    exact ⟨vs, vs[i], sq_of h1, by simp [hi']⟩
  · obtain ⟨vs, h1, h2⟩ := h F H e k
    exact ⟨vs, sq_of h1, by rw [h2.len, enumD_len]; exact Nat.le_refl _⟩
  · obtain ⟨vs, h1, h2⟩ := h F H e k
    obtain ⟨T, x, rfl, hT, rfl, hx⟩ := y
    obtain ⟨d, hd, rd⟩ := h2.get (hx vs (sq_of h1))
    refine ⟨_, _, Go.newF e hT, enumD_at hd, .tup upd_same (.cons (.int _) (.cons (rd.mono (Ex.new (fresh_back e hT))) .nil))⟩
theorem i_enum {ds : List D} {ta : TA} (h : EvA c G ρ ta [.lst ds]) : EvI c G ρ (iEnum c.K ta) (enumD ds) [] := fun F σ H A R r => h F σ H A _ fun vs F1 H1 g1 r1 => by
  cases r1 with
  | cons r1 r2 =>
    cases r2
    cases r1 with
    | @lst a vs _ h1 h2 =>
      exact ⟨_, vs, rfl, sq_of (g1.s _ _ h1), r _ F1 H1 [(_, .lst ds)] g1 (fun x hx => by
        rcases List.mem_singleton.mp hx with rfl
        exact .inl (.inl (.lst h1 h2))) itok_enum⟩
theorem i_enumS {s : Str} {ta : TA} (h : EvA c G ρ ta [.str s]) : EvI c G ρ (iEnumS ta) (enumD (signsD s)) [] := fun F σ H A R r => h F σ H A _ fun vs F1 H1 g1 r1 => by
  cases r1 with
  | cons r1 r2 =>
    cases r2
    cases r1
    have hl : (signsD s).length = s.cps.size := by simp [signsD]
    refine ⟨s, rfl, r _ F1 H1 [] g1 (fun x hx => by simp at hx) ⟨fun i F H hi e k => by rw [enumD_len, hl] at hi; exact hi, fun F H e k => by rw [enumD_len, hl]; exact Nat.le_refl _, fun i F H v H' hi e k y => ?_⟩⟩
    obtain ⟨T, kc, rfl, hT, rfl, hk⟩ := y
    refine ⟨_, _, Go.newF e hT, enumD_at (d := .str ⟨#[kc]⟩) ?_, .tup upd_same (.cons (.int _) (.cons (.str _) .nil))⟩
    simp [signsD, hk]
/-! ### a target takes a datum -/
def EvG (c : Ct) (G : Res) (ρ : En) (g : TG) (d : D) (ρ' : En) (js : List Nat) : Prop := ∀ F σ H v, At c G ρ F σ H → Rp F v d → ∀ Q : L2.St → Hp → Prop,
  (∀ σ', At c G ρ' F σ' H → σ'.length = σ.length → (∀ i : Nat, i ∉ js → σ'[i]? = σ[i]?) → Q σ' H) → g v σ H Q
def EvGs (c : Ct) (G : Res) (ρ : En) (g : TGs) (ds : List D) (ρ' : En) (js : List Nat) : Prop := ∀ F σ H vs, At c G ρ F σ H → RpA F vs ds → ∀ Q : L2.St → Hp → Prop,
  (∀ σ', At c G ρ' F σ' H → σ'.length = σ.length → (∀ i : Nat, i ∉ js → σ'[i]? = σ[i]?) → Q σ' H) → g vs σ H Q
theorem g_name {i : Nat} : EvG c G ρ (gName i) d (ρ.set i (some d)) [i] := fun F σ H v A r Q q => q _ (A.set r) (by simp) fun j hj => by
  rw [List.getElem?_set_ne]
  intro e
  exact hj (by simp [e])
theorem g_nil : EvGs c G ρ gNil [] ρ [] := fun F σ H vs A r Q q => by
  cases r
  exact ⟨rfl, q σ A rfl fun _ _ => rfl⟩
theorem g_cons {g : TG} {gs : TGs} {ds : List D} {ρ1 ρ2 : En} {js ks : List Nat} (h : EvG c G ρ g d ρ1 js) (hs : EvGs c G ρ1 gs ds ρ2 ks) : EvGs c G ρ (gCons g gs) (d :: ds) ρ2 (js ++ ks) := fun F σ H vs A r Q q => by
  cases r with
  | cons r1 r2 =>
    refine ⟨_, _, rfl, h F σ H _ A r1 _ fun σ1 A1 l1 k1 => hs F σ1 H _ A1 r2 Q fun σ2 A2 l2 k2 => q σ2 A2 (l2.trans l1) fun j hj => ?_⟩
    simp only [List.mem_append, not_or] at hj
    exact (k2 j hj.2).trans (k1 j hj.1)
theorem g_tup {gs : TGs} {ds : List D} {n : Nat} {ρ' : En} {js : List Nat} (h : EvGs c G ρ gs ds ρ' js) (hn : ds.length = n) : EvG c G ρ (gTup c.K n gs) (.tup ds) ρ' js := fun F σ H v A r Q q => by
  cases r with
  | tup h1 h2 => exact ⟨_, _, rfl, st_of (A.ex _ _ h1), by rw [h2.len, hn], h F σ H _ A h2 Q q⟩
theorem g_tupE {gs : TGs} {ds : List D} {n : Nat} {ρ' : En} {js : List Nat} (e : d = .tup ds) (h : EvGs c G ρ gs ds ρ' js) (hn : ds.length = n) : EvG c G ρ (gTup c.K n gs) d ρ' js := e ▸ g_tup h hn
/-! ### comprehensions -/
def wipeE (ρ : En) : List Nat → En
  | [] => ρ
  | v :: vs => (wipeE ρ vs).set v none
theorem slots_wipe {F : Hp} {σ : L2.St} : ∀ (vs : List Nat), Slots F ρ σ → Slots F (wipeE ρ vs) (wipe σ vs)
  | [], h => h
  | v :: vs, h => by
    obtain ⟨h1, h2⟩ := slots_wipe vs h
    refine ⟨by unfold wipeE wipe; simp [h1], fun i d q => ?_⟩
    unfold wipeE at q
    unfold wipe
    by_cases e : v = i
    · subst e
      exfalso
      have := (List.getElem?_eq_some_iff.mp q)
      obtain ⟨hl, hv⟩ := this
      rw [List.getElem_set_self] at hv
      cases hv
    · rw [List.getElem?_set_ne e] at q ⊢
      exact h2 i d q
theorem At.wipe {F H : Hp} {σ : L2.St} (vs : List Nat) (A : At c G ρ F σ H) : At c G (wipeE ρ vs) F (L2.wipe σ vs) H := ⟨A.go, slots_wipe vs A.sl, A.sh, A.ow, A.nd, A.ns⟩
theorem wipe_at {σ : L2.St} : ∀ (vs : List Nat) (i : Nat), (L2.wipe σ vs)[i]? = if i ∈ vs ∧ i < σ.length then some none else σ[i]?
  | [], i => by simp [L2.wipe]
  | v :: vs, i => by
    unfold L2.wipe
    by_cases e : v = i
    · subst e
      by_cases hl : v < σ.length
      · rw [List.getElem?_set_self (by rw [wipe_length]; exact hl), if_pos ⟨by simp, hl⟩]
      · rw [if_neg (fun z => hl z.2), List.getElem?_eq_none (by simp [wipe_length]; omega), List.getElem?_eq_none (by omega)]
    · rw [List.getElem?_set_ne e, wipe_at vs i]
      have : (i ∈ v :: vs) ↔ i ∈ vs := by simp [Ne.symm e]
      simp only [this]
theorem wipe_ext {σ σ' : L2.St} {vs js : List Nat} (hl : σ'.length = (L2.wipe σ vs).length) (hj : ∀ j ∈ js, j ∈ vs) (h : ∀ i : Nat, i ∉ js → σ'[i]? = (L2.wipe σ vs)[i]?) : L2.wipe σ' vs = L2.wipe σ vs := by
  have hl' : σ'.length = σ.length := by rw [hl, wipe_length]
  apply List.ext_getElem?
  intro i
  rw [wipe_at, hl']
  by_cases hi : i ∈ vs
  · by_cases hl2 : i < σ.length
    · rw [if_pos ⟨hi, hl2⟩, wipe_at, if_pos ⟨hi, hl2⟩]
    · rw [if_neg (fun z => hl2 z.2), wipe_at, if_neg (fun z => hl2 z.2), List.getElem?_eq_none (by omega), List.getElem?_eq_none (by omega)]
  · rw [if_neg (fun z => hi z.1), h i (fun z => hi (hj i z))]
theorem filter_take {α : Type} {p : α → Bool} {us : List α} {i : Nat} {u : α} (h : us[i]? = some u) : (us.take (i + 1)).filter p = (us.take i).filter p ++ (if p u then [u] else []) := by
  rw [List.take_add_one, h, List.filter_append]
  simp [List.filter_cons]
theorem n_lc {α : Type} {us : List α} {enc : α → D} {wi : TI} {gt : TG} {vs js : List Nat} {g : Res} {p : α → Bool} {f : α → D} {ρu : α → En} (hi : EvI c G ρ wi (us.map enc) g) (hg : ∀ x ∈ g, x ∈ G)
    (ht : ∀ u ∈ us, EvG c G (wipeE ρ vs) gt (enc u) (ρu u) js) (hj : ∀ j ∈ js, j ∈ vs) (hb : ∀ u ∈ us, EvT c G (ρu u) t (p u)) (he : ∀ u ∈ us, p u = true → EvP c G (ρu u) te (f u)) (hz : us.length ≤ 40000) :
    EvN c G ρ (tLc wi gt t te vs) (.lst ((us.filter p).map f)) := fun F σ H A Q q => hi F σ H A _ fun J F1 H1 pins g1 hp iok Dl hD => by
  have A1 := A.on g1
  have hlen : (us.map enc).length = us.length := by simp
  have DF1 : F1 Dl = none := fresh_back g1.s hD
  have DB : c.B Dl = none := fresh_back A1.go.h hD
  have hDG : ∀ x ∈ G, x.1 ≠ Dl := fun x hx e => by
    obtain ⟨h1, _, _⟩ := A1.ow x hx
    exact (h1.there (A1.ns x hx)) (by rw [e]; exact hD)
  -- the word: so far
  refine ⟨fun i m H' => m = us.length - i ∧ i ≤ us.length ∧ ∃ F', At c G (wipeE ρ vs) F' (L2.wipe σ vs) H' ∧ Go F1 H1 F' H' ∧ F' Dl = none ∧ ∃ ws, H' Dl = some (.lst ws) ∧ RpA F' ws (((us.take i).filter p).map f), ⟨us.length, by simp, Nat.zero_le _, F1, ?_, ?_, DF1, [], upd_same, .nil⟩, ?_⟩
  · exact (A1.on (Go.newH g1.s hD)).wipe vs
  · exact Go.newH g1.s hD
  · rintro i m H2 ⟨rfl, hi2, F2, A2, g2, DF2, ws, hD2, r2⟩
    have hpin : ∀ x ∈ pins, Shl c.K F2 H2 (.ref x.1) x.2 := fun x hx => by
      rcases hp x hx with k | k
      · rcases k with k | ⟨a, k1, k2⟩
        · exact .inl (k.mono g2.f)
        · exact .inr ⟨a, k1, k2.mono g2.f A2.go.h⟩
      · exact A2.read (.inr (hg x k))
    by_cases hlt : i < us.length
    · have hu : us[i]? = some us[i] := List.getElem?_eq_getElem hlt
      have hmem : us[i] ∈ us := List.getElem_mem hlt
      refine .inr ⟨iok.goes i F2 H2 (by rw [hlen]; exact hlt) g2.s hpin, fun H' => (i + 1) ≤ us.length ∧ ∃ F', At c G (wipeE ρ vs) F' (L2.wipe σ vs) H' ∧ Go F1 H1 F' H' ∧ F' Dl = none ∧ ∃ ws, H' Dl = some (.lst ws) ∧ RpA F' ws (((us.take (i + 1)).filter p).map f),
        fun H' ⟨h1, h2⟩ => ⟨us.length - (i + 1), by omega, rfl, h1, h2⟩, fun x H3 y => ?_⟩
      obtain ⟨F3, d, g3, hd, rd⟩ := iok.yields i F2 H2 x H3 (by rw [hlen]; exact hlt) g2.s hpin y
      have hd' : d = enc us[i] := by
        rw [List.getElem?_map, hu] at hd
        exact (Option.some.inj hd).symm
      subst hd'
      have A3 := A2.on g3
      have gg3 := g2.trans g3
      have nD2 : H2 Dl ≠ none := by rw [hD2]; exact fun z => nomatch z
      refine ht _ hmem F3 _ H3 x A3 rd _ fun σ4 A4 l4 k4 => ⟨wipe_ext l4 hj k4, ?_⟩
      refine hb _ hmem F3 σ4 H3 A4 _ fun F5 H5 g5 => ?_
      have A5 := A4.on g5
      have g35 := g3.trans g5
      have hD5 : H5 Dl = some (.lst ws) := g35.h _ _ hD2
      have DF5 : F5 Dl = none := g35.out nD2 DF2
      have back : ∀ {σ' : L2.St} {F' H' : Hp}, Go F2 H2 F' H' → At c G (wipeE ρ vs) F' (L2.wipe σ vs) H' := fun g' => A2.on g'
      cases hb2 : p us[i] with
      | false =>
        show (i + 1) ≤ us.length ∧ _
        refine ⟨hlt, F5, back (σ' := σ4) g35, g2.trans g35, DF5, ws, hD5, ?_⟩
        rw [filter_take hu, hb2]
        simpa using r2.mono g35.f
      | true =>
        show te σ4 H5 _
        refine he _ hmem hb2 F5 σ4 H5 A5 _ fun y' F6 H6 g6 r6 => ?_
        have g26 := g35.trans g6
        have hD6 : H6 Dl = some (.lst ws) := g26.h _ _ hD2
        have DF6 : F6 Dl = none := g26.out nD2 DF2
        have A6 := back (σ' := σ4) g26
        have hwl : ws.length ≤ i := by
          rw [r2.len, List.length_map]
          exact Nat.le_trans (List.length_filter_le _ _) (by rw [List.length_take]; omega)
        refine ⟨ws, hD6, sz_lt (by omega), hlt, F6, ?_, ?_, DF6, ws ++ [y'], upd_same, ?_⟩
        · refine ⟨⟨Ex.mut A6.go.h DB, A6.go.f, fun a o e => ?_, A6.go.n⟩, A6.sl, A6.sh, fun z hz => ?_, A6.nd, A6.ns⟩
          · rw [upd_ne (ne_of_none e DF6)]; exact A6.go.s a o e
          · obtain ⟨w1, w2, w3⟩ := A6.ow z hz
            exact ⟨w1.keep (Ex.refl _) (fun o e => by rw [upd_ne (hDG z hz)]; exact e), w2, w3⟩
        · have gg := g2.trans g26
          exact ⟨Ex.mut gg.h hD, gg.f, fun a o e => by rw [upd_ne (ne_of_none e DF6)]; exact gg.s a o e, gg.n⟩
        · rw [filter_take hu, hb2]
          simpa using (r2.mono g26.f).snoc r6
    · have e : i = us.length := by omega
      subst e
      refine .inl ⟨by have := iok.stops F2 H2 g2.s hpin; rwa [hlen] at this, ?_⟩
      rw [List.take_length] at r2
      exact q Dl F2 H2 (g1.trans g2) (fresh_back g1.h hD) DF2 ⟨ws, hD2, r2⟩ fun _ e => nomatch e
/-- without an if -/
theorem n_map {α : Type} {us : List α} {enc : α → D} {wi : TI} {gt : TG} {vs js : List Nat} {g : Res} {f : α → D} {ρu : α → En} (hi : EvI c G ρ wi (us.map enc) g) (hg : ∀ x ∈ g, x ∈ G)
    (ht : ∀ u ∈ us, EvG c G (wipeE ρ vs) gt (enc u) (ρu u) js) (hj : ∀ j ∈ js, j ∈ vs) (he : ∀ u ∈ us, EvP c G (ρu u) te (f u)) (hz : us.length ≤ 40000) : EvN c G ρ (tLc wi gt tYes te vs) (.lst (us.map f)) := by
  have := n_lc (t := tYes) (p := fun _ => true) (f := f) (ρu := ρu) hi hg ht hj (fun _ _ => t_yes) (fun u hu _ => he u hu) hz
  rwa [List.filter_eq_self.mpr (by simp)] at this
end
end Dl

namespace Dl
open PySem PySem.Spec PyProof.Rows L2 Evl Xb
/-! ### statements -/
def Sx (c : Ct) (G : Res) (ρ : En) (ts : TS) (E : Ends) : Prop := ∀ F σ H, At c G ρ F σ H → ts E σ H
def StE (c : Ct) (G : Res) (ρ : En) : L2.St → Hp → Prop := fun σ H => ∃ F, At c G ρ F σ H
abbrev Ct.wS (c : Ct) (S : Res) : Ct := { c with S := S }
section
variable {c : Ct} {G G' : Res} {ρ ρ' : En} {ta tb tc te tl : TE} {t u : TT} {d e : D} {ts tw tz : TS} {E : Ends} {i k : Nat} {p : Addr} {g : TG}
theorem Sx.last (h : Sx c G ρ (tSeq ts tNext) E) : Sx c G ρ ts E := h
theorem Sx.eq (h : Sx c G' ρ' ts E) (e1 : G = G') (e2 : ρ = ρ') : Sx c G ρ ts E := by subst e1 e2; exact h
theorem Sx.le (h : Sx c G ρ' ts E) (l : Le ρ' ρ) : Sx c G ρ ts E := fun F σ H A => h F σ H (A.le l)
theorem StE.le (l : Le ρ' ρ) {σ : L2.St} {H : Hp} (h : StE c G ρ σ H) : StE c G ρ' σ H := let ⟨F, A⟩ := h; ⟨F, A.le l⟩
theorem sx_asg (h : EvP c G ρ te d) (q : Sx c G (ρ.set i (some d)) tz E) : Sx c G ρ (tSeq (tAsg te (gName i)) tz) E := fun F σ H A =>
  h F σ H A _ fun v F1 H1 g1 r1 => q F1 _ H1 ((A.on g1).set r1)
theorem sx_asgT {js : List Nat} (h : EvP c G ρ te d) (hg : EvG c G ρ g d ρ' js) (q : Sx c G ρ' tz E) : Sx c G ρ (tSeq (tAsg te g) tz) E := fun F σ H A =>
  h F σ H A _ fun v F1 H1 g1 r1 => hg F1 σ H1 v (A.on g1) r1 _ fun σ' A' _ _ => q F1 σ' H1 A'
/-- a new object is the def's own -/
theorem At.own {F H F' H' : Hp} {σ : L2.St} (A : At c G ρ F σ H) (g1 : Go F H F' H') (hp : H p = none) (hf : F' p = none) (ho : Ow c.K F' H' p d) (hs : ∀ ns, d ≠ .scr ns) : At c ((p, d) :: G) ρ F' σ H' := by
  have A1 := A.on g1
  refine ⟨A1.go, A1.sl, A1.sh, fun x hx => ?_, ?_, fun x hx => ?_⟩
  · rcases List.mem_cons.mp hx with rfl | hx
    · exact ⟨ho, hf, fresh_back A.go.h hp⟩
    · exact A1.ow x hx
  · rw [List.map_cons, List.nodup_cons]
    refine ⟨fun hm => ?_, A.nd⟩
    obtain ⟨x, hx, e⟩ := List.mem_map.mp hm
    exact ((A.ow x hx).1.there (A.ns x hx)) (by rw [e]; exact hp)
  · rcases List.mem_cons.mp hx with rfl | hx
    · exact hs
    · exact A.ns x hx
theorem sx_own (h : EvN c G ρ te d) (q : ∀ p, Sx c ((p, d) :: G) (ρ.set i (some (.ref p))) tz E) : Sx c G ρ (tSeq (tAsg te (gName i)) tz) E := fun F σ H A =>
  h F σ H A _ fun p F1 H1 g1 hp hf ho hs => q p F1 _ H1 ((A.own g1 hp hf ho hs).set (.ref p))
/-- an own object is put into F, for good -/
theorem At.freeze {F H : Hp} {σ : L2.St} (A : At c ((p, d) :: G) ρ F σ H) : ∃ F', At c G ρ F' σ H ∧ Rp F' (.ref p) d ∧ Ex F F' := by
  obtain ⟨ho, hf, hB⟩ := A.ow _ List.mem_cons_self
  have hs := A.ns _ List.mem_cons_self
  obtain ⟨o, hH⟩ : ∃ o, H p = some o := by
    cases e : H p with
    | none => exact absurd e (ho.there hs)
    | some o => exact ⟨o, rfl⟩
  have hnd := A.nd
  rw [List.map_cons, List.nodup_cons] at hnd
  refine ⟨upd F p o, ⟨⟨A.go.h, A.go.f.trans (Ex.new hf), fun a u ha => ?_, fun a ha => ?_⟩, A.sl.mono (Ex.new hf), fun x hx => ?_, fun x hx => ?_, hnd.2, fun x hx => A.ns x (List.mem_cons_of_mem _ hx)⟩, ?_, Ex.new hf⟩
  · by_cases e : a = p
    · subst e; rw [upd_same] at ha; rw [hH]; exact ha
    · rw [upd_ne e] at ha; exact A.go.s a u ha
  · rw [upd_ne fun e => ha (by rw [e]; exact hB)]
    exact A.go.n a ha
  · rcases A.sh x hx with h | ⟨a, h1, h2⟩
    · exact .inl (h.mono (Ex.new hf))
    · exact .inr ⟨a, h1, h2.mono (Ex.new hf) (Ex.refl _)⟩
  · obtain ⟨h1, h2, h3⟩ := A.ow x (List.mem_cons_of_mem _ hx)
    refine ⟨h1.mono (Ex.new hf) (Ex.refl _), ?_, h3⟩
    rw [upd_ne fun e => hnd.1 (List.mem_map.mpr ⟨x, hx, e⟩)]
    exact h2
  · exact (ho.mono (Ex.new hf) (Ex.refl _)).rp hs fun u hu => by rw [upd_same, ← hu, hH]
theorem sx_freeze (h : ρ[i]? = some (some (.ref p))) (q : Sx c G (ρ.set i (some d)) ts E) : Sx c ((p, d) :: G) ρ ts E := fun F σ H A => by
  obtain ⟨v, h1, h2⟩ := A.sl.2 i _ h
  cases h2
  obtain ⟨F', A', r, _⟩ := A.freeze
  have := A'.set (i := i) r
  rw [show σ.set i (some (V.ref p)) = σ by
    apply List.ext_getElem?
    intro j
    by_cases e : i = j
    · subst e
      have hl := (List.getElem?_eq_some_iff.mp h1).1
      rw [List.getElem?_set_self hl, h1]
    · rw [List.getElem?_set_ne e]] at this
  exact q F' σ H this
theorem sx_if {b : Bool} (h : EvT c G ρ t b) (h1 : b = true → Sx c G ρ ts { E with nx := tz E }) (h2 : b = false → Sx c G ρ tw { E with nx := tz E }) : Sx c G ρ (tSeq (tIfS t ts tw) tz) E := fun F σ H A =>
  h F σ H A _ fun F1 H1 g1 => by
    cases b with
    | true =>
      show ts _ σ H1
      exact h1 rfl F1 σ H1 (A.on g1)
    | false =>
      show tw _ σ H1
      exact h2 rfl F1 σ H1 (A.on g1)
theorem sx_if1 {b : Bool} (h : EvT c G ρ t b) (h1 : b = true → Sx c G ρ ts E) (h2 : b = false → Sx c G ρ tw E) : Sx c G ρ (tIfS t ts tw) E := fun F σ H A =>
  h F σ H A _ fun F1 H1 g1 => by
    cases b with
    | true =>
      show ts _ σ H1
      exact h1 rfl F1 σ H1 (A.on g1)
    | false =>
      show tw _ σ H1
      exact h2 rfl F1 σ H1 (A.on g1)
theorem sx_when {b : Bool} (h : EvT c G ρ t b) (h1 : b = true → Sx c G ρ ts { E with nx := tz E }) (h2 : b = false → Sx c G ρ tz E) : Sx c G ρ (tSeq (tIfS t ts tNext) tz) E := sx_if h h1 h2
theorem sx_skip (h : EvT c G ρ t false) (h2 : Sx c G ρ tz E) : Sx c G ρ (tSeq (tIfS t ts tNext) tz) E := sx_if h (fun q => nomatch q) fun _ => h2
/-- what follows an if is told once: behind both ways it holds at ρ' -/
theorem sx_cut {M : L2.St → Hp → Prop} (h : Sx c G ρ ts { E with nx := M }) (q : ∀ σ H, M σ H → tz E σ H) : Sx c G ρ (tCut ts tz) E := fun F σ H A => ⟨M, h F σ H A, q⟩
theorem sx_cutE (G' : Res) (ρ' : En) (h : Sx c G ρ ts { E with nx := StE c G' ρ' }) (q : Sx c G' ρ' tz E) : Sx c G ρ (tCut ts tz) E := sx_cut h fun σ H ⟨F, A⟩ => q F σ H A
theorem sx_ifAsg {b : Bool} (h : EvT c G ρ t b) (h1 : b = true → EvP c G ρ te d) (h2 : b = false → Le (ρ.set i (some d)) ρ) (q : Sx c G (ρ.set i (some d)) tz E) : Sx c G ρ (tSeq (tIfS t (tAsg te (gName i)) tNext) tz) E :=
  sx_if h (fun hb F σ H A => h1 hb F σ H A _ fun v F1 H1 g1 r1 => q F1 _ H1 ((A.on g1).set r1)) fun hb => q.le (h2 hb)
theorem sx_ret (h : EvP c G ρ te d) (q : ∀ v F' H', Go c.F0 c.B F' H' → Rp F' v d → E.rt v H') : Sx c G ρ (tRet te) E := fun F σ H A =>
  h F σ H A _ fun v F1 H1 g1 r1 => q v F1 H1 (A.go.trans g1) r1
/-- .. told by another word -/
theorem sx_retE (q : ∀ v F' H', Go c.F0 c.B F' H' → Rp F' v e → E.rt v H') (h : EvP c G ρ te d) (k : d = e) : Sx c G ρ (tRet te) E := sx_ret (h.is k) q
theorem sx_retS (h : EvP c G ρ te d) (q : ∀ v F' H', Go c.F0 c.B F' H' → Rp F' v d → E.rt v H') : Sx c G ρ (tSeq (tRet te) tz) E := sx_ret (E := { E with nx := tz E }) h q
/-- a new object handed out -/
theorem sx_retN (h : EvN c G ρ te d) (q : ∀ p F' H', Go c.F0 c.B F' H' → c.B p = none → F' p = none → Ow c.K F' H' p d → E.rt (.ref p) H') : Sx c G ρ (tRet te) E := fun F σ H A =>
  h F σ H A _ fun p F1 H1 g1 hp hf ho hs => q p F1 H1 (A.go.trans g1) (fresh_back A.go.h hp) hf ho
/-- an own object handed out -/
theorem sx_retG (h : EvP c G ρ te (.ref p)) (m : (p, d) ∈ G) (q : ∀ p F' H', Go c.F0 c.B F' H' → c.B p = none → F' p = none → Ow c.K F' H' p d → E.rt (.ref p) H') : Sx c G ρ (tRet te) E := fun F σ H A =>
  h F σ H A _ fun v F1 H1 g1 r1 => by
    cases r1
    have A1 := A.on g1
    obtain ⟨h1, h2, h3⟩ := A1.ow _ m
    exact q p F1 H1 A1.go h3 h2 h1
theorem sx_retNone (q : ∀ v F' H', Go c.F0 c.B F' H' → Rp F' v .non → E.rt v H') : Sx c G ρ tRetN E := fun F σ H A => q _ F H A.go .non
theorem sx_drop (h : EvP c G ρ te d) (q : Sx c G ρ tz E) : Sx c G ρ (tSeq (tDrop te) tz) E := fun F σ H A =>
  h F σ H A _ fun v F1 H1 g1 r1 => q F1 _ H1 (A.on g1)
theorem sx_aug {f : Int → Int → Int} {a b : Int} (hx : ρ[i]? = some (some (.int a))) (h : EvP c G ρ te (.int b)) (q : Sx c G (ρ.set i (some (.int (f a b)))) tz E) : Sx c G ρ (tSeq (tAug i te (ipI f)) tz) E := fun F σ H A => by
  obtain ⟨v, h1, h2⟩ := A.sl.2 i _ hx
  cases h2
  exact ⟨_, h1, h F σ H A _ fun v F1 H1 g1 r1 => by
    cases r1
    exact ⟨a, b, rfl, rfl, q F1 _ H1 ((A.on g1).set (.int _))⟩⟩
theorem sx_next (h : ∀ F σ H, At c G ρ F σ H → E.nx σ H) : Sx c G ρ tNext E := h
theorem sx_end (hn : E.nx = StE c G' ρ') (e : G = G') (l : Le ρ' ρ) : Sx c G ρ tNext E := fun F σ H A => by
  show E.nx σ H
  rw [hn]
  subst e
  exact ⟨F, A.le l⟩
/-- the end of a branch: what follows the if -/
theorem sx_into {r : VK} {b k : L2.St → Hp → Prop} (q : Sx c G ρ ts E) : Sx c G ρ tNext { nx := ts E, rt := r, bk := b, ct := k } := q
/-! an own object is changed -/
theorem At.upd {F H : Hp} {σ : L2.St} {o : HO} (A : At c G ρ F σ H) (hk : G[k]? = some (p, d)) (ho : Ow c.K F (L2.upd H p o) p e) (hs : ∀ ns, e ≠ .scr ns) : At c (G.set k (p, e)) ρ F σ (L2.upd H p o) := by
  have hm : (p, d) ∈ G := List.mem_of_getElem? hk
  have hl := (List.getElem?_eq_some_iff.mp hk).1
  have hkk : G[k] = (p, d) := (List.getElem?_eq_some_iff.mp hk).2
  obtain ⟨h1, h2, h3⟩ := A.ow _ hm
  have keys : (G.set k (p, e)).map (·.1) = G.map (·.1) := by
    apply List.ext_getElem?
    intro j
    by_cases ej : k = j
    · subst ej
      rw [List.getElem?_map, List.getElem?_map, List.getElem?_set_self hl, hk]
      rfl
    · rw [List.getElem?_map, List.getElem?_map, List.getElem?_set_ne ej]
  have old : ∀ x ∈ G.set k (p, e), x = (p, e) ∨ (x ∈ G ∧ x.1 ≠ p) := fun x hx => by
    obtain ⟨j, hj⟩ := List.getElem?_of_mem hx
    by_cases ej : k = j
    · subst ej
      rw [List.getElem?_set_self hl] at hj
      exact .inl (Option.some.inj hj).symm
    · rw [List.getElem?_set_ne ej] at hj
      refine .inr ⟨List.mem_of_getElem? hj, fun e' => ej ?_⟩
      refine (List.getElem?_inj (l := G.map (·.1)) (by simpa using hl) A.nd).mp ?_
      rw [List.getElem?_map, List.getElem?_map, hk, hj]
      exact congrArg some e'.symm
  refine ⟨⟨Ex.mut A.go.h h3, A.go.f, fun a u ha => ?_, A.go.n⟩, A.sl, A.sh, fun x hx => ?_, by rw [keys]; exact A.nd, fun x hx => ?_⟩
  · rw [upd_ne (ne_of_none ha h2)]; exact A.go.s a u ha
  · rcases old x hx with rfl | ⟨hx', hne⟩
    · exact ⟨ho, h2, h3⟩
    · obtain ⟨k1, k2, k3⟩ := A.ow x hx'
      exact ⟨k1.keep (Ex.refl _) (fun o e => by rw [upd_ne hne]; exact e), k2, k3⟩
  · rcases old x hx with rfl | ⟨hx', _⟩
    · exact hs
    · exact A.ns x hx'
theorem at_G {F H : Hp} {σ : L2.St} {ds : List D} (A : At c G ρ F σ H) (hk : G[k]? = some (p, .lst ds)) : ∃ vs, H p = some (.lst vs) ∧ RpA F vs ds := (A.ow _ (List.mem_of_getElem? hk)).1
/-- xs.append(e) -/
theorem sx_app {ds : List D} (k : Nat) (ha : EvP c G ρ ta (.ref p)) (hk : G[k]? = some (p, .lst ds)) (h : EvP c G ρ te d) (hz : ds.length < 100000) (q : Sx c (G.set k (p, .lst (ds ++ [d]))) ρ tz E) :
    Sx c G ρ (tSeq (tDrop (tBM c.K "list" rAppend ta (tCons te tNil))) tz) E := fun F σ H A => ha F σ H A _ fun v F1 H1 g1 r1 => by
  cases r1
  have A1 := A.on g1
  obtain ⟨vs, hv, rv⟩ := at_G A1 hk
  refine ⟨.inl ⟨rfl, vs, sq_of hv⟩, h F1 σ H1 A1 _ fun w F2 H2 g2 r2 => ?_⟩
  have A2 := A1.on g2
  have hv2 := g2.h _ _ hv
  refine ⟨p, vs, w, rfl, rfl, hv2, sz_lt (by rw [rv.len]; exact hz), ?_⟩
  exact q F2 σ _ (A2.upd hk ⟨_, upd_same, (rv.mono g2.f).snoc r2⟩ fun _ e => nomatch e)
/-- xs.extend(ys) -/
theorem sx_ext {ds es : List D} (k : Nat) (ha : EvP c G ρ ta (.ref p)) (hk : G[k]? = some (p, .lst ds)) (h : EvS c G ρ te (.lst es)) (hz : ds.length + es.length ≤ 100000) (q : Sx c (G.set k (p, .lst (ds ++ es))) ρ tz E) :
    Sx c G ρ (tSeq (tDrop (tBM c.K "list" rExtend ta (tCons te tNil))) tz) E := fun F σ H A => ha F σ H A _ fun v F1 H1 g1 r1 => by
  cases r1
  have A1 := A.on g1
  obtain ⟨vs, hv, rv⟩ := at_G A1 hk
  refine ⟨.inl ⟨rfl, vs, sq_of hv⟩, h F1 σ H1 A1 _ fun w F2 H2 g2 r2 => ?_⟩
  have A2 := A1.on g2
  have hv2 := g2.h _ _ hv
  obtain ⟨b, zs, rfl, hb, rb⟩ := r2.lst g2.s
  refine ⟨p, b, vs, zs, rfl, rfl, hv2, hb, sz_of (by rw [rv.len, rb.len]; exact hz), ?_⟩
  exact q F2 σ _ (A2.upd hk ⟨_, upd_same, (rv.mono g2.f).app rb⟩ fun _ e => nomatch e)
/-! loops -/
theorem sx_for {ds : List D} {wi : TI} {g : TG} {gr : Res} {js : List Nat} (Gs : Nat → Res) (ρs : Nat → En) (ρb : Nat → D → En) (hi : EvI c G ρ wi ds gr) (hg : ∀ x ∈ gr, ∀ i, x ∈ Gs i) (h0 : G = Gs 0) (l0 : Le (ρs 0) ρ)
    (ht : ∀ i d, ds[i]? = some d → ∀ S' : Res, EvG (c.wS S') (Gs i) (ρs i) g d (ρb i d) js)
    (hs : ∀ i d, ds[i]? = some d → ∀ S' : Res, (∀ x ∈ c.S, x ∈ S') → Sx (c.wS S') (Gs i) (ρb i d) ts { E with nx := StE (c.wS S') (Gs (i + 1)) (ρs (i + 1)), ct := StE (c.wS S') (Gs (i + 1)) (ρs (i + 1)), bk := tz E })
    (q : Sx c (Gs ds.length) (ρs ds.length) tz E) : Sx c G ρ (tSeq (tFor wi g ts) tz) E := fun F σ H A => hi F σ H A _ fun J F1 H1 pins g1 hp iok => by
  have A1 := A.on g1
  have pinS : ∀ x ∈ pins, Shl c.K F1 c.B (.ref x.1) x.2 ∨ x ∈ gr := hp
  -- the pins that are no own objects
  obtain ⟨S', hS, hS'⟩ : ∃ S' : Res, (∀ x ∈ c.S, x ∈ S') ∧ (∀ x ∈ S', Shl c.K F1 c.B (.ref x.1) x.2) ∧ ∀ x ∈ pins, x ∈ S' ∨ x ∈ gr := by
    have key : ∀ l : Res, (∀ x ∈ l, x ∈ pins) → ∃ S' : Res, (∀ x ∈ c.S, x ∈ S') ∧ (∀ x ∈ S', Shl c.K F1 c.B (.ref x.1) x.2) ∧ ∀ x ∈ l, x ∈ S' ∨ x ∈ gr := by
      intro l
      induction l with
      | nil => exact fun _ => ⟨c.S, fun _ h => h, A1.sh, fun x hx => by simp at hx⟩
      | cons y l ih =>
        intro hl
        obtain ⟨S', a1, a2, a3⟩ := ih fun x hx => hl x (List.mem_cons_of_mem _ hx)
        rcases pinS y (hl y List.mem_cons_self) with k | k
        · refine ⟨y :: S', fun x hx => List.mem_cons_of_mem _ (a1 x hx), fun x hx => ?_, fun x hx => ?_⟩
          · rcases List.mem_cons.mp hx with rfl | hx
            · exact k
            · exact a2 x hx
          · rcases List.mem_cons.mp hx with rfl | hx
            · exact .inl List.mem_cons_self
            · rcases a3 x hx with z | z
              · exact .inl (List.mem_cons_of_mem _ z)
              · exact .inr z
        · refine ⟨S', a1, a2, fun x hx => ?_⟩
          rcases List.mem_cons.mp hx with rfl | hx
          · exact .inr k
          · exact a3 x hx
    exact key pins fun _ h => h
  obtain ⟨hS2, hS3⟩ := hS'
  have toS : ∀ {G ρ F σ H}, Ex F1 F → At c G ρ F σ H → At (c.wS S') G ρ F σ H := fun {G ρ F σ H} e A => ⟨A.go, A.sl, fun x hx => by
    rcases hS2 x hx with k | ⟨a, k1, k2⟩
    · exact .inl (k.mono e)
    · exact .inr ⟨a, k1, k2.mono e (Ex.refl _)⟩, A.ow, A.nd, A.ns⟩
  have ofS : ∀ {G ρ F σ H}, At (c.wS S') G ρ F σ H → At c G ρ F σ H := fun A => ⟨A.go, A.sl, fun x hx => A.sh x (hS x hx), A.ow, A.nd, A.ns⟩
  refine ⟨fun i m σ H => m = ds.length - i ∧ i ≤ ds.length ∧ StE (c.wS S') (Gs i) (ρs i) σ H, ⟨ds.length, by simp, Nat.zero_le _, F1, ?_⟩, ?_⟩
  · rw [← h0]
    exact toS (Ex.refl _) (A1.le l0)
  · rintro i m σ2 H2 ⟨rfl, hi2, F2, A2⟩
    have hpin : ∀ x ∈ pins, Shl c.K F2 H2 (.ref x.1) x.2 := fun x hx => by
      rcases hS3 x hx with k | k
      · exact A2.read (.inl k)
      · exact A2.read (.inr (hg x k i))
    by_cases hlt : i < ds.length
    · refine .inr ⟨iok.goes i F2 H2 hlt A2.ex hpin, StE (c.wS S') (Gs (i + 1)) (ρs (i + 1)), fun σ' H' k => ⟨ds.length - (i + 1), by omega, rfl, hlt, k⟩, fun x H3 y => ?_⟩
      obtain ⟨F3, d, g3, hd, rd⟩ := iok.yields i F2 H2 x H3 hlt A2.ex hpin y
      exact ht i d hd S' F3 σ2 H3 x (A2.on g3) rd _ fun σ4 A4 _ _ => hs i d hd S' hS F3 σ4 H3 A4
    · have e : i = ds.length := by omega
      subst e
      exact .inl ⟨iok.stops F2 H2 A2.ex hpin, q F2 σ2 H2 (ofS A2)⟩
/-- over items of one kind, to one name -/
theorem sx_forU {α : Type} {us : List α} {enc : α → D} {wi : TI} {j : Nat} {gr : Res} (Gs : Nat → Res) (ρs : Nat → En) (hi : EvI c G ρ wi (us.map enc) gr) (hg : ∀ x ∈ gr, ∀ i, x ∈ Gs i) (h0 : G = Gs 0) (l0 : Le (ρs 0) ρ)
    (hs : ∀ i u, us[i]? = some u → ∀ S' : Res, (∀ x ∈ c.S, x ∈ S') → Sx (c.wS S') (Gs i) ((ρs i).set j (some (enc u))) ts { E with nx := StE (c.wS S') (Gs (i + 1)) (ρs (i + 1)), ct := StE (c.wS S') (Gs (i + 1)) (ρs (i + 1)), bk := tz E })
    (q : Sx c (Gs us.length) (ρs us.length) tz E) : Sx c G ρ (tSeq (tFor wi (gName j) ts) tz) E := by
  refine sx_for Gs ρs (fun i d => (ρs i).set j (some d)) hi hg h0 l0 (fun i d _ S' => g_name) (fun i d hd S' hS => ?_) (by rw [List.length_map]; exact q)
  rw [List.getElem?_map] at hd
  obtain ⟨u, hu, rfl⟩ := Option.map_eq_some_iff.mp hd
  exact hs i u hu S' hS
/-- over a range, to one name -/
theorem sx_forR {wi : TI} {j : Nat} {lo : Int} {n : Nat} (Gs : Nat → Res) (ρs : Nat → En) (hi : EvI c G ρ wi (rangeD lo n) []) (h0 : G = Gs 0) (l0 : Le (ρs 0) ρ)
    (hs : ∀ (i : Nat), i < n → ∀ S' : Res, (∀ x ∈ c.S, x ∈ S') → Sx (c.wS S') (Gs i) ((ρs i).set j (some (.int (lo + (i : Int))))) ts { E with nx := StE (c.wS S') (Gs (i + 1)) (ρs (i + 1)), ct := StE (c.wS S') (Gs (i + 1)) (ρs (i + 1)), bk := tz E })
    (q : Sx c (Gs n) (ρs n) tz E) : Sx c G ρ (tSeq (tFor wi (gName j) ts) tz) E := by
  refine sx_forU (us := List.range n) (enc := fun (i : Nat) => D.int (lo + (i : Int))) Gs ρs hi (fun x hx => by simp at hx) h0 l0 (fun i u hu S' hS => ?_) (by rw [List.length_range]; exact q)
  obtain ⟨hl, e⟩ := List.getElem?_eq_some_iff.mp hu
  rw [List.getElem_range] at e
  subst e
  exact hs i (by simpa using hl) S' hS
theorem sx_while {ι : Type} (P : ι → Prop) (m : ι → Nat) (Gs : ι → Res) (ρs : ι → En) (b : ι → Bool) (x0 : ι) (p0 : P x0) (h0 : G = Gs x0) (l0 : Le (ρs x0) ρ) (ht : ∀ x, P x → EvT c (Gs x) (ρs x) t (b x))
    (hs : ∀ x, P x → b x = true → Sx c (Gs x) (ρs x) ts { E with nx := fun σ H => ∃ y, P y ∧ m y < m x ∧ StE c (Gs y) (ρs y) σ H, ct := fun σ H => ∃ y, P y ∧ m y < m x ∧ StE c (Gs y) (ρs y) σ H, bk := tz E })
    (q : ∀ x, P x → b x = false → Sx c (Gs x) (ρs x) tz E) : Sx c G ρ (tSeq (tWhile t ts) tz) E := fun F σ H A => by
  refine ⟨fun n σ H => ∃ x, P x ∧ m x = n ∧ StE c (Gs x) (ρs x) σ H, ⟨m x0, x0, p0, rfl, F, by rw [← h0]; exact A.le l0⟩, ?_⟩
  rintro n σ1 H1 ⟨x, px, rfl, F1, A1⟩
  refine ht x px F1 σ1 H1 A1 _ fun F2 H2 g2 => ?_
  cases hb : b x with
  | true =>
    refine ⟨_, fun σ' H' k => ?_, hs x px hb F2 σ1 H2 (A1.on g2)⟩
    obtain ⟨y, py, hm, k⟩ := k
    exact ⟨m y, hm, y, py, rfl, k⟩
  | false => exact q x px hb F2 σ1 H2 (A1.on g2)
theorem sx_endW {ι : Type} {P : ι → Prop} {m : ι → Nat} {x : ι} {Gs : ι → Res} {ρs : ι → En} (y : ι) (hn : E.nx = fun σ H => ∃ y, P y ∧ m y < m x ∧ StE c (Gs y) (ρs y) σ H) (py : P y) (hm : m y < m x) (e : G = Gs y) (l : Le (ρs y) ρ) : Sx c G ρ tNext E := fun F σ H A => by
  show E.nx σ H
  rw [hn]
  exact ⟨y, py, hm, F, by rw [← e]; exact A.le l⟩
end
end Dl

namespace Dl
open PySem PySem.Spec PyProof.Rows L2 Evl Xb
/-! ### what a def gives: data, a new object, an exception of the class at C -/
inductive Out where
  | ret (d : D) | new (d : D) | exc (C : Addr)
def Post (K : PySem.W.Frag) (F H : Hp) (o : Out) (Q : VK) (E : XK) : Prop := match o with
  | .ret d => ∀ v F' H', Go F H F' H' → Rp F' v d → Q v H'
  | .new d => ∀ p F' H', Go F H F' H' → H p = none → F' p = none → Ow K F' H' p d → Q (.ref p) H'
  | .exc C => ∀ F' H', Go F H F' H' → E (.ref C) none H'
abbrev Pre := List D → Res → Out → Prop
/-- a def that changes nothing that stands: by its arguments' data, the objects that it reads, and what it gives -/
def spD (K : PySem.W.Frag) (pre : Pre) : Sp := fun vs H Q E => ∃ F ds S o, Ex F H ∧ RpA F vs ds ∧ (∀ x ∈ S, Shl K F H (.ref x.1) x.2) ∧ pre ds S o ∧ Post K F H o Q E
def env0 (N : List Str) (ds : List D) : En := ds.map some ++ List.replicate (N.length - ds.length) none
theorem slots0 {F : Hp} {N : List Str} : ∀ {vs : List V} {ds : List D}, RpA F vs ds → ∀ n, Slots F (ds.map some ++ List.replicate n none) (vs.map some ++ List.replicate n none)
  | _, _, .nil, n => ⟨by simp, fun i d q => by
    simp only [List.map_nil, List.nil_append] at q
    rw [List.getElem?_replicate] at q
    split at q <;> cases q⟩
  | _, _, .cons (v := v) (d := d) (vs := vs) (ds := ds) h r, n => by
    obtain ⟨h1, h2⟩ := slots0 (N := N) r n
    refine ⟨by simpa using h1, fun i e q => ?_⟩
    cases i with
    | zero =>
      simp at q
      subst q
      exact ⟨v, by simp, h⟩
    | succ i => simpa using h2 i e (by simpa using q)
section
variable {P : Program} {w : World} {K : PySem.W.Frag} {mg : Str → Option Value} {base : Heap}
theorem enter {N : List Str} {vs : List V} {ds : List D} {F H : Hp} {S : Res} {t : TS} {E : Ends} (hF : Ex F H) (hv : RpA F vs ds) (hS : ∀ x ∈ S, Shl K F H (.ref x.1) x.2) (h : Sx ⟨K, H, F, S⟩ [] (env0 N ds) t E) : t E (L2.start N vs) H := by
  refine h F _ H ⟨Go.refl hF, ?_, hS, fun x hx => by simp at hx, by simp, fun x hx => by simp at hx⟩
  unfold env0 L2.start
  rw [hv.len]
  exact slots0 (N := N) hv _
/-- a def that lets nothing out -/
theorem fnOk {x qual : Str} {st : Stmt} {f : Addr} {fd : FuncData} {N ps : List Str} {k : Nat} {pre : Pre} (Fn : Fun K x qual st f fd) (S : FnScope N ps (defScope st)) (len : ∀ ds R o, pre ds R o → ds.length = ps.length)
    (body : ∀ ds R o, pre ds R o → ∀ (cdv : Value) (A : Around) (outer : List Env) (s : Shared) (H : Hp) (E : XK), Room k (A.deeper (envOfC qual (defScope st) s.heap.objs.size f cdv)) →
      ∃ t, PSs (cxOf CX0 P w K mg base N qual (defScope st) f cdv A outer s H E).nox (defBody st) t ∧ ∀ (F : Hp) (Q : VK), Post K F H o Q E → Sx ⟨K, H, F, R⟩ [] (env0 N ds) t { nx := fun _ H' => Q .non H', rt := Q }) :
    FnOk P w K mg base CX0 (k + 1) f fd ps (spD K pre) := by
  refine Fn.ok S (fun vs H Q E h => ?_) (fun cdv A outer s H vs Q E hr h => ?_)
  · obtain ⟨F, ds, R, o, hF, hv, hS, hp, post⟩ := h
    rw [hv.len]
    exact len ds R o hp
  · obtain ⟨F, ds, R, o, hF, hv, hS, hp, post⟩ := h
    obtain ⟨t, h1, h2⟩ := body ds R o hp cdv A outer s H E hr
    exact ⟨t, h1, enter hF hv hS (h2 F Q post)⟩
/-- a def that may raise -/
theorem fnOkX {x qual : Str} {st : Stmt} {f : Addr} {fd : FuncData} {N ps : List Str} {k : Nat} {pre : Pre} (Fn : Fun K x qual st f fd) (S : FnScope N ps (defScope st)) (len : ∀ ds R o, pre ds R o → ds.length = ps.length)
    (body : ∀ ds R o, pre ds R o → ∀ (cdv : Value) (A : Around) (outer : List Env) (s : Shared) (H : Hp) (E : XK), Room k (A.deeper (envOfC qual (defScope st) s.heap.objs.size f cdv)) →
      ∃ t, PSs (cxOf (L2.CX P w) P w K mg base N qual (defScope st) f cdv A outer s H E) (defBody st) t ∧ ∀ (F : Hp) (Q : VK), Post K F H o Q E → Sx ⟨K, H, F, R⟩ [] (env0 N ds) t { nx := fun _ H' => Q .non H', rt := Q }) :
    FnOk P w K mg base (L2.CX P w) (k + 1) f fd ps (spD K pre) := by
  refine Fn.okX S (fun vs H Q E h => ?_) (fun cdv A outer s H vs Q E hr h => ?_)
  · obtain ⟨F, ds, R, o, hF, hv, hS, hp, post⟩ := h
    rw [hv.len]
    exact len ds R o hp
  · obtain ⟨F, ds, R, o, hF, hv, hS, hp, post⟩ := h
    obtain ⟨t, h1, h2⟩ := body ds R o hp cdv A outer s H E hr
    exact ⟨t, h1, enter hF hv hS (h2 F Q post)⟩
end
/-! ### an argument that is read: all of it in F, or an object that stands -/
def Arg (d : D) (R : Res) (x : D) : Prop := (d = x ∧ R = []) ∨ ∃ a, d = .ref a ∧ R = [(a, x)]
theorem s_arg {c : Ct} {G : Res} {ρ : En} {te : TE} {d : D} {R : Res} {x : D} (h : EvP c G ρ te d) (l : Arg d R x) (hR : ∀ y ∈ R, y ∈ c.S) : EvS c G ρ te x := by
  rcases l with ⟨rfl, rfl⟩ | ⟨a, rfl, rfl⟩
  · exact h.toS
  · exact EvS.res h (.inl (hR _ List.mem_cons_self))
theorem i_arg {c : Ct} {G : Res} {ρ : En} {te : TE} {d : D} {R : Res} {ds : List D} (h : EvP c G ρ te d) (l : Arg d R (.lst ds)) (hR : ∀ y ∈ R, y ∈ c.S) : EvI c G ρ (iList c.K te) ds [] := by
  rcases l with ⟨rfl, rfl⟩ | ⟨a, rfl, rfl⟩
  · exact i_list h
  · exact i_listS h (hR _ List.mem_cons_self)
/-- what may be handed in as x -/
def May (c : Ct) (G : Res) (d x : D) (R : Res) : Prop := Arg d R x ∧ ∀ y ∈ R, y ∈ c.S ∨ y ∈ G
theorem May.self {c : Ct} {G : Res} {x : D} : May c G x x [] := ⟨.inl ⟨rfl, rfl⟩, fun y hy => nomatch hy⟩
theorem May.res {c : Ct} {G : Res} {a : Addr} {x : D} (m : (a, x) ∈ c.S ∨ (a, x) ∈ G) : May c G (.ref a) x [(a, x)] := ⟨.inr ⟨a, rfl, rfl⟩, fun y hy => by rcases List.mem_singleton.mp hy with rfl; exact m⟩
/-! ### calls of such defs -/
/-- te raises the class at C, with the wish E -/
def EvR (c : Ct) (G : Res) (ρ : En) (te : TE) (C : Addr) (E : L2.St → XK) : Prop := ∀ F σ H, At c G ρ F σ H → (∀ F' H', Go F H F' H' → E σ (.ref C) none H') → ∀ Q : VK, te σ H Q
section
variable {c : Ct} {G : Res} {ρ : En} {ta tb te : TE} {tr : TA} {d e : D} {ds : List D} {pre : Pre} {R : Res} {E : XK} {Ew : L2.St → XK} {C : Addr} {m : Str}
theorem c_out {F H : Hp} {σ : L2.St} {vs : List V} {o : Out} {Q : VK} {E : XK} (A : At c G ρ F σ H) (h : RpA F vs ds) (hR : ∀ x ∈ R, x ∈ c.S ∨ x ∈ G) (hp : pre ds R o) (post : Post c.K F H o Q E) : spD c.K pre vs H Q E :=
  ⟨F, ds, R, o, A.ex, h, fun x hx => A.read (hR x hx), hp, post⟩
theorem p_call (h : EvA c G ρ tr ds) (hR : ∀ x ∈ R, x ∈ c.S ∨ x ∈ G) (hp : pre ds R (.ret d)) : EvP c G ρ (tCall (spD c.K pre) [] E tr) d := fun F σ H A Q q => h F σ H A _ fun vs F1 H1 g1 r1 => by
  show spD c.K pre (vs ++ []) H1 Q E
  rw [List.append_nil]
  exact c_out (A.on g1) r1 hR hp fun v F' H' g r => q v F' H' (g1.trans g) r
theorem n_call (h : EvA c G ρ tr ds) (hR : ∀ x ∈ R, x ∈ c.S ∨ x ∈ G) (hp : pre ds R (.new d)) (hs : ∀ ns, d ≠ .scr ns) : EvN c G ρ (tCall (spD c.K pre) [] E tr) d := fun F σ H A Q q => h F σ H A _ fun vs F1 H1 g1 r1 => by
  show spD c.K pre (vs ++ []) H1 Q E
  rw [List.append_nil]
  exact c_out (A.on g1) r1 hR hp fun p F' H' g hp' hf ho => q p F' H' (g1.trans g) (fresh_back g1.h hp') hf ho hs
theorem r_call (h : EvA c G ρ tr ds) (hR : ∀ x ∈ R, x ∈ c.S ∨ x ∈ G) (hp : pre ds R (.exc C)) : EvR c G ρ (tCall (spD c.K pre) [] E tr) C (fun _ => E) := fun F σ H A hE Q => h F σ H A _ fun vs F1 H1 g1 r1 => by
  show spD c.K pre (vs ++ []) H1 Q E
  rw [List.append_nil]
  exact c_out (A.on g1) r1 hR hp fun F' H' g => hE F' H' (g1.trans g)
/-- the same in a try's body -/
theorem p_callS (h : EvA c G ρ tr ds) (hR : ∀ x ∈ R, x ∈ c.S ∨ x ∈ G) (hp : pre ds R (.ret d)) : EvP c G ρ (tCallS (spD c.K pre) Ew tr) d := fun F σ H A Q q => h F σ H A _ fun vs F1 H1 g1 r1 =>
  c_out (A.on g1) r1 hR hp fun v F' H' g r => q v F' H' (g1.trans g) r
theorem n_callS (h : EvA c G ρ tr ds) (hR : ∀ x ∈ R, x ∈ c.S ∨ x ∈ G) (hp : pre ds R (.new d)) (hs : ∀ ns, d ≠ .scr ns) : EvN c G ρ (tCallS (spD c.K pre) Ew tr) d := fun F σ H A Q q => h F σ H A _ fun vs F1 H1 g1 r1 =>
  c_out (A.on g1) r1 hR hp fun p F' H' g hp' hf ho => q p F' H' (g1.trans g) (fresh_back g1.h hp') hf ho hs
theorem r_callS (h : EvA c G ρ tr ds) (hR : ∀ x ∈ R, x ∈ c.S ∨ x ∈ G) (hp : pre ds R (.exc C)) : EvR c G ρ (tCallS (spD c.K pre) Ew tr) C Ew := fun F σ H A hE Q => h F σ H A _ fun vs F1 H1 g1 r1 =>
  c_out (A.on g1) r1 hR hp fun F' H' g => hE F' H' (g1.trans g)
end
/-! ### built-ins -/
section
variable {c : Ct} {G : Res} {ρ : En} {ta tb te : TE} {tl th : TO} {tr : TA} {d e : D} {ds es : List D}
theorem o_some {i : Int} (h : EvP c G ρ te (.int i)) : EvO c G ρ (tPart te) (some i) := fun F σ H A Q q => h F σ H A _ fun v F1 H1 g1 r1 => by
  cases r1
  exact ⟨i, rfl, q F1 H1 g1⟩
/-- len -/
abbrev rLenQ (K : PySem.W.Frag) : List V → Hp → VK → Prop := fun xs H Q => ∃ p ys, xs = [.ref p] ∧ (SqL K H p ys ∨ SqT K H p ys) ∧ Q (.int ys.length) H
abbrev rListQ (K : PySem.W.Frag) : List V → Hp → VK → Prop := fun xs H Q => ∃ p ys, xs = [.ref p] ∧ (SqL K H p ys ∨ SqT K H p ys) ∧ ∀ l, H l = none → Q (.ref l) (upd H l (.lst ys))
abbrev rJoinQ (K : PySem.W.Frag) : V → List V → Hp → VK → Prop := fun x xs H Q => ∃ a p, ∃ ys : List Str, x = .str a ∧ xs = [.ref p] ∧ (SqL K H p (ys.map V.str) ∨ SqT K H p (ys.map V.str)) ∧ (ys.map (·.length)).sum + ys.length * a.length ≤ 16777216 ∧ Q (.str (Txt.join a ys)) H
theorem p_lenL (h : EvS c G ρ ta (.lst ds)) : EvP c G ρ (tCB (fun xs H Q => ∃ p ys, xs = [.ref p] ∧ (SqL c.K H p ys ∨ SqT c.K H p ys) ∧ Q (.int ys.length) H) (tCons ta tNil)) (.int (ds.length : Int)) := fun F σ H A Q q => h F σ H A _ fun v F1 H1 g1 r1 => by
  obtain ⟨a, vs, rfl, h1, h2⟩ := r1.lst g1.s
  refine ⟨a, vs, rfl, .inl (sq_of h1), ?_⟩
  rw [h2.len]
  exact q _ F1 H1 g1 (.int _)
theorem p_lenScr {ns : List Int} (h : EvS c G ρ ta (.scr ns)) : EvP c G ρ (tCB (fun xs H Q => ∃ p ys, xs = [.ref p] ∧ (SqL c.K H p ys ∨ SqT c.K H p ys) ∧ Q (.int ys.length) H) (tCons ta tNil)) (.int (ns.length : Int)) := fun F σ H A Q q => h F σ H A _ fun v F1 H1 g1 r1 => by
  obtain ⟨a, rfl, h1⟩ := r1.scr
  refine ⟨a, _, rfl, .inl h1, ?_⟩
  rw [List.length_map]
  exact q _ F1 H1 g1 (.int _)
theorem p_lenT (h : EvP c G ρ ta (.tup ds)) : EvP c G ρ (tCB (fun xs H Q => ∃ p ys, xs = [.ref p] ∧ (SqL c.K H p ys ∨ SqT c.K H p ys) ∧ Q (.int ys.length) H) (tCons ta tNil)) (.int (ds.length : Int)) := fun F σ H A Q q => h F σ H A _ fun v F1 H1 g1 r1 => by
  cases r1 with
  | tup h1 h2 =>
    refine ⟨_, _, rfl, .inr (st_of (g1.s _ _ h1)), ?_⟩
    rw [h2.len]
    exact q _ F1 H1 g1 (.int _)
theorem p_lenS {s : Str} (h : EvP c G ρ ta (.str s)) (hz : s.length ≤ 100000) : EvP c G ρ (tCB (fun xs H Q => ∃ z, xs = [.str z] ∧ z.length ≤ sizeLine ∧ Q (.int z.length) H) (tCons ta tNil)) (.int (s.length : Int)) := fun F σ H A Q q => h F σ H A _ fun v F1 H1 g1 r1 => by
  cases r1
  exact ⟨s, rfl, sz_of hz, q _ F1 H1 g1 (.int _)⟩
theorem p_abs {i : Int} (h : EvP c G ρ ta (.int i)) : EvP c G ρ (tCB (fun xs H Q => ∃ i, xs = [.int i] ∧ Q (.int (if i < 0 then -i else i)) H) (tCons ta tNil)) (.int (if i < 0 then -i else i)) := fun F σ H A Q q => h F σ H A _ fun v F1 H1 g1 r1 => by
  cases r1
  exact ⟨i, rfl, q _ F1 H1 g1 (.int _)⟩
theorem p_max2 {i j : Int} (h : EvP c G ρ ta (.int i)) (h2 : EvP c G ρ tb (.int j)) : EvP c G ρ (tCB (fun xs H Q => ∃ i j, xs = [.int i, .int j] ∧ Q (.int (if j > i then j else i)) H) (tCons ta (tCons tb tNil))) (.int (if j > i then j else i)) := fun F σ H A Q q => h F σ H A _ fun v F1 H1 g1 r1 => h2 F1 σ H1 (A.on g1) _ fun w F2 H2 g2 r2 => by
  cases r1; cases r2
  exact ⟨i, j, rfl, q _ F2 H2 (g1.trans g2) (.int _)⟩
theorem p_min2 {i j : Int} (h : EvP c G ρ ta (.int i)) (h2 : EvP c G ρ tb (.int j)) : EvP c G ρ (tCB (fun xs H Q => ∃ i j, xs = [.int i, .int j] ∧ Q (.int (if j < i then j else i)) H) (tCons ta (tCons tb tNil))) (.int (if j < i then j else i)) := fun F σ H A Q q => h F σ H A _ fun v F1 H1 g1 r1 => h2 F1 σ H1 (A.on g1) _ fun w F2 H2 g2 r2 => by
  cases r1; cases r2
  exact ⟨i, j, rfl, q _ F2 H2 (g1.trans g2) (.int _)⟩
theorem p_sum {ns : List Int} (h : EvS c G ρ ta (.lst (ns.map D.int))) : EvP c G ρ (tCB (rSum c.K) (tCons ta tNil)) (.int ns.sum) := fun F σ H A Q q => h F σ H A _ fun v F1 H1 g1 r1 => by
  obtain ⟨a, vs, rfl, h1, h2⟩ := r1.lst g1.s
  rw [h2.ints] at h1
  exact ⟨a, ns, rfl, sq_of h1, q _ F1 H1 g1 (.int _)⟩
theorem p_min {ns : List Int} {m : Int} (h : EvS c G ρ ta (.lst (ns.map D.int))) (hm : m ∈ ns) (hl : ∀ y ∈ ns, m ≤ y) : EvP c G ρ (tCB (rMin c.K) (tCons ta tNil)) (.int m) := fun F σ H A Q q => h F σ H A _ fun v F1 H1 g1 r1 => by
  obtain ⟨a, vs, rfl, h1, h2⟩ := r1.lst g1.s
  rw [h2.ints] at h1
  refine ⟨a, ns, rfl, sq_of h1, List.length_pos_of_mem hm, fun k hk hk2 => ?_⟩
  have e : k = m := Int.le_antisymm (hk2 m hm) (hl k hk)
  subst e
  exact q _ F1 H1 g1 (.int _)
theorem p_max {ns : List Int} {m : Int} (h : EvS c G ρ ta (.lst (ns.map D.int))) (hm : m ∈ ns) (hl : ∀ y ∈ ns, y ≤ m) : EvP c G ρ (tCB (rMax c.K) (tCons ta tNil)) (.int m) := fun F σ H A Q q => h F σ H A _ fun v F1 H1 g1 r1 => by
  obtain ⟨a, vs, rfl, h1, h2⟩ := r1.lst g1.s
  rw [h2.ints] at h1
  refine ⟨a, ns, rfl, sq_of h1, List.length_pos_of_mem hm, fun k hk hk2 => ?_⟩
  have e : k = m := Int.le_antisymm (hl k hk) (hk2 m hm)
  subst e
  exact q _ F1 H1 g1 (.int _)
theorem p_all {bs : List Bool} (h : EvS c G ρ ta (.lst (bs.map D.bl))) : EvP c G ρ (tCB (rAll c.K) (tCons ta tNil)) (.bl (bs.all id)) := fun F σ H A Q q => h F σ H A _ fun v F1 H1 g1 r1 => by
  obtain ⟨a, vs, rfl, h1, h2⟩ := r1.lst g1.s
  rw [h2.bls] at h1
  exact ⟨a, bs, rfl, sq_of h1, q _ F1 H1 g1 (.bl _)⟩
/-- the same of a comprehension's list -/
theorem map_int {α : Type} (us : List α) (g : α → Int) : (us.map fun u => D.int (g u)) = (us.map g).map D.int := by rw [List.map_map]; rfl
theorem p_sumF {α : Type} {us : List α} {g : α → Int} (h : EvS c G ρ ta (.lst (us.map fun u => D.int (g u)))) : EvP c G ρ (tCB (rSum c.K) (tCons ta tNil)) (.int (us.map g).sum) := p_sum (by rw [map_int] at h; exact h)
theorem p_minF {α : Type} {us : List α} {g : α → Int} {m : Int} (h : EvS c G ρ ta (.lst (us.map fun u => D.int (g u)))) (hm : m ∈ us.map g) (hl : ∀ y ∈ us.map g, m ≤ y) : EvP c G ρ (tCB (rMin c.K) (tCons ta tNil)) (.int m) := p_min (by rw [map_int] at h; exact h) hm hl
theorem p_maxF {α : Type} {us : List α} {g : α → Int} {m : Int} (h : EvS c G ρ ta (.lst (us.map fun u => D.int (g u)))) (hm : m ∈ us.map g) (hl : ∀ y ∈ us.map g, y ≤ m) : EvP c G ρ (tCB (rMax c.K) (tCons ta tNil)) (.int m) := p_max (by rw [map_int] at h; exact h) hm hl
theorem p_allF {α : Type} {us : List α} {g : α → Bool} (h : EvS c G ρ ta (.lst (us.map fun u => D.bl (g u)))) : EvP c G ρ (tCB (rAll c.K) (tCons ta tNil)) (.bl ((us.map g).all id)) := p_all (by
  have e : (us.map fun u => D.bl (g u)) = (us.map g).map D.bl := by rw [List.map_map]; rfl
  rw [e] at h; exact h)
theorem n_list (h : EvS c G ρ ta (.lst ds)) : EvN c G ρ (tCB (fun xs H Q => ∃ p ys, xs = [.ref p] ∧ (SqL c.K H p ys ∨ SqT c.K H p ys) ∧ ∀ l, H l = none → Q (.ref l) (upd H l (.lst ys))) (tCons ta tNil)) (.lst ds) := fun F σ H A Q q => h F σ H A _ fun v F1 H1 g1 r1 => by
  obtain ⟨a, vs, rfl, h1, h2⟩ := r1.lst g1.s
  exact ⟨a, vs, rfl, .inl (sq_of h1), fun p hp => q p F1 _ (g1.trans (Go.newH g1.s hp)) (fresh_back g1.h hp) (fresh_back g1.s hp) ⟨vs, upd_same, h2⟩ fun _ e => nomatch e⟩
theorem n_cat (h : EvS c G ρ ta (.lst ds)) (h2 : EvS c G ρ tb (.lst es)) (hz : ds.length + es.length ≤ 100000) : EvN c G ρ (tOp rCat ta tb) (.lst (ds ++ es)) := fun F σ H A Q q => h F σ H A _ fun v F1 H1 g1 r1 => h2 F1 σ H1 (A.on g1) _ fun w F2 H2 g2 r2 => by
  obtain ⟨a, vs, rfl, k1, k2⟩ := r1.lst g1.s
  obtain ⟨b, ws, rfl, l1, l2⟩ := r2.lst g2.s
  have g := g1.trans g2
  refine ⟨a, b, vs, ws, rfl, rfl, g2.h _ _ k1, l1, sz_of (by rw [k2.len, l2.len]; exact hz), fun p hp => ?_⟩
  exact q p F2 _ (g.trans (Go.newH g.s hp)) (fresh_back g.h hp) (fresh_back g.s hp) ⟨_, upd_same, (k2.mono g2.f).app l2⟩ fun _ e => nomatch e
def cutD (xs : List D) (lo hi : Option Int) : List D := (xs.drop (HT.sIx xs.length 0 lo)).take (HT.sIx xs.length xs.length hi - HT.sIx xs.length 0 lo)
theorem rp_cut {F : Hp} {vs : List V} (r : RpA F vs ds) (lo hi : Option Int) : RpA F (cutV vs lo hi) (cutD ds lo hi) := by
  unfold cutV cutD
  rw [r.len]
  exact (r.drop _).take _
theorem n_slL {lo hi : Option Int} (h : EvS c G ρ te (.lst ds)) (h1 : EvO c G ρ tl lo) (h2 : EvO c G ρ th hi) : EvN c G ρ (tSl (rSlL c.K) te tl th) (.lst (cutD ds lo hi)) := fun F σ H A Q q => h F σ H A _ fun v F1 H1 g1 r1 => h1 F1 σ H1 (A.on g1) _ fun F2 H2 g2 => h2 F2 σ H2 ((A.on g1).on g2) _ fun F3 H3 g3 => by
  obtain ⟨a, vs, rfl, k1, k2⟩ := r1.lst g1.s
  have g := (g1.trans g2).trans g3
  exact ⟨a, vs, rfl, sq_of (g3.h _ _ (g2.h _ _ k1)), fun p hp => q p F3 _ (g.trans (Go.newH g.s hp)) (fresh_back g.h hp) (fresh_back g.s hp) ⟨_, upd_same, rp_cut ((k2.mono g2.f).mono g3.f) lo hi⟩ fun _ e => nomatch e⟩
theorem p_slT {lo hi : Option Int} (h : EvP c G ρ te (.tup ds)) (h1 : EvO c G ρ tl lo) (h2 : EvO c G ρ th hi) (hw : ¬ (HT.sIx ds.length 0 lo = 0 ∧ HT.sIx ds.length ds.length hi = ds.length)) : EvP c G ρ (tSl (rSlT c.K) te tl th) (.tup (cutD ds lo hi)) := fun F σ H A Q q => h F σ H A _ fun v F1 H1 g1 r1 => h1 F1 σ H1 (A.on g1) _ fun F2 H2 g2 => h2 F2 σ H2 ((A.on g1).on g2) _ fun F3 H3 g3 => by
  cases r1 with
  | @tup a vs _ k1 k2 =>
    have g := (g1.trans g2).trans g3
    refine ⟨a, vs, rfl, st_of (g3.h _ _ (g2.h _ _ (g1.s _ _ k1))), by rw [k2.len]; exact hw, fun p hp => ?_⟩
    exact q _ _ _ (g.trans (Go.newF g.s hp)) (.tup upd_same ((rp_cut ((k2.mono g2.f).mono g3.f) lo hi).mono (Ex.new (fresh_back g.s hp))))
theorem p_slS {s : Str} {lo hi : Option Int} (h : EvP c G ρ te (.str s)) (h1 : EvO c G ρ tl lo) (h2 : EvO c G ρ th hi) (hz : s.length ≤ 100000) : EvP c G ρ (tSl rSlS te tl th) (.str (cutS s lo hi)) := fun F σ H A Q q => h F σ H A _ fun v F1 H1 g1 r1 => h1 F1 σ H1 (A.on g1) _ fun F2 H2 g2 => h2 F2 σ H2 ((A.on g1).on g2) _ fun F3 H3 g3 => by
  cases r1
  exact ⟨s, rfl, sz_of hz, q _ F3 H3 ((g1.trans g2).trans g3) (.str _)⟩
/-- isinstance of a built-in class -/
def D.tyN : D → String
  | .non => "NoneType"
  | .bl _ => "bool"
  | .int _ => "int"
  | .str _ => "str"
  | .lst _ => "list"
  | .tup _ => "tuple"
  | .dK _ _ => "dict"
  | .dT _ _ => "dict"
  | _ => "?"
theorem tyX_of {K : PySem.W.Frag} {F H : Hp} {v : V} (ex : Ex F H) (r : Shl K F H v d) (hd : d.tyN ≠ "?" ∧ d.tyN ≠ "dict") : TyX K H v (.type d.tyN) := by
  cases d with
  | non =>
    rcases r with r | ⟨a, _, k⟩
    · cases r; exact .base .non
    · exact k.elim
  | bl b =>
    rcases r with r | ⟨a, _, k⟩
    · cases r; exact .base (.bl _)
    · exact k.elim
  | int b =>
    rcases r with r | ⟨a, _, k⟩
    · cases r; exact .base (.int _)
    · exact k.elim
  | str b =>
    rcases r with r | ⟨a, _, k⟩
    · cases r; exact .base (.str _)
    · exact k.elim
  | lst ds =>
    obtain ⟨a, vs, rfl, h1, h2⟩ := r.lst ex
    exact .base (.lst h1)
  | tup ds =>
    obtain ⟨a, vs, rfl, h1, h2⟩ := r.tup
    exact .base (.tup (ex _ _ h1))
  | dK ks ds => exact absurd rfl hd.2
  | dT ks ds => exact absurd rfl hd.2
  | ty n => exact absurd rfl hd.1
  | ref a => exact absurd rfl hd.1
  | ins C ks ds => exact absurd rfl hd.1
  | scr ns => exact absurd rfl hd.1
theorem kit_NoneType_bool : kitB "NoneType" "bool" = some false := by decide +kernel
theorem kit_NoneType_int : kitB "NoneType" "int" = some false := by decide +kernel
theorem kit_NoneType_str : kitB "NoneType" "str" = some false := by decide +kernel
theorem kit_NoneType_list : kitB "NoneType" "list" = some false := by decide +kernel
theorem kit_NoneType_tuple : kitB "NoneType" "tuple" = some false := by decide +kernel
theorem kit_bool_bool : kitB "bool" "bool" = some true := by decide +kernel
theorem kit_bool_int : kitB "bool" "int" = some true := by decide +kernel
theorem kit_bool_str : kitB "bool" "str" = some false := by decide +kernel
theorem kit_bool_list : kitB "bool" "list" = some false := by decide +kernel
theorem kit_bool_tuple : kitB "bool" "tuple" = some false := by decide +kernel
theorem kit_int_bool : kitB "int" "bool" = some false := by decide +kernel
theorem kit_int_int : kitB "int" "int" = some true := by decide +kernel
theorem kit_int_str : kitB "int" "str" = some false := by decide +kernel
theorem kit_int_list : kitB "int" "list" = some false := by decide +kernel
theorem kit_int_tuple : kitB "int" "tuple" = some false := by decide +kernel
theorem kit_str_bool : kitB "str" "bool" = some false := by decide +kernel
theorem kit_str_int : kitB "str" "int" = some false := by decide +kernel
theorem kit_str_str : kitB "str" "str" = some true := by decide +kernel
theorem kit_str_list : kitB "str" "list" = some false := by decide +kernel
theorem kit_str_tuple : kitB "str" "tuple" = some false := by decide +kernel
theorem kit_list_bool : kitB "list" "bool" = some false := by decide +kernel
theorem kit_list_int : kitB "list" "int" = some false := by decide +kernel
theorem kit_list_str : kitB "list" "str" = some false := by decide +kernel
theorem kit_list_list : kitB "list" "list" = some true := by decide +kernel
theorem kit_list_tuple : kitB "list" "tuple" = some false := by decide +kernel
theorem kit_tuple_bool : kitB "tuple" "bool" = some false := by decide +kernel
theorem kit_tuple_int : kitB "tuple" "int" = some false := by decide +kernel
theorem kit_tuple_str : kitB "tuple" "str" = some false := by decide +kernel
theorem kit_tuple_list : kitB "tuple" "list" = some false := by decide +kernel
theorem kit_tuple_tuple : kitB "tuple" "tuple" = some true := by decide +kernel
theorem p_isi {n t : String} {b : Bool} (h : EvS c G ρ ta d) (hc : EvP c G ρ tb (.ty n)) (ht : d.tyN = t) (hd : t ≠ "?" ∧ t ≠ "dict") (hk : kitB t n = some b) : EvP c G ρ (tCB (rIsi c.K) (tCons ta (tCons tb tNil))) (.bl b) := fun F σ H A Q q => h F σ H A _ fun v F1 H1 g1 r1 => hc F1 σ H1 (A.on g1) _ fun w F2 H2 g2 r2 => by
  cases r2
  subst ht
  have r' : Shl c.K F2 H2 v d := by
    rcases r1 with k | ⟨a, e, k⟩
    · exact .inl (k.mono g2.f)
    · exact .inr ⟨a, e, k.mono g2.f g2.h⟩
  exact ⟨v, .ty n, _, _, b, rfl, .ty n, tyX_of g2.s r' hd, kit_ty hk, q _ F2 H2 (g1.trans g2) (.bl _)⟩
/-- a method of a text -/
theorem p_m1 {r : V → List V → Hp → VK → Prop} {s : Str} {x z : D} (h : EvP c G ρ ta (.str s)) (hx : EvP c G ρ tb x) (hr : ∀ F H v, Ex F H → Rp F v x → ∀ Q : VK, (∀ u F' H', Go F H F' H' → Rp F' u z → Q u H') → r (.str s) [v] H Q) : EvP c G ρ (tM1 r ta tb) z := fun F σ H A Q q => h F σ H A _ fun v F1 H1 g1 r1 => by
  cases r1
  exact ⟨⟨s, rfl⟩, hx F1 σ H1 (A.on g1) _ fun w F2 H2 g2 r2 => hr F2 H2 w g2.s r2 Q fun u F' H' g k => q u F' H' ((g1.trans g2).trans g) k⟩
theorem p_count {s x : Str} (h : EvP c G ρ ta (.str s)) (hx : EvP c G ρ tb (.str x)) : EvP c G ρ (tM1 (fun x xs H Q => ∃ a b, x = .str a ∧ xs = [.str b] ∧ Q (.int (Txt.count a b)) H) ta tb) (.int (Txt.count s x)) :=
  p_m1 h hx fun F H v e r Q q => by cases r; exact ⟨s, x, rfl, rfl, q _ F H (Go.refl e) (.int _)⟩
theorem p_find {s x : Str} (h : EvP c G ρ ta (.str s)) (hx : EvP c G ρ tb (.str x)) : EvP c G ρ (tM1 (fun x xs H Q => ∃ a b, x = .str a ∧ xs = [.str b] ∧ Q (.int (Txt.find a b)) H) ta tb) (.int (Txt.find s x)) :=
  p_m1 h hx fun F H v e r Q q => by cases r; exact ⟨s, x, rfl, rfl, q _ F H (Go.refl e) (.int _)⟩
theorem p_join {s : Str} {ys : List Str} (h : EvP c G ρ ta (.str s)) (hx : EvS c G ρ tb (.lst (ys.map D.str))) (hz : (ys.map (·.length)).sum + ys.length * s.length ≤ 100000) :
    EvP c G ρ (tM1 (fun x xs H Q => ∃ a p, ∃ ys : List Str, x = .str a ∧ xs = [.ref p] ∧ (SqL c.K H p (ys.map V.str) ∨ SqT c.K H p (ys.map V.str)) ∧ (ys.map (·.length)).sum + ys.length * a.length ≤ 16777216 ∧ Q (.str (Txt.join a ys)) H) ta tb) (.str (Txt.join s ys)) := fun F σ H A Q q => h F σ H A _ fun v F1 H1 g1 r1 => by
  cases r1
  refine ⟨⟨s, rfl⟩, hx F1 σ H1 (A.on g1) _ fun w F2 H2 g2 r2 => ?_⟩
  obtain ⟨a, vs, rfl, h1, h2⟩ := r2.lst g2.s
  rw [h2.strs] at h1
  exact ⟨s, a, ys, rfl, rfl, .inl (sq_of h1), Nat.le_trans hz (by decide), q _ F2 H2 (g1.trans g2) (.str _)⟩
theorem p_joinF {α : Type} {us : List α} {g : α → Str} {s : Str} (h : EvP c G ρ ta (.str s)) (hx : EvS c G ρ tb (.lst (us.map fun u => D.str (g u)))) (hz : ((us.map g).map (·.length)).sum + (us.map g).length * s.length ≤ 100000) :
    EvP c G ρ (tM1 (fun x xs H Q => ∃ a p, ∃ ys : List Str, x = .str a ∧ xs = [.ref p] ∧ (SqL c.K H p (ys.map V.str) ∨ SqT c.K H p (ys.map V.str)) ∧ (ys.map (·.length)).sum + ys.length * a.length ≤ 16777216 ∧ Q (.str (Txt.join a ys)) H) ta tb) (.str (Txt.join s (us.map g))) := p_join h (by
  have e : (us.map fun u => D.str (g u)) = (us.map g).map D.str := by rw [List.map_map]; rfl
  rw [e] at hx; exact hx) hz
/-! the order of tuples of ints -/
theorem p_ltT {ns ms : List Int} (h : EvP c G ρ ta (.tup (ns.map D.int))) (h2 : EvP c G ρ tb (.tup (ms.map D.int))) : EvP c G ρ (tOp (rLtT c.K) ta tb) (.bl (HT.lexLt ns ms)) := fun F σ H A Q q => h F σ H A _ fun v F1 H1 g1 r1 => h2 F1 σ H1 (A.on g1) _ fun w F2 H2 g2 r2 => by
  cases r1 with
  | @tup a vs _ k1 k2 =>
    cases r2 with
    | @tup b ws _ l1 l2 =>
      rw [k2.ints] at k1
      rw [l2.ints] at l1
      exact ⟨a, b, ns, ms, rfl, rfl, st_of (g2.h _ _ (g1.s _ _ k1)), st_of (g2.s _ _ l1), q _ F2 H2 (g1.trans g2) (.bl _)⟩
/-! x in a list or tuple of flat things -/
def D.fl : D → Bool
  | .non => true
  | .bl _ => true
  | .int _ => true
  | .str _ => true
  | _ => false
def D.v : D → V
  | .non => .non
  | .bl b => .bl b
  | .int i => .int i
  | .str s => .str s
  | _ => .non
theorem rp_fl {F : Hp} {v : V} (r : Rp F v d) (h : d.fl = true) : v = d.v ∧ flatV v = true := by cases r <;> first | exact ⟨rfl, rfl⟩ | cases h
theorem rpA_fl {F : Hp} : ∀ {vs : List V} {ds : List D}, RpA F vs ds → ds.all D.fl = true → vs = ds.map D.v ∧ vs.all flatV = true
  | _, _, .nil, _ => ⟨rfl, rfl⟩
  | _, _, .cons h r, k => by
    rw [List.all_cons, Bool.and_eq_true] at k
    obtain ⟨h1, h2⟩ := rp_fl h k.1
    obtain ⟨h3, h4⟩ := rpA_fl r k.2
    refine ⟨by rw [List.map_cons, ← h1, ← h3], by rw [List.all_cons, h2, h4]; rfl⟩
theorem p_inL {neg : Bool} (h : EvP c G ρ ta d) (h2 : EvS c G ρ tb (.lst ds)) (hd : d.fl = true) (hs : ds.all D.fl = true) : EvP c G ρ (tOp (rIn c.K neg) ta tb) (.bl (if neg then !inV d.v (ds.map D.v) else inV d.v (ds.map D.v))) := fun F σ H A Q q => h F σ H A _ fun v F1 H1 g1 r1 => h2 F1 σ H1 (A.on g1) _ fun w F2 H2 g2 r2 => by
  obtain ⟨a, vs, rfl, k1, k2⟩ := r2.lst g2.s
  obtain ⟨e1, e2⟩ := rp_fl r1 hd
  obtain ⟨e3, e4⟩ := rpA_fl k2 hs
  refine ⟨a, vs, rfl, .inl (sq_of k1), e2, e4, ?_⟩
  rw [e1, e3]
  exact q _ F2 H2 (g1.trans g2) (.bl _)
theorem p_inT {neg : Bool} (h : EvP c G ρ ta d) (h2 : EvP c G ρ tb (.tup ds)) (hd : d.fl = true) (hs : ds.all D.fl = true) : EvP c G ρ (tOp (rIn c.K neg) ta tb) (.bl (if neg then !inV d.v (ds.map D.v) else inV d.v (ds.map D.v))) := fun F σ H A Q q => h F σ H A _ fun v F1 H1 g1 r1 => h2 F1 σ H1 (A.on g1) _ fun w F2 H2 g2 r2 => by
  cases r2 with
  | @tup a vs _ k1 k2 =>
    obtain ⟨e1, e2⟩ := rp_fl r1 hd
    obtain ⟨e3, e4⟩ := rpA_fl k2 hs
    refine ⟨a, vs, rfl, .inr (st_of (g2.s _ _ k1)), e2, e4, ?_⟩
    rw [e1, e3]
    exact q _ F2 H2 (g1.trans g2) (.bl _)
theorem at_0 {a : D} {l : List D} : atI (a :: l) 0 = some a := by
  unfold atI ixN
  rw [if_pos (by decide), if_pos (by simp only [List.length_cons]; omega)]
  rfl
theorem at_1 {a b : D} {l : List D} : atI (a :: b :: l) 1 = some b := by
  unfold atI ixN
  rw [if_pos (by decide), if_pos (by simp only [List.length_cons]; omega)]
  rfl
theorem at_2 {a b x : D} {l : List D} : atI (a :: b :: x :: l) 2 = some x := by
  unfold atI ixN
  rw [if_pos (by decide), if_pos (by simp only [List.length_cons]; omega)]
  rfl
theorem at_3 {a b x y : D} {l : List D} : atI (a :: b :: x :: y :: l) 3 = some y := by
  unfold atI ixN
  rw [if_pos (by decide), if_pos (by simp only [List.length_cons]; omega)]
  rfl
theorem at_m {α : Type} {f : α → D} {xs : List α} {i : Int} {y : α} (h0 : 0 ≤ i) (h : xs[i.toNat]? = some y) : atI (xs.map f) i = some (f y) := by
  have hl := (List.getElem?_eq_some_iff.mp h).1
  unfold atI ixN
  rw [if_pos h0, List.length_map, if_pos (by omega)]
  show (xs.map f)[i.toNat]? = _
  rw [List.getElem?_map, h]
  rfl
theorem at_n {α : Type} {xs : List α} {i : Int} {y : α} (h0 : 0 ≤ i) (h : xs[i.toNat]? = some y) : atI xs i = some y := by
  have hl := (List.getElem?_eq_some_iff.mp h).1
  unfold atI ixN
  rw [if_pos h0, if_pos (by omega)]
  exact h
/-! ### equal data -/
mutual
def D.py : D → PyData
  | .bl b => .bool b
  | .int i => .int i
  | .str s => .str s
  | .lst ds => .list (D.pyA ds)
  | .tup ds => .tuple (D.pyA ds)
  | _ => .none
def D.pyA : List D → List PyData
  | [] => []
  | d :: ds => D.py d :: D.pyA ds
end
/-- plain data, of a depth of n at most -/
def Pl : Nat → D → Prop
  | _, .non => True
  | _, .bl _ => True
  | _, .int _ => True
  | _, .str s => PyData.strOk s = true
  | n + 1, .lst ds => ∀ d ∈ ds, Pl n d
  | n + 1, .tup ds => ∀ d ∈ ds, Pl n d
  | _, _ => False
theorem pl_dp {K : PySem.W.Frag} {F H : Hp} (ex : Ex F H) : ∀ (n : Nat) {v : V} {d : D}, Pl n d → Rp F v d → Dp K H v d.py
  | _, _, .non, _, r => by cases r; exact .non
  | _, _, .bl b, _, r => by cases r; exact .bl _
  | _, _, .int b, _, r => by cases r; exact .int _
  | _, _, .str b, _, r => by cases r; exact .str _
  | n + 1, _, .lst ds, h, r => by
    have key : ∀ (ds : List D) (vs : List V), RpA F vs ds → (∀ d ∈ ds, Pl n d) → DpAll K H vs (D.pyA ds) := by
      intro ds
      induction ds with
      | nil => intro vs r _; cases r; exact .nil
      | cons d ds ih =>
        intro vs r h
        cases r with
        | cons a b => exact .cons (pl_dp ex n (h _ List.mem_cons_self) a) (ih _ b fun d hd => h d (List.mem_cons_of_mem _ hd))
    cases r with
    | lst h1 h2 => exact .lst (sq_of (ex _ _ h1)) (key _ _ h2 h)
  | n + 1, _, .tup ds, h, r => by
    have key : ∀ (ds : List D) (vs : List V), RpA F vs ds → (∀ d ∈ ds, Pl n d) → DpAll K H vs (D.pyA ds) := by
      intro ds
      induction ds with
      | nil => intro vs r _; cases r; exact .nil
      | cons d ds ih =>
        intro vs r h
        cases r with
        | cons a b => exact .cons (pl_dp ex n (h _ List.mem_cons_self) a) (ih _ b fun d hd => h d (List.mem_cons_of_mem _ hd))
    cases r with
    | tup h1 h2 => exact .tup (st_of (ex _ _ h1)) (key _ _ h2 h)
  | 0, _, .lst ds, h, r => by simp [Pl] at h
  | 0, _, .tup ds, h, r => by simp [Pl] at h
  | n, _, .ty _, h, r => by cases n <;> simp [Pl] at h
  | n, _, .ref _, h, r => by cases n <;> simp [Pl] at h
  | n, _, .dK _ _, h, r => by cases n <;> simp [Pl] at h
  | n, _, .dT _ _, h, r => by cases n <;> simp [Pl] at h
  | n, _, .ins _ _ _, h, r => by cases n <;> simp [Pl] at h
  | n, _, .scr _, h, r => by cases n <;> simp [Pl] at h
/-- .. read -/
theorem pl_shl {K : PySem.W.Frag} {F H : Hp} (ex : Ex F H) {n : Nat} {v : V} {d : D} (h : Pl n d) (r : Shl K F H v d) : Dp K H v d.py := by
  rcases r with r | ⟨a, rfl, k⟩
  · exact pl_dp ex n h r
  · cases d with
    | lst ds =>
      obtain ⟨vs, h1, h2⟩ := k
      cases n with
      | zero => simp [Pl] at h
      | succ n =>
        have key : ∀ (ds : List D) (vs : List V), RpA F vs ds → (∀ d ∈ ds, Pl n d) → DpAll K H vs (D.pyA ds) := by
          intro ds
          induction ds with
          | nil => intro vs r _; cases r; exact .nil
          | cons d ds ih =>
            intro vs r h
            cases r with
            | cons a b => exact .cons (pl_dp ex n (h _ List.mem_cons_self) a) (ih _ b fun d hd => h d (List.mem_cons_of_mem _ hd))
        exact .lst (sq_of h1) (key _ _ h2 h)
    | dK _ _ => cases n <;> simp [Pl] at h
    | dT _ _ => cases n <;> simp [Pl] at h
    | ins _ _ _ => cases n <;> simp [Pl] at h
    | scr _ => cases n <;> simp [Pl] at h
    | non => exact k.elim
    | bl b => exact k.elim
    | int b => exact k.elim
    | str b => exact k.elim
    | ty b => exact k.elim
    | ref b => exact k.elim
    | tup b => exact k.elim
theorem pl_lay : ∀ (n : Nat) {d : D}, Pl n d → d.py.canLay0 = true ∧ d.py.depth ≤ n := by
  intro n
  induction n with
  | zero =>
    intro d h
    cases d <;> simp [Pl] at h <;> simp [D.py, PyData.canLay0, PyData.depth, h]
  | succ n ih =>
    have key : ∀ ds : List D, (∀ d ∈ ds, Pl n d) → PyData.canLayAll0 (D.pyA ds) = true ∧ PyData.depthAll (D.pyA ds) ≤ n := by
      intro ds
      induction ds with
      | nil => intro _; simp [D.pyA, PyData.canLayAll0, PyData.depthAll]
      | cons d ds ih2 =>
        intro h
        obtain ⟨a1, a2⟩ := ih (h d List.mem_cons_self)
        obtain ⟨b1, b2⟩ := ih2 fun e he => h e (List.mem_cons_of_mem _ he)
        simp only [D.pyA, PyData.canLayAll0, PyData.depthAll, a1, b1, Bool.and_self, true_and]
        omega
    intro d h
    cases d with
    | lst ds =>
      obtain ⟨a1, a2⟩ := key ds h
      simp only [D.py, PyData.canLay0, PyData.depth, a1, true_and]
      omega
    | tup ds =>
      obtain ⟨a1, a2⟩ := key ds h
      simp only [D.py, PyData.canLay0, PyData.depth, a1, true_and]
      omega
    | _ => simp [Pl] at h <;> simp [D.py, PyData.canLay0, PyData.depth, h]
theorem pl_shaped {n : Nat} (hn : n ≤ 64) (h : Pl n d) : SeqAt.shaped d.py = true := by
  obtain ⟨a, b⟩ := pl_lay n h
  unfold SeqAt.shaped
  rw [Bool.and_eq_true]
  exact ⟨a, decide_eq_true (Nat.le_trans b hn)⟩
/-- equal, by Python's own word -/
def D.eq (d e : D) : Bool := PyData.eqv d.py e.py
theorem D.eq_self {n : Nat} (hn : n ≤ 64) (h : Pl n d) : D.eq d d = true := SeqAt.eqv_refl d.py (SeqAt.canLay_of_shaped (pl_shaped hn h))
theorem p_eqD {n m : Nat} (h : EvS c G ρ ta d) (h2 : EvS c G ρ tb e) (hd : Pl n d) (he : Pl m e) (hn : n ≤ 64) (hm : m ≤ 64) : EvP c G ρ (tOp (rEqD c.K) ta tb) (.bl (D.eq d e)) := fun F σ H A Q q => h F σ H A _ fun v F1 H1 g1 r1 => h2 F1 σ H1 (A.on g1) _ fun w F2 H2 g2 r2 => by
  have r' : Shl c.K F2 H2 v d := by
    rcases r1 with k | ⟨a, e, k⟩
    · exact .inl (k.mono g2.f)
    · exact .inr ⟨a, e, k.mono g2.f g2.h⟩
  exact ⟨_, _, pl_shl g2.s hd r', pl_shl g2.s he r2, pl_shaped hn hd, pl_shaped hm he, q _ F2 H2 (g1.trans g2) (.bl _)⟩
theorem p_neD {n m : Nat} (h : EvS c G ρ ta d) (h2 : EvS c G ρ tb e) (hd : Pl n d) (he : Pl m e) (hn : n ≤ 64) (hm : m ≤ 64) : EvP c G ρ (tOp (rNeD c.K) ta tb) (.bl (!D.eq d e)) := fun F σ H A Q q => h F σ H A _ fun v F1 H1 g1 r1 => h2 F1 σ H1 (A.on g1) _ fun w F2 H2 g2 r2 => by
  have r' : Shl c.K F2 H2 v d := by
    rcases r1 with k | ⟨a, e, k⟩
    · exact .inl (k.mono g2.f)
    · exact .inr ⟨a, e, k.mono g2.f g2.h⟩
  exact ⟨_, _, pl_shl g2.s hd r', pl_shl g2.s he r2, pl_shaped hn hd, pl_shaped hm he, q _ F2 H2 (g1.trans g2) (.bl _)⟩
/-- the same data twice -/
theorem p_eqSame {n : Nat} (h : EvS c G ρ ta d) (h2 : EvS c G ρ tb d) (hd : Pl n d) (hn : n ≤ 64) : EvP c G ρ (tOp (rEqD c.K) ta tb) (.bl true) := (p_eqD h h2 hd hd hn hn).is (by rw [D.eq_self hn hd])
theorem p_neSame {n : Nat} (h : EvS c G ρ ta d) (h2 : EvS c G ρ tb d) (hd : Pl n d) (hn : n ≤ 64) : EvP c G ρ (tOp (rNeD c.K) ta tb) (.bl false) := (p_neD h h2 hd hd hn hn).is (by rw [D.eq_self hn hd]; rfl)
end
end Dl

/-! ### dicts whose keys are tuples: dict(d), d == e; no rule of the layer tells these -/
namespace Xg
open PySem PySem.Spec PyProof.Rows L2
section
variable {prog : Program} {w : World} {K : Type} [DecidableEq K] {knd : HeapKind prog w K} {A : Around} {E : Value → Shared → Prop} {s : Shared}
theorem dict_copy {src : Addr} {xs : List (K × Addr × Value)} {Q : Value → Shared → Prop} (hu : knd.room A.in1.in1) (hsys : (src == sysModules) = false) (hd : s.heap.DictOfH knd src xs)
    (hty : ∀ x ∈ xs, Shared.TypeIs { s with heap := s.heap.push { cls := .type "dict", data := .dict #[] } } (.ref x.2.1) "tuple") (hn : (xs.map fun x => knd.hash x.1).Nodup) (hz : xs.length ≤ sizeLine)
    (st : ∀ x ∈ xs, knd.is (s.heap.push { cls := .type "dict", data := .dict #[] }) x.1 x.2.1)
    (q : ∀ g : Heap, g.DictOfH knd s.heap.objs.size xs → (∀ b u, s.heap.get? b = some u → g.get? b = some u) → Q (.ref s.heap.objs.size) { s with heap := g }) :
    wpAny (model prog w) A (call (.type "dict") [.ref src]) Q E s := by
  have hlt : src < s.heap.objs.size := by
    obtain ⟨_, _, _, e, _⟩ := hd
    exact Heap.lt_size e
  have hnew : (s.heap.push { cls := .type "dict", data := .dict #[] }).DictOfH knd s.heap.objs.size [] := Heap.DictOfH.new s.heap
  have hsrc : (s.heap.push { cls := .type "dict", data := .dict #[] }).DictOfH knd src xs := by
    obtain ⟨o, es, ep, e1, e2, e3, e4, _, e6⟩ := hd
    exact ⟨o, es, ep, Heap.get?_push_of_some _ e1, e2, e3, e4, st, e6⟩
  refine callType_codes (Q₁ := fun x t => x = .ref s.heap.objs.size ∧ t = { s with heap := s.heap.push { cls := .type "dict", data := .dict #[] } })
    F.kt_called_dict (F.kt_typeCall_dict_1 _) F.entry_dict_init
    (kt_code_dict_new _ ⟨rfl, rfl⟩) ?_
  rintro x t ⟨rfl, rfl⟩
  refine ⟨hnew.typeIs, F.args_dict_init_2 _ _, ?_⟩
  unfold Builtin.«dict.__init__» Builtin.Dict.selfAndRest
  refine wpAny_bind (wpAny_bind ?_)
  refine wpAny_notOrdered_dict hnew.typeIs ?_
  refine wpAny_pure ?_
  refine updateFrom_dictH (A := A.in1) .none hu (Nat.ne_of_gt hlt) hsys hnew hsrc (.inr ⟨hty, hn⟩) (by simpa using hz) fun g hg _ sb => ?_
  rw [storedAllH_nil_of_nodup xs hd.nodup] at hg
  exact ⟨rfl, q g hg fun b u e => (sb.2 b (Nat.ne_of_lt (Heap.lt_size e))).trans (Heap.get?_push_of_some _ e)⟩
/-- each pair of the one has its like in the other -/
def Alike (A : Around) (s : Shared) (xs ys : List (K × Addr × Value)) : Prop := ∀ (i : Nat) (k : K) (p : Addr) (v : Value), xs[i]? = some (k, p, v) → ∃ (j : Nat) (p' : Addr) (v' : Value), ys[j]? = some (k, p', v') ∧ SeqAt.EqAt A s v v' true
theorem same_pairs {nm : String} {a b : Addr} {xs ys : List (K × Addr × Value)} {Q : Bool → Shared → Prop} (hu : knd.room A) (ha : (a == sysModules) = false) (hb : (b == sysModules) = false) (da : s.heap.DictOfH knd a xs) (db : s.heap.DictOfH knd b ys)
    (hl : xs.length = ys.length) (al : Alike A s xs ys) (q : Q true s) : wpAny (model prog w) A (Builtin.Dict.samePairs nm a b) Q E s := by
  obtain ⟨oa, ea, na, ga, _, ta, la, ia, ua⟩ := da
  obtain ⟨ob, eb, nb, gb, _, tb, lb, ib, ub⟩ := db
  have za : ea.size = xs.length := size_of_entries la
  have zb : eb.size = ys.length := size_of_entries lb
  unfold Builtin.Dict.samePairs Builtin.Dict.showsAll
  rw [ha, hb]
  simp only [Bool.false_eq_true, if_false]
  refine wpAny_bind (wpAny_pure ?_)
  refine wpAny_bind (wpAny_pure ?_)
  refine wpAny_bind (wpAny_dictEntries ga ta ?_)
  refine wpAny_bind (wpAny_dictEntries gb tb ?_)
  have zz : (ea.size != eb.size) = false := by rw [za, zb, hl]; simp
  rw [zz]
  simp only [Bool.false_eq_true, if_false]
  refine wpAny_bind (wpAny_dictEpoch ga ta ?_)
  refine wpAny_bind ?_
  rw [Std.Legacy.Range.forIn_eq_forIn_range']
  simp only [Std.Legacy.Range.size, Nat.sub_zero, Nat.add_sub_cancel, Nat.div_one]
  refine wpAny_forIn_list _ (fun rest r t => t = s ∧ r = (none, ()) ∧ ∃ i, i ≤ ea.size ∧ rest = List.range' i (ea.size - i)) _ ?_ ?_ _ _ ⟨rfl, rfl, 0, Nat.zero_le _, by simp⟩
  · rintro x rest r t ⟨rfl, rfl, i, hi, hr⟩
    have lt : i < ea.size := by
      rcases Nat.lt_or_ge i ea.size with z | z
      · exact z
      · rw [Nat.sub_eq_zero_of_le z] at hr
        cases hr
    obtain ⟨rfl, hr'⟩ : x = i ∧ rest = List.range' (i + 1) (ea.size - (i + 1)) := by
      rw [show ea.size - i = (ea.size - (i + 1)) + 1 by omega, List.range'_succ] at hr
      injection hr with h1 h2
      exact ⟨h1, h2⟩
    refine wpAny_bind (wpAny_dictEntries ga ta ?_)
    obtain ⟨⟨k, p, v⟩, hx⟩ : ∃ y, xs[x]? = some y := ⟨xs[x]'(by omega), List.getElem?_eq_getElem _⟩
    rw [entry_at la x, hx]
    obtain ⟨j, p', v', hy, he⟩ := al x k p v hx
    have jk : ∀ (j' : Nat) (z : Addr × Value), ys[j']? = some (k, z) → j' = j ∧ z = (p', v') := fun j' z hz => by
      have e : j' = j := idxH_unique ub hz hy
      subst e
      rw [hy] at hz
      exact ⟨rfl, ((Prod.mk.inj (Option.some.inj hz)).2).symm⟩
    refine wpAny_bind (wpAny_holding (wpAny_bind ?_))
    refine wpAny_dictFind_heap hu (ia _ (List.mem_of_getElem? hx)) gb tb lb ib ub (fun no => absurd hy (no j _)) fun j' z hz => ?_
    obtain ⟨rfl, rfl⟩ := jk j' z hz
    refine wpAny_bind (wpAny_dictEntries gb tb ?_)
    rw [entry_at lb j', hy]
    refine wpAny_holding (he prog w _ _ ?_)
    simp only [Bool.not_true, Bool.false_eq_true, if_false]
    refine wpAny_bind (wpAny_dictEpoch ga ta ?_)
    simp only [bne_self_eq_false, Bool.false_eq_true, if_false]
    exact wpAny_pure ⟨rfl, rfl, x + 1, lt, hr'⟩
  · rintro r t ⟨rfl, rfl, i, hi, hr⟩
    exact wpAny_pure q
theorem dicts_ne {a b : Addr} {xs ys : List (K × Addr × Value)} {Q : Value → Shared → Prop} (hu : knd.room A.in1) (hr : A.units < cLine) (ha : (a == sysModules) = false) (hb : (b == sysModules) = false) (da : s.heap.DictOfH knd a xs) (db : s.heap.DictOfH knd b ys)
    (hl : xs.length = ys.length) (al : Alike A.in1 s xs ys) (q : Q (.bool false) s) : wpAny (model prog w) A (compareOp .NotEq (.ref a) (.ref b)) Q E s := by
  refine wpAny_richCompare_same_room (op := .NotEq) da.typeIs db.typeIs F.slot_dict_ne ?_ hr
  refine wpAny_call_entry F.slot_dict_ne da.typeIs F.entry_dict_ne ?_ (F.args_dict_ne_2 _ _)
  show wpAny _ _ (do
    let (x, y) ← Builtin.Dict.dictSlotArgs "__ne__" ⟨[.ref a, .ref b], []⟩
    _) _ _ s
  unfold Builtin.Dict.dictSlotArgs
  refine wpAny_bind (wpAny_bind ?_)
  refine wpAny_notOrdered_dict da.typeIs ?_
  refine wpAny_pure ?_
  refine wpAny_bind (wpAny_isInstance (T := "dict") db.typeIs F.sub_dict_dict ?_)
  simp only [Bool.not_true, Bool.false_eq_true, if_false]
  refine wpAny_bind (wpAny_pure ?_)
  refine wpAny_bind (wpAny_pure ?_)
  refine wpAny_bind (same_pairs hu ha hb da db hl al ?_)
  exact wpAny_pure ⟨_, rfl, (fun x => nomatch x), by simpa using q⟩
end
/-! over the layer -/
def hashI (k : List Int) : Int := reduceHash (Builtin.Tuple.tupleHashOf (k.map hashInt))
theorem hash_keys {P : Program} {w : World} (k : List Int) : tupleKeyHash (mixKind P w) (k.map Sum.inl) = hashI k := by
  unfold tupleKeyHash hashI
  rw [List.map_map]
  rfl
def rCopyT : List V → Hp → VK → Prop := fun xs H Q => ∃ (a : Addr) (kvs : List (List Key × V)) (ks : List (List Int)), xs = [.ref a] ∧ Rd H a (.dT kvs) ∧ kvs.map (·.1) = ks.map (·.map Sum.inl) ∧ (ks.map hashI).Nodup ∧ ∀ p, H p = none → Q (.ref p) (upd H p (.dT kvs))
theorem kt_keys {H : Hp} : ∀ {kvs : List (List Key × V)} {xs : List (List Key × Addr × Value)}, KT H kvs xs → xs.map (·.1) = kvs.map (·.1)
  | _, _, .nil => rfl
  | _, _, .cons h t => by rw [List.map_cons, List.map_cons, kt_keys t, h.1]
theorem kt_mem {H : Hp} {kvs : List (List Key × V)} {xs : List (List Key × Addr × Value)} (r : KT H kvs xs) : ∀ x ∈ xs, H x.2.1 = some (.tup (x.1.map kV)) := by
  induction r with
  | nil => intro x hx; cases hx
  | cons h t ih =>
    intro x hx
    rcases List.mem_cons.mp hx with rfl | hx
    · rw [← h.1]; exact h.2.1
    · exact ih x hx
theorem call_dictT {X : Cx} (hu : X.A.units + 64 < cLine) : CallR X (.type "dict") rCopyT := by
  intro pins s σ H vs us Q I r h
  obtain ⟨a, kvs, ks, rfl, hd, hk, hn, q⟩ := h
  obtain ⟨u, rfl, ru⟩ := r.one
  cases ru
  obtain ⟨z, lo, xs, rel, dd⟩ := dt_rd I.hok hd
  have lx : xs.length = kvs.length := by have := congrArg List.length (kt_keys rel); simpa using this
  have old : ∀ b o, s.heap.get? b = some o → (s.heap.push { cls := .type "dict", data := .dict #[] }).get? b = some o := fun b o e => Heap.get?_push_of_some _ e
  refine dict_copy (knd := tupleKind (mixKind X.prog X.w)) ?_ lo dd (fun x hx => ?_) ?_ (by omega) (fun x hx => ?_) fun g hg hold => ?_
  · show X.A.in1.in1.units < cLine
    have : X.A.in1.in1.units ≤ X.A.units + 64 := by simp [Around.in1, Around.units] <;> omega
    omega
  · obtain ⟨_, its, rv, o, h1, h2, _⟩ := (show ObjOk X.prog X.w H s.heap x.2.1 (.tup (x.1.map kV)) from I.hok _ _ (kt_mem rel x hx))
    exact ⟨o, old _ _ h1, h2⟩
  · have e : xs.map (fun x => (tupleKind (mixKind X.prog X.w)).hash x.1) = ks.map hashI := by
      have e1 : xs.map (fun x => (tupleKind (mixKind X.prog X.w)).hash x.1) = (xs.map (·.1)).map fun k => tupleKeyHash (mixKind X.prog X.w) k := by rw [List.map_map]; rfl
      rw [e1, kt_keys rel, hk, List.map_map]
      exact List.map_congr_left fun k _ => hash_keys k
    rw [e]
    exact hn
  · have J : HOk X.prog X.w H (s.heap.push { cls := .type "dict", data := .dict #[] }) := I.hok.kept old
    exact key_of J (kt_mem rel x hx)
  · have hm : (s.heap.objs.size == sysModules) = false := beq_eq_false_iff_ne.mpr (Nat.ne_of_gt I.big)
    have fr : H s.heap.objs.size = none := I.hok.fresh (Nat.le_refl _)
    obtain ⟨o, es, ep, e1, e2, e3, e4, _, e6⟩ := hg
    refine ⟨.ref s.heap.objs.size, upd H s.heap.objs.size (.dT kvs), I.laid (t' := s.toks) hold (Nat.le_refl _) ⟨z, hm, xs, rel.keeps fun b ys e => ?_, o, es, ep, e1, e2, e3, e4, e6⟩, rfl, q _ fr⟩
    rw [upd_ne (ne_of_none e fr)]
    exact e
def rNeT : R2 := fun x y H Q => ∃ (a b : Addr) (kvs : List (List Key × V)), x = .ref a ∧ y = .ref b ∧ H a = some (.dT kvs) ∧ H b = some (.dT kvs) ∧ (∀ p ∈ kvs, flatB p.2 = true) ∧ Q (.bl false) H
theorem kt_at {H : Hp} : ∀ {kvs : List (List Key × V)} {xs : List (List Key × Addr × Value)} {i : Nat} {x : List Key × Addr × Value}, KT H kvs xs → xs[i]? = some x → ∃ v, kvs[i]? = some (x.1, v) ∧ RelV v x.2.2
  | _, _, _, _, .nil, e => by simp at e
  | _, _, 0, _, .cons (a := p) h t, e => by
    simp at e
    subst e
    exact ⟨p.2, by simp [← h.1], h.2.2⟩
  | _, _, i + 1, _, .cons h t, e => by
    obtain ⟨v, h1, h2⟩ := kt_at (i := i) t (by simpa using e)
    exact ⟨v, by simpa using h1, h2⟩
theorem kt_ta {H : Hp} : ∀ {kvs : List (List Key × V)} {xs : List (List Key × Addr × Value)} {i : Nat} {y : List Key × V}, KT H kvs xs → kvs[i]? = some y → ∃ x, xs[i]? = some x ∧ x.1 = y.1 ∧ RelV y.2 x.2.2
  | _, _, _, _, .nil, e => by simp at e
  | _, _, 0, _, .cons (b := q) h t, e => by
    simp at e
    subst e
    exact ⟨q, by simp, h.1.symm, h.2.2⟩
  | _, _, i + 1, _, .cons h t, e => by
    obtain ⟨v, h1, h2⟩ := kt_ta (i := i) t (by simpa using e)
    exact ⟨v, by simpa using h1, h2⟩
theorem op_neT {X : Cx} (hu : X.A.units + 64 < cLine) : OpR X (compareOp .NotEq) rNeT := by
  intro pins s σ H x y v u Q I rx ry h
  obtain ⟨a, b, kvs, rfl, rfl, ea, eb, fl, q⟩ := h
  cases rx
  cases ry
  obtain ⟨_, ya, xa, ra, da⟩ := dt_of I.hok ea
  obtain ⟨_, yb, xb, rb, db⟩ := dt_of I.hok eb
  refine dicts_ne (knd := tupleKind (mixKind X.prog X.w)) ?_ (by omega) ya yb da db ?_ ?_ ⟨.bl false, H, I, rfl, q⟩
  · show X.A.in1.units < cLine
    have : X.A.in1.units ≤ X.A.units + 64 := by simp [Around.in1, Around.units] <;> omega
    omega
  · have e1 := congrArg List.length (kt_keys ra)
    have e2 := congrArg List.length (kt_keys rb)
    simp at e1 e2
    omega
  · intro i k p v hx
    obtain ⟨z, hz, rz⟩ := kt_at ra hx
    obtain ⟨⟨k', p', v'⟩, hy, ek, rv⟩ := kt_ta rb hz
    cases ek
    exact ⟨i, p', v', hy, eqAt_same rz rv (fl _ (List.mem_of_getElem? hz))⟩
end Xg

namespace Dl
open PySem PySem.Spec PyProof.Rows L2 Evl Xb
/-! ### tables of pairs -/
section
variable {α β : Type} [DecidableEq α]
def valA (l : List (α × β)) (k : α) : Option β := (l.find? fun e => decide (e.1 = k)).map (·.2)
def putA (l : List (α × β)) (k : α) (v : β) : List (α × β) := if (valA l k).isSome then l.map (fun e => if e.1 = k then (e.1, v) else e) else l ++ [(k, v)]
theorem valA_nil {k : α} : valA ([] : List (α × β)) k = none := rfl
theorem valA_cons {e : α × β} {l : List (α × β)} {k : α} : valA (e :: l) k = if e.1 = k then some e.2 else valA l k := by
  unfold valA
  by_cases h : e.1 = k <;> simp [List.find?_cons, h]
theorem valA_some_mem {l : List (α × β)} {k : α} {v : β} (h : valA l k = some v) : (k, v) ∈ l := by
  induction l with
  | nil => cases h
  | cons e l ih =>
    rw [valA_cons] at h
    by_cases q : e.1 = k
    · rw [if_pos q] at h
      cases h
      subst q
      exact List.mem_cons_self
    · rw [if_neg q] at h
      exact List.mem_cons_of_mem _ (ih h)
theorem valA_none {l : List (α × β)} {k : α} : valA l k = none ↔ k ∉ l.map (·.1) := by
  induction l with
  | nil => simp [valA_nil]
  | cons e l ih =>
    rw [valA_cons]
    by_cases q : e.1 = k
    · simp [q]
    · rw [if_neg q, ih]
      simp [Ne.symm q]
theorem valA_isSome {l : List (α × β)} {k : α} : (valA l k).isSome = true ↔ k ∈ l.map (·.1) := by
  cases h : valA l k with
  | none => simpa using valA_none.mp h
  | some v => simp; exact ⟨v, valA_some_mem h⟩
theorem valA_of_mem {l : List (α × β)} (hn : (l.map (·.1)).Nodup) {k : α} {v : β} (h : (k, v) ∈ l) : valA l k = some v := by
  induction l with
  | nil => cases h
  | cons e l ih =>
    rw [List.map_cons, List.nodup_cons] at hn
    rw [valA_cons]
    rcases List.mem_cons.mp h with q | q
    · subst q; rw [if_pos rfl]
    · rw [if_neg, ih hn.2 q]
      intro e1
      exact hn.1 (by rw [e1]; exact List.mem_map.mpr ⟨_, q, rfl⟩)
theorem putA_new {l : List (α × β)} {k : α} {v : β} (h : k ∉ l.map (·.1)) : putA l k v = l ++ [(k, v)] := by
  unfold putA
  rw [valA_none.mpr h]
  rfl
theorem valA_snoc {l : List (α × β)} {k j : α} {v : β} : valA (l ++ [(k, v)]) j = match valA l j with | some x => some x | none => if k = j then some v else none := by
  induction l with
  | nil => rw [List.nil_append, valA_cons, valA_nil]
  | cons e l ih =>
    rw [List.cons_append, valA_cons, valA_cons, ih]
    by_cases q : e.1 = j
    · rw [if_pos q, if_pos q]
    · rw [if_neg q, if_neg q]
end
/-! ### spots, and tables of spots and names -/
abbrev Spot := Int × Int
def spotK (s : Spot) : List Key := [.inl s.1, .inl s.2]
def encSpot (s : Spot) : D := .tup [.int s.1, .int s.2]
theorem spotK_inj {s t : Spot} (h : spotK s = spotK t) : s = t := by
  obtain ⟨a, b⟩ := s
  obtain ⟨x, y⟩ := t
  simp [spotK] at h
  simp [h]
theorem spot_key {F : Hp} {v : V} {s : Spot} (r : Rp F v (encSpot s)) : ∃ b, v = .ref b ∧ F b = some (.tup ((spotK s).map kV)) := by
  unfold encSpot at r
  cases r with
  | tup h1 h2 =>
    have e := RpA.ints (ns := [s.1, s.2]) h2
    rw [e] at h1
    exact ⟨_, rfl, h1⟩
theorem p_spot {c : Ct} {G : Res} {ρ : En} {ta tb : TE} {i j : Int} (ha : EvP c G ρ ta (.int i)) (hb : EvP c G ρ tb (.int j)) : EvP c G ρ (tTup (tCons ta (tCons tb tNil))) (encSpot (i, j)) := p_tup (a_cons ha (a_cons hb a_nil)) (by simp)
abbrev Rn := Int × Int × Int
def encRun (r : Rn) : D := .tup [.int r.1, .int r.2.1, .int r.2.2]
theorem p_run {c : Ct} {G : Res} {ρ : En} {ta tb td : TE} {i j k : Int} (ha : EvP c G ρ ta (.int i)) (hb : EvP c G ρ tb (.int j)) (hd : EvP c G ρ td (.int k)) : EvP c G ρ (tTup (tCons ta (tCons tb (tCons td tNil)))) (encRun (i, j, k)) := p_tup (a_cons ha (a_cons hb (a_cons hd a_nil))) (by simp)
abbrev TD := List (Spot × Str)
def tdD (l : TD) : D := .dT (l.map fun e => spotK e.1) (l.map fun e => .str e.2)
def tdV (l : TD) : List (List Key × V) := l.map fun e => (spotK e.1, V.str e.2)
theorem td_of {F : Hp} {kvs : List (List Key × V)} {l : TD} (k : kvs.map (·.1) = l.map fun e => spotK e.1) (r : RpA F (kvs.map (·.2)) (l.map fun e => .str e.2)) : kvs = tdV l := by
  have e : (l.map fun e => D.str e.2) = (l.map (·.2)).map D.str := by rw [List.map_map]; rfl
  rw [e] at r
  have e2 := r.strs
  apply List.ext_getElem?
  intro i
  have h1 := congrArg (fun z : List (List Key) => z[i]?) k
  have h2 := congrArg (fun z : List V => z[i]?) e2
  simp only [List.getElem?_map] at h1 h2
  unfold tdV
  rw [List.getElem?_map]
  cases hk : kvs[i]? with
  | none =>
    rw [hk] at h1
    cases hl : l[i]? with
    | none => rfl
    | some x => rw [hl] at h1; simp at h1
  | some p =>
    rw [hk] at h1 h2
    cases hl : l[i]? with
    | none => rw [hl] at h1; simp at h1
    | some x =>
      rw [hl] at h1 h2
      simp at h1 h2
      obtain ⟨p1, p2⟩ := p
      simp at h1 h2
      simp [h1, h2]
theorem td_rp {F : Hp} (l : TD) : RpA F ((tdV l).map (·.2)) (l.map fun e => .str e.2) := by
  have e1 : (tdV l).map (·.2) = (l.map (·.2)).map V.str := by unfold tdV; rw [List.map_map, List.map_map]; rfl
  have e2 : (l.map fun e => D.str e.2) = (l.map (·.2)).map D.str := by rw [List.map_map]; rfl
  rw [e1, e2]
  exact RpA.ofStrs _
theorem td_keys (l : TD) : (tdV l).map (·.1) = l.map fun e => spotK e.1 := by unfold tdV; rw [List.map_map]; rfl
theorem td_val (l : TD) (s : Spot) : valV (tdV l) (spotK s) = (valA l s).map V.str := by
  unfold tdV
  induction l with
  | nil => rfl
  | cons e l ih =>
    rw [List.map_cons, valA_cons]
    by_cases h : e.1 = s
    · rw [if_pos h, valV_pos (by rw [h])]
      rfl
    · rw [if_neg h, valV_neg (fun q => h (spotK_inj q)), ih]
theorem td_put (l : TD) (s : Spot) (n : Str) : putK (tdV l) (spotK s) (.str n) = tdV (putA l s n) := by
  unfold putK putA
  rw [valV_any, td_val, Option.isSome_map]
  cases h : (valA l s).isSome with
  | true =>
    rw [if_pos rfl, if_pos rfl]
    unfold tdV
    rw [List.map_map, List.map_map]
    refine List.map_congr_left fun e _ => ?_
    by_cases q : e.1 = s
    · simp [q]
    · have : ¬ spotK e.1 = spotK s := fun z => q (spotK_inj z)
      simp [q, this]
  | false =>
    rw [if_neg (by simp), if_neg (by simp)]
    unfold tdV
    rw [List.map_append]
    rfl
section
variable {c : Ct} {G : Res} {ρ : En} {ta tb te td ty tv tx : TE} {tz : TS} {E : Ends} {p : Addr} {l : TD} {s : Spot} {n : Str}
theorem shl_td {K : PySem.W.Frag} {F H : Hp} {v : V} (e : Ex F H) (h : Shl K F H v (tdD l)) : ∃ a, v = .ref a ∧ H a = some (.dT (tdV l)) := by
  obtain ⟨a, kvs, rfl, h1, h2, h3⟩ := h.dT e
  rw [td_of h2 h3] at h1
  exact ⟨a, rfl, h1⟩
theorem ow_td {K : PySem.W.Frag} {F H : Hp} {a : Addr} (h : H a = some (.dT (tdV l))) : Ow K F H a (tdD l) := ⟨_, h, td_keys l, td_rp l⟩
theorem n_dnewT : EvN c G ρ tDNewT (tdD []) := fun F σ H A Q q p hp => q p F _ (Go.newH A.ex hp) hp (fresh_back A.ex hp) (ow_td upd_same) fun _ e => nomatch e
theorem sx_dputT (k : Nat) (hv : EvP c G ρ tv (.str n)) (ha : EvP c G ρ td (.ref p)) (hy : EvP c G ρ ty (encSpot s)) (hk : G[k]? = some (p, tdD l)) (hz : l.length < 100000) (q : Sx c (G.set k (p, tdD (putA l s n))) ρ tz E) :
    Sx c G ρ (tSeq (sDPut td ty tv) tz) E := fun F σ H A => hv F σ H A _ fun v F1 H1 g1 r1 => ha F1 σ H1 (A.on g1) _ fun w F2 H2 g2 r2 => hy F2 σ H2 ((A.on g1).on g2) _ fun y F3 H3 g3 r3 => by
  cases r1
  cases r2
  obtain ⟨b, rfl, hb⟩ := spot_key r3
  have A3 := ((A.on g1).on g2).on g3
  obtain ⟨a, e, h1⟩ := shl_td (l := l) A3.ex (A3.read (.inr (List.mem_of_getElem? hk)))
  cases e
  refine ⟨p, upd H3 p (.dT (putK (tdV l) (spotK s) (.str n))), rfl, DPut.t h1 (A3.ex _ _ hb) (sz_lt (by unfold tdV; rw [List.length_map]; exact hz)), ?_⟩
  rw [td_put]
  exact q F3 σ _ (A3.upd hk (ow_td upd_same) fun _ e => nomatch e)
/-- if c: d[k] = v, told by what d holds behind it -/
theorem sx_ifPutT {t : TT} {b : Bool} {l' : TD} (k : Nat) (ht : EvT c G ρ t b) (hk : G[k]? = some (p, tdD l)) (hv : b = true → EvP c G ρ tv (.str n)) (ha : b = true → EvP c G ρ td (.ref p)) (hy : b = true → EvP c G ρ ty (encSpot s)) (h1 : b = true → putA l s n = l') (h2 : b = false → l = l')
    (hz : l.length < 100000) (q : Sx c (G.set k (p, tdD l')) ρ tz E) : Sx c G ρ (tSeq (tIfS t (sDPut td ty tv) tNext) tz) E := by
  refine sx_if ht (fun hb => ?_) fun hb => ?_
  · have := sx_dputT (tz := tNext) (E := { E with nx := tz E }) k (hv hb) (ha hb) (hy hb) hk hz (by rw [h1 hb]; exact sx_into (E := E) (ts := tz) q)
    exact this
  · have e : G.set k (p, tdD l') = G := by
      rw [← h2 hb]
      apply List.ext_getElem?
      intro j
      by_cases ej : k = j
      · subst ej
        rw [List.getElem?_set_self (List.getElem?_eq_some_iff.mp hk).1, hk]
      · rw [List.getElem?_set_ne ej]
    rw [e] at q
    exact sx_into (E := E) (ts := tz) q
theorem td_get {K : PySem.W.Frag} {F H : Hp} {v : V} {a : Addr} (e : Ex F H) (h : H a = some (.dT (tdV l))) (r : Rp F v (encSpot s)) : DGet H a v ((valA l s).map V.str) := by
  obtain ⟨b, rfl, hb⟩ := spot_key r
  have := DGet.t h (e _ _ hb)
  rwa [td_val] at this
theorem p_dinT (hy : EvP c G ρ ty (encSpot s)) (hd : EvS c G ρ td (tdD l)) : EvP c G ρ (tDIn ty td) (.bl (valA l s).isSome) := fun F σ H A Q q => hy F σ H A _ fun y F1 H1 g1 r1 => hd F1 σ H1 (A.on g1) _ fun x F2 H2 g2 r2 => by
  obtain ⟨a, rfl, h1⟩ := shl_td g2.s r2
  refine ⟨a, _, rfl, td_get (K := c.K) g2.s h1 (r1.mono g2.f), ?_⟩
  rw [Option.isSome_map]
  exact q _ F2 H2 (g1.trans g2) (.bl _)
theorem p_dninT (hy : EvP c G ρ ty (encSpot s)) (hd : EvS c G ρ td (tdD l)) : EvP c G ρ (tDNotIn ty td) (.bl (!(valA l s).isSome)) := fun F σ H A Q q => hy F σ H A _ fun y F1 H1 g1 r1 => hd F1 σ H1 (A.on g1) _ fun x F2 H2 g2 r2 => by
  obtain ⟨a, rfl, h1⟩ := shl_td g2.s r2
  refine ⟨a, _, rfl, td_get (K := c.K) g2.s h1 (r1.mono g2.f), ?_⟩
  rw [Option.isSome_map]
  exact q _ F2 H2 (g1.trans g2) (.bl _)
def encON : Option Str → D
  | none => .non
  | some n => .str n
theorem p_get1T (hd : EvS c G ρ td (tdD l)) (hy : EvP c G ρ ty (encSpot s)) : EvP c G ρ (tDGet1 td ty) (encON (valA l s)) := fun F σ H A Q q => hd F σ H A _ fun x F1 H1 g1 r1 => by
  obtain ⟨a, rfl, h1⟩ := shl_td g1.s r1
  refine ⟨a, rfl, .inr ⟨_, .inl h1⟩, hy F1 σ H1 (A.on g1) _ fun y F2 H2 g2 r2 => ⟨_, td_get (K := c.K) g2.s (g2.h _ _ h1) r2, ?_⟩⟩
  cases h : valA l s with
  | none => rw [h] at q; exact q _ F2 H2 (g1.trans g2) .non
  | some n => rw [h] at q; exact q _ F2 H2 (g1.trans g2) (.str n)
theorem p_get2T (hd : EvS c G ρ td (tdD l)) (hy : EvP c G ρ ty (encSpot s)) (hx : EvP c G ρ tx (.str n)) : EvP c G ρ (tDGet2 td ty tx) (.str ((valA l s).getD n)) := fun F σ H A Q q => hd F σ H A _ fun x F1 H1 g1 r1 => by
  obtain ⟨a, rfl, h1⟩ := shl_td g1.s r1
  refine ⟨a, rfl, .inr ⟨_, .inl h1⟩, hy F1 σ H1 (A.on g1) _ fun y F2 H2 g2 r2 => hx F2 σ H2 ((A.on g1).on g2) _ fun z F3 H3 g3 r3 => ⟨_, td_get (K := c.K) g3.s (g3.h _ _ (g2.h _ _ h1)) (r2.mono g3.f), ?_⟩⟩
  cases r3
  cases h : valA l s with
  | none => rw [h] at q; exact q _ F3 H3 ((g1.trans g2).trans g3) (.str _)
  | some n => rw [h] at q; exact q _ F3 H3 ((g1.trans g2).trans g3) (.str _)
theorem p_lenTd (hd : EvS c G ρ td (tdD l)) : EvP c G ρ (tCB rLenT (tCons td tNil)) (.int (l.length : Int)) := fun F σ H A Q q => hd F σ H A _ fun x F1 H1 g1 r1 => by
  obtain ⟨a, rfl, h1⟩ := shl_td g1.s r1
  refine ⟨a, tdV l, rfl, h1, ?_⟩
  rw [show (tdV l).length = l.length by unfold tdV; simp]
  exact q _ F1 H1 g1 (.int _)
/-- dict(d) -/
def hashS (s : Spot) : Int := Xg.hashI [s.1, s.2]
theorem n_copyT (hd : EvS c G ρ td (tdD l)) (hn : (l.map fun e => hashS e.1).Nodup) : EvN c G ρ (tCB Xg.rCopyT (tCons td tNil)) (tdD l) := fun F σ H A Q q => hd F σ H A _ fun x F1 H1 g1 r1 => by
  obtain ⟨a, rfl, h1⟩ := shl_td g1.s r1
  refine ⟨a, tdV l, l.map fun e => [e.1.1, e.1.2], rfl, .inl h1, ?_, ?_, fun p hp => ?_⟩
  · rw [td_keys, List.map_map]
    rfl
  · rw [List.map_map]
    exact hn
  · exact q p F1 _ (g1.trans (Go.newH g1.s hp)) (fresh_back g1.h hp) (fresh_back g1.s hp) (ow_td upd_same) fun _ e => nomatch e
theorem p_neTd (ha : EvS c G ρ ta (tdD l)) (hb : EvS c G ρ tb (tdD l)) : EvP c G ρ (tOp Xg.rNeT ta tb) (.bl false) := fun F σ H A Q q => ha F σ H A _ fun x F1 H1 g1 r1 => hb F1 σ H1 (A.on g1) _ fun y F2 H2 g2 r2 => by
  obtain ⟨a, rfl, h1⟩ := shl_td g1.s r1
  obtain ⟨b, rfl, h2⟩ := shl_td g2.s r2
  refine ⟨a, b, tdV l, rfl, rfl, g2.h _ _ h1, h2, fun e he => ?_, q _ F2 H2 (g1.trans g2) (.bl _)⟩
  obtain ⟨x, _, rfl⟩ := List.mem_map.mp he
  rfl
end
end Dl

namespace Dl
open PySem PySem.Spec PyProof.Rows L2 Evl Xb
section
variable {c : Ct} {G : Res} {ρ : En} {t : TT} {ta tb : TE} {ts tz : TS} {E : Ends}
/-- over numbered items, to two names -/
theorem sx_forE {ds : List D} {wi : TI} {j1 j2 : Nat} {gr : Res} (Gs : Nat → Res) (ρs : Nat → En) (hi : EvI c G ρ wi (enumD ds) gr) (hg : ∀ x ∈ gr, ∀ i, x ∈ Gs i) (h0 : G = Gs 0) (l0 : Le (ρs 0) ρ)
    (hs : ∀ (i : Nat) (d : D), ds[i]? = some d → ∀ S' : Res, (∀ x ∈ c.S, x ∈ S') → Sx (c.wS S') (Gs i) (((ρs i).set j1 (some (.int (i : Int)))).set j2 (some d)) ts { E with nx := StE (c.wS S') (Gs (i + 1)) (ρs (i + 1)), ct := StE (c.wS S') (Gs (i + 1)) (ρs (i + 1)), bk := tz E })
    (q : Sx c (Gs ds.length) (ρs ds.length) tz E) : Sx c G ρ (tSeq (tFor wi (gTup c.K 2 (gCons (gName j1) (gCons (gName j2) gNil))) ts) tz) E := by
  have key : ∀ (i : Nat) (d : D), (enumD ds)[i]? = some d → ∃ e, ds[i]? = some e ∧ d = D.tup [D.int (i : Int), e] := fun i d hd => by
    have hl := (List.getElem?_eq_some_iff.mp hd).1
    rw [enumD_len] at hl
    have h2 : ds[i]? = some ds[i] := List.getElem?_eq_getElem hl
    rw [enumD_at h2] at hd
    exact ⟨_, h2, (Option.some.inj hd).symm⟩
  refine sx_for (js := [j1] ++ ([j2] ++ [])) Gs ρs (fun i d => match d with | D.tup [a, b] => ((ρs i).set j1 (some a)).set j2 (some b) | _ => ρs i) hi hg h0 l0 (fun i d hd S' => ?_) (fun i d hd S' hS => ?_) (by rw [enumD_len]; exact q)
  · obtain ⟨e, _, rfl⟩ := key i d hd
    exact g_tup (g_cons g_name (g_cons g_name g_nil)) rfl
  · obtain ⟨e, he, rfl⟩ := key i d hd
    exact hs i e he S' hS
theorem p_ifS {b : Bool} {x y : Str} (h : EvT c G ρ t b) (h1 : Imp (b = true) (EvP c G ρ ta (.str x))) (h2 : Imp (b = false) (EvP c G ρ tb (.str y))) : EvP c G ρ (tIf t ta tb) (.str (if b then x else y)) :=
  p_if h (fun hb => by rw [hb]; exact h1 hb) (fun hb => by rw [hb]; exact h2 hb)
end
end Dl

namespace Dl
open PySem PySem.Spec PyProof.Rows L2 Evl Xb
/-! ### the hashes of spots within a hall stand apart: a tree over their lowest digits, checked by the kernel -/
inductive Tr where
  | lf
  | nd (a b : Tr)
def Tr.l : Tr → Tr
  | .lf => .lf
  | .nd a _ => a
def Tr.r : Tr → Tr
  | .lf => .lf
  | .nd _ b => b
def Tr.has : Nat → Nat → Tr → Bool
  | 0, _, .lf => false
  | 0, _, .nd _ _ => true
  | f + 1, x, t => if x % 2 = 0 then Tr.has f (x / 2) t.l else Tr.has f (x / 2) t.r
def Tr.put : Nat → Nat → Tr → Tr
  | 0, _, _ => .nd .lf .lf
  | f + 1, x, t => if x % 2 = 0 then .nd (Tr.put f (x / 2) t.l) t.r else .nd t.l (Tr.put f (x / 2) t.r)
theorem Tr.has_put : ∀ (f x : Nat) (t : Tr) (y : Nat), Tr.has f y t = true → Tr.has f y (Tr.put f x t) = true
  | 0, x, t, y, _ => rfl
  | f + 1, x, t, y, h => by
    unfold Tr.has at h ⊢
    unfold Tr.put
    by_cases hx : x % 2 = 0 <;> by_cases hy : y % 2 = 0 <;> simp only [hx, hy, if_true, if_false, Tr.l, Tr.r] at h ⊢
    · exact Tr.has_put f _ _ _ h
    · exact h
    · exact h
    · exact Tr.has_put f _ _ _ h
theorem Tr.has_self : ∀ (f x : Nat) (t : Tr), Tr.has f x (Tr.put f x t) = true
  | 0, x, t => rfl
  | f + 1, x, t => by
    unfold Tr.has Tr.put
    by_cases hx : x % 2 = 0 <;> simp only [hx, if_true, if_false, Tr.l, Tr.r] <;> exact Tr.has_self f _ _
/-- each one is new to those ahead -/
def Tr.all (f : Nat) : List Nat → Tr → Bool
  | [], _ => true
  | x :: xs, t => !(Tr.has f x t) && Tr.all f xs (Tr.put f x t)
theorem Tr.all_nodup (f : Nat) : ∀ (xs : List Nat) (t : Tr), Tr.all f xs t = true → xs.Nodup ∧ ∀ x ∈ xs, Tr.has f x t = false
  | [], _, _ => ⟨List.nodup_nil, fun x hx => by cases hx⟩
  | x :: xs, t, h => by
    unfold Tr.all at h
    rw [Bool.and_eq_true] at h
    obtain ⟨h1, h2⟩ := Tr.all_nodup f xs _ h.2
    have hx : Tr.has f x t = false := by simpa using h.1
    refine ⟨List.nodup_cons.mpr ⟨fun hm => ?_, h1⟩, fun y hy => ?_⟩
    · have := h2 x hm
      rw [Tr.has_self] at this
      cases this
    · rcases List.mem_cons.mp hy with rfl | hy
      · exact hx
      · cases e : Tr.has f y t with
        | false => rfl
        | true =>
          have := h2 y hy
          rw [Tr.has_put f x t y e] at this
          cases this
def hIx (i : Nat) : Nat := (Xg.hashI [((i / 128 : Nat) : Int), ((i % 128 : Nat) : Int)] % 262144).toNat
theorem hash_apart : Tr.all 18 ((List.range 5504).map hIx) .lf = true := by decide +kernel
theorem hashS_inj {s t : Spot} (hs : 0 ≤ s.1 ∧ s.1 < 43 ∧ 0 ≤ s.2 ∧ s.2 < 128) (ht : 0 ≤ t.1 ∧ t.1 < 43 ∧ 0 ≤ t.2 ∧ t.2 < 128) (h : hashS s = hashS t) : s = t := by
  have nd := (Tr.all_nodup 18 _ _ hash_apart).1
  have ix : ∀ u : Spot, 0 ≤ u.1 ∧ u.1 < 43 ∧ 0 ≤ u.2 ∧ u.2 < 128 → hIx (u.1.toNat * 128 + u.2.toNat) = (hashS u % 262144).toNat := fun u hu => by
    unfold hIx hashS
    have e1 : ((((u.1.toNat * 128 + u.2.toNat) / 128 : Nat)) : Int) = u.1 := by omega
    have e2 : ((((u.1.toNat * 128 + u.2.toNat) % 128 : Nat)) : Int) = u.2 := by omega
    rw [e1, e2]
  have e := ix s hs
  rw [h, ← ix t ht] at e
  have l1 : s.1.toNat * 128 + s.2.toNat < 5504 := by omega
  have l2 : t.1.toNat * 128 + t.2.toNat < 5504 := by omega
  have key : s.1.toNat * 128 + s.2.toNat = t.1.toNat * 128 + t.2.toNat := by
    refine (List.getElem?_inj (l := (List.range 5504).map hIx) (by simpa using l1) nd).mp ?_
    rw [List.getElem?_map, List.getElem?_map, List.getElem?_range l1, List.getElem?_range l2]
    simp [e]
  obtain ⟨a, b⟩ := s
  obtain ⟨x, y⟩ := t
  simp only at hs ht key
  have : a = x ∧ b = y := by omega
  rw [this.1, this.2]
theorem hash_nodup {l : TD} (hn : (l.map (·.1)).Nodup) (hl : ∀ e ∈ l, 0 ≤ e.1.1 ∧ e.1.1 < 43 ∧ 0 ≤ e.1.2 ∧ e.1.2 < 128) : (l.map fun e => hashS e.1).Nodup := by
  induction l with
  | nil => exact List.nodup_nil
  | cons e l ih =>
    rw [List.map_cons, List.nodup_cons] at hn ⊢
    refine ⟨fun hm => ?_, ih hn.2 fun x hx => hl x (List.mem_cons_of_mem _ hx)⟩
    obtain ⟨x, hx, q⟩ := List.mem_map.mp hm
    exact hn.1 (List.mem_map.mpr ⟨x, hx, hashS_inj (hl x (List.mem_cons_of_mem _ hx)) (hl e List.mem_cons_self) q⟩)
end Dl

/-! the reading of expressions over data, by rules -/
local macro_rules | `(tactic| walk_at "mem") => `(tactic| first
  | assumption
  | exact Or.inr List.mem_cons_self
  | exact Or.inr (List.mem_cons_of_mem _ List.mem_cons_self)
  | exact Or.inr (List.mem_cons_of_mem _ (List.mem_cons_of_mem _ List.mem_cons_self))
  | exact Or.inr (List.mem_cons_of_mem _ (List.mem_cons_of_mem _ (List.mem_cons_of_mem _ List.mem_cons_self)))
  | exact Or.inl (by assumption)
  | exact Or.inl List.mem_cons_self
  | exact Or.inl (List.mem_cons_of_mem _ List.mem_cons_self))
local macro_rules | `(tactic| walk_at "scr") => `(tactic| ((with_reducible apply Dl.EvS.res); (focus ((with_reducible apply Dl.p_var) <;> (exact rfl))); (focus (walk_at "mem"))))
local macro_rules | `(tactic| walk_at "pv") => `(tactic| first
  | ((with_reducible apply Dl.p_var) <;> (exact rfl))
  | (with_reducible exact Dl.p_int)
  | (with_reducible exact Dl.p_str)
  | (with_reducible exact Dl.p_bl)
  | (with_reducible exact Dl.p_non)
  | (with_reducible exact Dl.p_ty)
  | ((with_reducible apply Dl.s_arg); (focus ((with_reducible apply Dl.p_var) <;> (exact rfl))); (focus assumption); (focus (first | assumption | exact fun _ h => h)))
  | ((with_reducible apply Dl.EvS.res); (focus ((with_reducible apply Dl.p_var) <;> (exact rfl))); (focus (walk_at "mem")))
  | ((with_reducible apply Dl.p_opI) <;> (try walk_at "pv"))
  | ((with_reducible apply Dl.p_opB) <;> (try walk_at "pv"))
  | ((with_reducible apply Dl.p_opC) <;> (try walk_at "pv"))
  | ((with_reducible apply Dl.p_neg) <;> (try walk_at "pv"))
  | ((with_reducible apply Dl.p_eqI); (focus (walk_at "pv")); (focus (walk_at "pv")))
  | ((with_reducible apply Dl.p_neI); (focus (walk_at "pv")); (focus (walk_at "pv")))
  | ((with_reducible apply Dl.p_eqS); (focus (walk_at "pv")); (focus (walk_at "pv")))
  | ((with_reducible apply Dl.p_neS); (focus (walk_at "pv")); (focus (walk_at "pv")))
  | ((with_reducible apply Dl.p_eqB); (focus (walk_at "pv")); (focus (walk_at "pv")))
  | ((with_reducible apply Dl.p_neB); (focus (walk_at "pv")); (focus (walk_at "pv")))
  | ((with_reducible apply Dl.p_cat) <;> (try walk_at "pv"))
  | ((with_reducible apply Dl.p_isN) <;> (try walk_at "pv"))
  | ((with_reducible apply Dl.p_notN) <;> (try walk_at "pv"))
  | ((with_reducible apply Dl.p_ixScr); (focus (walk_at "scr")); (focus (walk_at "pv")); (try walk_at "pv"))
  | ((with_reducible apply Dl.p_ixL) <;> (try walk_at "pv"))
  | ((with_reducible apply Dl.p_ixT) <;> (try walk_at "pv"))
  | ((with_reducible apply Dl.p_ixS) <;> (try walk_at "pv"))
  | ((with_reducible apply Dl.t_test) <;> (try walk_at "pv"))
  | ((with_reducible apply Dl.t_B) <;> (try walk_at "pv"))
  | ((with_reducible apply Dl.t_not) <;> (try walk_at "pv"))
  | ((with_reducible apply Dl.t_and) <;> (try walk_at "pv"))
  | ((with_reducible apply Dl.t_or) <;> (try walk_at "pv"))
  | (with_reducible exact Dl.t_yes)
  | ((with_reducible apply Dl.p_andV) <;> (try walk_at "pv"))
  | ((with_reducible apply Dl.p_orV) <;> (try walk_at "pv"))
  | ((with_reducible apply Dl.p_notV) <;> (try walk_at "pv"))
  | ((with_reducible apply Dl.p_chainI) <;> (try walk_at "pv"))
  | ((with_reducible apply Dl.a_cons) <;> (try walk_at "pv"))
  | (with_reducible exact Dl.a_nil)
  | ((with_reducible apply Dl.p_tup) <;> (try walk_at "pv"))
  | ((with_reducible apply Dl.p_spot) <;> (try walk_at "pv"))
  | ((with_reducible apply Dl.p_run) <;> (try walk_at "pv"))
  | ((with_reducible apply Dl.n_lst) <;> (try walk_at "pv"))
  | (with_reducible exact Dl.o_none)
  | ((with_reducible apply Dl.o_some) <;> (try walk_at "pv"))
  | ((with_reducible apply Dl.p_lenScr); (focus (walk_at "scr")))
  | ((with_reducible apply Dl.p_lenT); (focus (walk_at "pv")))
  | ((with_reducible apply Dl.p_lenL) <;> (try walk_at "pv"))
  | ((with_reducible apply Dl.p_lenS) <;> (try walk_at "pv"))
  | (with_reducible exact Dl.n_dnewT)
  | ((with_reducible apply Dl.p_lenTd) <;> (try walk_at "pv"))
  | ((with_reducible apply Dl.p_dinT) <;> (try walk_at "pv"))
  | ((with_reducible apply Dl.p_dninT) <;> (try walk_at "pv"))
  | ((with_reducible apply Dl.p_get1T) <;> (try walk_at "pv"))
  | ((with_reducible apply Dl.p_get2T) <;> (try walk_at "pv"))
  | ((with_reducible apply Dl.p_neTd) <;> (try walk_at "pv"))
  | ((with_reducible apply Dl.n_copyT) <;> (try walk_at "pv"))
  | ((with_reducible apply Dl.p_abs) <;> (try walk_at "pv"))
  | ((with_reducible apply Dl.p_max2) <;> (try walk_at "pv"))
  | ((with_reducible apply Dl.p_min2) <;> (try walk_at "pv"))
  | ((with_reducible apply Dl.p_sumF) <;> (try walk_at "pv"))
  | ((with_reducible apply Dl.p_minF); (focus (walk_at "pv")); (try assumption))
  | ((with_reducible apply Dl.p_maxF); (focus (walk_at "pv")); (try assumption))
  | ((with_reducible apply Dl.p_allF) <;> (try walk_at "pv"))
  | ((with_reducible apply Dl.n_list) <;> (try walk_at "pv"))
  | ((with_reducible apply Dl.n_cat) <;> (try walk_at "pv"))
  | ((with_reducible apply Dl.n_slL) <;> (try walk_at "pv"))
  | ((with_reducible apply Dl.p_slS) <;> (try walk_at "pv"))
  | ((with_reducible apply Dl.p_slT) <;> (try walk_at "pv"))
  | ((with_reducible apply Dl.p_isi); (focus (walk_at "pv")); (focus (walk_at "pv")); (focus (first | exact (rfl : _ = "int") | exact (rfl : _ = "str") | exact (rfl : _ = "list") | exact (rfl : _ = "tuple") | exact (rfl : _ = "bool") | exact (rfl : _ = "NoneType"))); (focus (exact ⟨by decide, by decide⟩)); (focus (with_reducible (first | exact Dl.kit_NoneType_bool | exact Dl.kit_NoneType_int | exact Dl.kit_NoneType_str | exact Dl.kit_NoneType_list | exact Dl.kit_NoneType_tuple | exact Dl.kit_bool_bool | exact Dl.kit_bool_int | exact Dl.kit_bool_str | exact Dl.kit_bool_list | exact Dl.kit_bool_tuple | exact Dl.kit_int_bool | exact Dl.kit_int_int | exact Dl.kit_int_str | exact Dl.kit_int_list | exact Dl.kit_int_tuple | exact Dl.kit_str_bool | exact Dl.kit_str_int | exact Dl.kit_str_str | exact Dl.kit_str_list | exact Dl.kit_str_tuple | exact Dl.kit_list_bool | exact Dl.kit_list_int | exact Dl.kit_list_str | exact Dl.kit_list_list | exact Dl.kit_list_tuple | exact Dl.kit_tuple_bool | exact Dl.kit_tuple_int | exact Dl.kit_tuple_str | exact Dl.kit_tuple_list | exact Dl.kit_tuple_tuple))))
  | ((with_reducible apply Dl.p_count) <;> (try walk_at "pv"))
  | ((with_reducible apply Dl.p_find) <;> (try walk_at "pv"))
  | ((with_reducible apply Dl.p_joinF) <;> (try walk_at "pv"))
  | ((with_reducible apply Dl.p_inL) <;> (try walk_at "pv"))
  | ((with_reducible apply Dl.p_inT) <;> (try walk_at "pv"))
  | ((with_reducible apply Dl.p_eqD) <;> (try walk_at "pv"))
  | ((with_reducible apply Dl.p_neD) <;> (try walk_at "pv"))
  | ((with_reducible apply Dl.i_arg); (focus ((with_reducible apply Dl.p_var) <;> (exact rfl))); (focus assumption); (focus (first | assumption | exact fun _ h => h)))
  | ((with_reducible apply Dl.i_list) <;> (try walk_at "pv"))
  | ((with_reducible apply Dl.i_listG); (focus ((with_reducible apply Dl.p_var) <;> (exact rfl))); (focus (first | exact List.mem_cons_self | exact List.mem_cons_of_mem _ List.mem_cons_self | exact List.mem_cons_of_mem _ (List.mem_cons_of_mem _ List.mem_cons_self) | assumption)))
  | ((with_reducible apply Dl.i_listS); (focus ((with_reducible apply Dl.p_var) <;> (exact rfl))); (focus (first | assumption | exact List.mem_cons_self | exact List.mem_cons_of_mem _ List.mem_cons_self)))
  | ((with_reducible apply Dl.i_range1m) <;> (try walk_at "pv"))
  | ((with_reducible apply Dl.i_range2m) <;> (try walk_at "pv"))
  | ((with_reducible apply Dl.i_range1) <;> (try walk_at "pv"))
  | ((with_reducible apply Dl.i_range2) <;> (try walk_at "pv"))
  | ((with_reducible apply Dl.i_str) <;> (try walk_at "pv"))
  | ((with_reducible apply Dl.i_enum) <;> (try walk_at "pv"))
  | ((with_reducible apply Dl.i_enumS) <;> (try walk_at "pv"))
  | (with_reducible exact Dl.g_name)
  | (with_reducible exact Dl.g_nil)
  | ((with_reducible apply Dl.g_cons) <;> (try walk_at "pv"))
  | ((with_reducible apply Dl.g_tupE); (focus (exact rfl)); (focus (walk_at "pv")); exact rfl)
  | ((with_reducible apply Dl.n_map) <;> (try walk_at "pv"))
  | ((with_reducible apply Dl.n_lc) <;> (try walk_at "pv"))
  | ((with_reducible change Dl.Imp _ _); intro hImp; first | (exact (absurd hImp (by decide) : Dl.EvT _ _ _ _ true)) | (exact (absurd hImp (by decide) : Dl.EvP _ _ _ _ (.bl true))) | (exact absurd hImp (by decide)) | (walk_at "pv"))
  | (with_reducible exact Dl.May.self)
  | ((with_reducible apply Dl.May.res); walk_at "mem")
  | (show (_ ∈ (_ : Dl.Res)) ∨ (_ ∈ (_ : Dl.Res)); walk_at "mem")
  | (show ∀ j ∈ (_ : List Nat), j ∈ (_ : List Nat); decide)
  | (show ∀ x ∈ (_ : Dl.Res), x ∈ (_ : Dl.Res); first | (intro _ hx; exact nomatch hx) | (intro _ hx; exact hx) | (simp; done))
  | ((with_reducible intro _); walk_at "pv")
  | ((with_reducible apply Dl.EvP.toS); walk_at "pv")
  | ((with_reducible apply Dl.EvN.toP); walk_at "pv")
  | (with_reducible exact Dl.at_0)
  | (with_reducible exact Dl.at_1)
  | (with_reducible exact Dl.at_2)
  | (with_reducible exact Dl.at_3)
  | (show Bool; exact true)
  | walk_at "sd")
local macro_rules | `(tactic| walk_at "sd") => `(tactic| (show (_ : Prop); first
  | assumption
  | (exact ⟨by decide, by decide⟩)
  | (exact Or.inr ⟨by decide, by decide⟩)
  | (exact Or.inr ⟨by omega, by omega⟩)
  | (exact Or.inl ⟨by omega, by omega⟩)
  | decide
  | omega
  | (constructor <;> omega)
  | (simp only [List.length_range, List.length_map]; omega)
  | (show List.length (_ :: _) ≤ 100000; simp; done)
  | (exact rfl)))
local macro_rules | `(tactic| walk_at "nrm") => `(tactic| (try simp only [List.set_cons_zero, List.set_cons_succ, List.set_nil, Dl.wipeE]))
local macro_rules | `(tactic| walk_at "go") => `(tactic| ((try dsimp only [L2.cxOf, L2.Cx.nox, L2.Cx.wish]); (try simp only [Dl.env0, List.map_cons, List.map_nil, List.cons_append, List.nil_append, List.append_nil, List.length_cons, List.length_nil, List.replicate_succ, List.replicate_zero, Nat.reduceAdd, Nat.reduceSub, Nat.zero_add, Nat.sub_self])))
local macro_rules | `(tactic| walk_at "asg") => `(tactic| (apply Dl.sx_asg; (focus (walk_at "pv")); walk_at "nrm"))
local macro_rules | `(tactic| walk_at "asgT") => `(tactic| (apply Dl.sx_asgT; (focus (walk_at "pv")); (focus (walk_at "pv")); walk_at "nrm"))
local macro_rules | `(tactic| walk_at "own") => `(tactic| (apply Dl.sx_own; (focus (walk_at "pv")); walk_at "nrm"))
local macro_rules | `(tactic| walk_at "when") => `(tactic| (apply Dl.sx_when; (focus (walk_at "pv"))))
local macro_rules | `(tactic| walk_at "if") => `(tactic| (apply Dl.sx_if; (focus (walk_at "pv"))))
local macro_rules | `(tactic| walk_at "if1") => `(tactic| (apply Dl.sx_if1; (focus (walk_at "pv"))))
local macro_rules | `(tactic| walk_at "skip") => `(tactic| (apply Dl.sx_skip; apply Dl.EvT.is; (focus (walk_at "pv"))))
local macro_rules | `(tactic| walk_at "le") => `(tactic| (repeat (first | exact True.intro | (refine And.intro rfl ?_))))
local macro_rules | `(tactic| walk_at "app") => `(tactic| (first | (apply Dl.sx_app 0; (focus (walk_at "pv")); exact rfl; (focus (walk_at "pv"))) | (apply Dl.sx_app 1; (focus (walk_at "pv")); exact rfl; (focus (walk_at "pv"))) | (apply Dl.sx_app 2; (focus (walk_at "pv")); exact rfl; (focus (walk_at "pv"))); walk_at "nrm"))
local macro_rules | `(tactic| walk_at "putT") => `(tactic| (first | (apply Dl.sx_dputT 0; (focus (walk_at "pv")); (focus (walk_at "pv")); (focus (walk_at "pv")); exact rfl) | (apply Dl.sx_dputT 1; (focus (walk_at "pv")); (focus (walk_at "pv")); (focus (walk_at "pv")); exact rfl) | (apply Dl.sx_dputT 2; (focus (walk_at "pv")); (focus (walk_at "pv")); (focus (walk_at "pv")); exact rfl)))
local macro_rules | `(tactic| walk_at "may") => `(tactic| (first | exact Dl.May.self | (apply Dl.May.res; walk_at "mem")))
local macro_rules | `(tactic| walk_at "end") => `(tactic| (apply Dl.sx_end rfl))
local macro_rules | `(tactic| walk_at "last") => `(tactic| (apply Dl.Sx.last))
local macro_rules | `(tactic| walk_at "into") => `(tactic| (apply Dl.sx_into))
local macro_rules | `(tactic| walk_at "ret") => `(tactic| (apply Dl.sx_retE; (focus assumption); (focus (walk_at "pv"))))
local macro_rules | `(tactic| walk_at "retN") => `(tactic| (apply Dl.sx_retN; (focus (walk_at "pv")); assumption))
namespace Lw
open PySem PySem.Spec PyProof.Rows L2 Dl
/-! the text by places, the names' places, what the top has written -/
def topS (i : Nat) : Stmt := PySem.Challenge.pw_seatplan_k02_free_runs.main.body.getD i (.Pass ⟨0, 0, 0, 0⟩)
abbrev s_blocks_of : Stmt := topS 3
theorem sc_blocks_of : FnScope ["rows", "blocks", "row", "signs"] ["rows"] (defScope s_blocks_of) := ⟨rfl, rfl, rfl, by decide +kernel, rfl, by decide +kernel, by decide +kernel⟩
abbrev s_blocks_of_row : Stmt := topS 4
theorem sc_blocks_of_row : FnScope ["row", "signs", "blocks", "many", "place", "sign"] ["row", "signs"] (defScope s_blocks_of_row) := ⟨rfl, rfl, rfl, by decide +kernel, rfl, by decide +kernel, by decide +kernel⟩
abbrev s_runs_of : Stmt := topS 6
theorem sc_runs_of : FnScope ["rows", "taken"] ["rows", "taken"] (defScope s_runs_of) := ⟨rfl, rfl, rfl, by decide +kernel, rfl, by decide +kernel, by decide +kernel⟩
abbrev s_with_taken : Stmt := topS 7
theorem sc_with_taken : FnScope ["rows", "taken", "sign", "shown", "row", "signs", "places", "place"] ["rows", "taken", "sign"] (defScope s_with_taken) := ⟨rfl, rfl, rfl, by decide +kernel, rfl, by decide +kernel, by decide +kernel⟩
abbrev s_law_cell_at : Stmt := topS 9
theorem sc_law_cell_at : FnScope ["_law_script", "_law_k"] ["_law_script", "_law_k"] (defScope s_law_cell_at) := ⟨rfl, rfl, rfl, by decide +kernel, rfl, by decide +kernel, by decide +kernel⟩
abbrev s_law_whole : Stmt := topS 10
theorem sc_law_whole : FnScope ["_law_found"] ["_law_found"] (defScope s_law_whole) := ⟨rfl, rfl, rfl, by decide +kernel, rfl, by decide +kernel, by decide +kernel⟩
abbrev s_law_row_by : Stmt := topS 11
theorem sc_law_row_by : FnScope ["_law_n", "_law_many", "_law_gap", "_law_signs", "_law_place"] ["_law_n"] (defScope s_law_row_by) := ⟨rfl, rfl, rfl, by decide +kernel, rfl, by decide +kernel, by decide +kernel⟩
abbrev s_law_hall_by : Stmt := topS 12
theorem sc_law_hall_by : FnScope ["_law_script", "_law_k", "_law_many", "_law_rows", "_law_j", "_law_n"] ["_law_script", "_law_k"] (defScope s_law_hall_by) := ⟨rfl, rfl, rfl, by decide +kernel, rfl, by decide +kernel, by decide +kernel⟩
abbrev s_law_taken_by : Stmt := topS 13
theorem sc_law_taken_by : FnScope ["_law_rows", "_law_n", "_law_taken", "_law_at", "_law_row", "_law_place"] ["_law_rows", "_law_n"] (defScope s_law_taken_by) := ⟨rfl, rfl, rfl, by decide +kernel, rfl, by decide +kernel, by decide +kernel⟩
abbrev s_law_free : Stmt := topS 14
theorem sc_law_free : FnScope ["_law_rows", "_law_taken", "_law_row", "_law_place"] ["_law_rows", "_law_taken", "_law_row", "_law_place"] (defScope s_law_free) := ⟨rfl, rfl, rfl, by decide +kernel, rfl, by decide +kernel, by decide +kernel⟩
abbrev s_law_run : Stmt := topS 15
theorem sc_law_run : FnScope ["_law_rows", "_law_taken", "_law_run_here", "_law_ahead", "_law_place"] ["_law_rows", "_law_taken", "_law_run_here", "_law_ahead"] (defScope s_law_run) := ⟨rfl, rfl, rfl, by decide +kernel, rfl, by decide +kernel, by decide +kernel⟩
abbrev s_law : Stmt := topS 16
theorem sc_law : FnScope ["_law_script", "_law_rows", "_law_taken", "_law_handed", "_law_found", "_law_ahead", "_law_left", "_law_run_here", "_law_line"] ["_law_script"] (defScope s_law) := ⟨rfl, rfl, rfl, by decide +kernel, rfl, by decide +kernel, by decide +kernel⟩
structure Top (K : PySem.W.Frag) (mg : Str → Option Value) where
  a_blocks_of : Addr
  f_blocks_of : FuncData
  F_blocks_of : Fun K "blocks_of" "blocks_of" s_blocks_of a_blocks_of f_blocks_of
  b_blocks_of : Binds K f_blocks_of ["rows"] []
  g_blocks_of : mg "blocks_of" = some (.ref a_blocks_of)
  a_blocks_of_row : Addr
  f_blocks_of_row : FuncData
  F_blocks_of_row : Fun K "blocks_of_row" "blocks_of_row" s_blocks_of_row a_blocks_of_row f_blocks_of_row
  b_blocks_of_row : Binds K f_blocks_of_row ["row", "signs"] []
  g_blocks_of_row : mg "blocks_of_row" = some (.ref a_blocks_of_row)
  a_runs_of : Addr
  f_runs_of : FuncData
  F_runs_of : Fun K "runs_of" "runs_of" s_runs_of a_runs_of f_runs_of
  b_runs_of : Binds K f_runs_of ["rows", "taken"] []
  g_runs_of : mg "runs_of" = some (.ref a_runs_of)
  a_with_taken : Addr
  f_with_taken : FuncData
  F_with_taken : Fun K "with_taken" "with_taken" s_with_taken a_with_taken f_with_taken
  b_with_taken : Binds K f_with_taken ["rows", "taken", "sign"] []
  g_with_taken : mg "with_taken" = some (.ref a_with_taken)
  a_law_cell_at : Addr
  f_law_cell_at : FuncData
  F_law_cell_at : Fun K "_law_cell_at" "_law_cell_at" s_law_cell_at a_law_cell_at f_law_cell_at
  b_law_cell_at : Binds K f_law_cell_at ["_law_script", "_law_k"] []
  g_law_cell_at : mg "_law_cell_at" = some (.ref a_law_cell_at)
  a_law_whole : Addr
  f_law_whole : FuncData
  F_law_whole : Fun K "_law_whole" "_law_whole" s_law_whole a_law_whole f_law_whole
  b_law_whole : Binds K f_law_whole ["_law_found"] []
  g_law_whole : mg "_law_whole" = some (.ref a_law_whole)
  a_law_row_by : Addr
  f_law_row_by : FuncData
  F_law_row_by : Fun K "_law_row_by" "_law_row_by" s_law_row_by a_law_row_by f_law_row_by
  b_law_row_by : Binds K f_law_row_by ["_law_n"] []
  g_law_row_by : mg "_law_row_by" = some (.ref a_law_row_by)
  a_law_hall_by : Addr
  f_law_hall_by : FuncData
  F_law_hall_by : Fun K "_law_hall_by" "_law_hall_by" s_law_hall_by a_law_hall_by f_law_hall_by
  b_law_hall_by : Binds K f_law_hall_by ["_law_script", "_law_k"] []
  g_law_hall_by : mg "_law_hall_by" = some (.ref a_law_hall_by)
  a_law_taken_by : Addr
  f_law_taken_by : FuncData
  F_law_taken_by : Fun K "_law_taken_by" "_law_taken_by" s_law_taken_by a_law_taken_by f_law_taken_by
  b_law_taken_by : Binds K f_law_taken_by ["_law_rows", "_law_n"] []
  g_law_taken_by : mg "_law_taken_by" = some (.ref a_law_taken_by)
  a_law_free : Addr
  f_law_free : FuncData
  F_law_free : Fun K "_law_free" "_law_free" s_law_free a_law_free f_law_free
  b_law_free : Binds K f_law_free ["_law_rows", "_law_taken", "_law_row", "_law_place"] []
  g_law_free : mg "_law_free" = some (.ref a_law_free)
  a_law_run : Addr
  f_law_run : FuncData
  F_law_run : Fun K "_law_run" "_law_run" s_law_run a_law_run f_law_run
  b_law_run : Binds K f_law_run ["_law_rows", "_law_taken", "_law_run_here", "_law_ahead"] []
  g_law_run : mg "_law_run" = some (.ref a_law_run)
  a_law : Addr
  f_law : FuncData
  F_law : Fun K "law" "law" s_law a_law f_law
  b_law : Binds K f_law ["_law_script"] []
  g_law : mg "law" = some (.ref a_law)
  m_bool : mg "bool" = none
  m_dict : mg "dict" = none
  m_enumerate : mg "enumerate" = none
  m_int : mg "int" = none
  m_isinstance : mg "isinstance" = none
  m_len : mg "len" = none
  m_list : mg "list" = none
  m_range : mg "range" = none
  m_sum : mg "sum" = none
  m_tuple : mg "tuple" = none
  u_GAP : Value
  h_GAP : mg "GAP" = some u_GAP
  r_GAP : RelV (.str ".") u_GAP
  u_SEAT : Value
  h_SEAT : mg "SEAT" = some u_SEAT
  r_SEAT : RelV (.str "o") u_SEAT
/-! ### the k-th number of the script, or nought -/
def cellAt (ns : List Int) (k : Int) : Int := if k < (ns.length : Int) then ns.getD k.toNat 0 else 0
def pre_law_cell_at : Pre := fun ds R o => ∃ (a : Addr) (ns : List Int) (k : Int), ds = [.ref a, .int k] ∧ R = [(a, .scr ns)] ∧ 0 ≤ k ∧ o = .ret (.int (cellAt ns k))
theorem p_law_cell_at {c : Ct} {G : Res} {ρ : En} {ta tb : TE} {a : Addr} {ns : List Int} {k : Int} {E : XK} (ha : EvP c G ρ ta (.ref a)) (m : (a, .scr ns) ∈ c.S ∨ (a, .scr ns) ∈ G) (hb : EvP c G ρ tb (.int k)) (h0 : 0 ≤ k) :
    EvP c G ρ (tCall (spD c.K pre_law_cell_at) [] E (tCons ta (tCons tb tNil))) (.int (cellAt ns k)) :=
  p_call (a_cons ha (a_cons hb a_nil)) (R := [(a, .scr ns)]) (fun x hx => by rcases List.mem_singleton.mp hx with rfl; exact m) ⟨a, ns, k, rfl, rfl, h0, rfl⟩
theorem ok_law_cell_at {P : Program} {w : World} {K : PySem.W.Frag} {mg : Str → Option Value} {base : Heap} (T : Top K mg) : FnOk P w K mg base CX0 1 T.a_law_cell_at T.f_law_cell_at ["_law_script", "_law_k"] (spD K pre_law_cell_at) := by
  refine fnOk T.F_law_cell_at sc_law_cell_at (fun ds R o h => by obtain ⟨a, ns, k, rfl, _⟩ := h; rfl) fun ds R o h cdv A outer s H E hr => ?_
  obtain ⟨a, ns, k, rfl, rfl, hk, rfl⟩ := h
  refine ⟨_, (pss_cons (ps_if (pt_cmpR op_lt (pv 1) (pe_callB call_len_seq (by rfl) T.m_len PySem.boot_len (pa_cons (pv 0) pa_nil)) (nomark _))
  (pss_one (ps_ret (pe_ix ix_list (pv 0) (pv 1) (fun _ _ => rfl))))
  pss_nil)
  (pss_one (ps_ret pe_int))), fun F Q post => ?_⟩
  walk_at "go"
  walk_at "when" <;> intro hb
  · have hb' : k < (ns.length : Int) := by simpa using hb
    have hg : ns[k.toNat]? = some (ns.getD k.toNat 0) := by rw [List.getD_eq_getElem?_getD, List.getElem?_eq_getElem (by omega)]; rfl
    have hat : atI ns k = some (cellAt ns k) := by rw [cellAt, if_pos hb']; exact at_n hk hg
    refine sx_ret (d := .int (cellAt ns k)) ?_ post
    walk_at "pv"
  · have hb' : ¬ k < (ns.length : Int) := by simpa using hb
    refine sx_ret (d := .int (cellAt ns k)) ?_ post
    rw [cellAt, if_neg hb']
    walk_at "pv"
local macro_rules | `(tactic| walk_at "pv") => `(tactic| ((with_reducible apply p_law_cell_at) <;> (try walk_at "pv")))

/-! ### a whole number -/
def pre_law_whole : Pre := fun ds R o => ∃ i : Int, ds = [.int i] ∧ R = [] ∧ o = .ret (.bl true)
theorem p_law_whole {c : Ct} {G : Res} {ρ : En} {ta : TE} {i : Int} {E : XK} (ha : EvP c G ρ ta (.int i)) : EvP c G ρ (tCall (spD c.K pre_law_whole) [] E (tCons ta tNil)) (.bl true) :=
  p_call (a_cons ha a_nil) (R := []) (fun x hx => nomatch hx) ⟨i, rfl, rfl, rfl⟩
theorem ok_law_whole {P : Program} {w : World} {K : PySem.W.Frag} {mg : Str → Option Value} {base : Heap} (T : Top K mg) : FnOk P w K mg base CX0 1 T.a_law_whole T.f_law_whole ["_law_found"] (spD K pre_law_whole) := by
  refine fnOk T.F_law_whole sc_law_whole (fun ds R o h => by obtain ⟨i, rfl, _⟩ := h; rfl) fun ds R o h cdv A outer s H E hr => ?_
  obtain ⟨i, rfl, rfl, rfl⟩ := h
  refine ⟨_, (pss_one (ps_ret (pe_and (pe_callB call_isi (by rfl) T.m_isinstance PyProof.Rows.boot_isinstance (pa_cons (pv 0) (pa_cons (pe_bltn (v := .ty "int") (by rfl) T.m_int PyProof.Rows.boot_int rfl) pa_nil))) (pe_one (pe_not (pe_callB call_isi (by rfl) T.m_isinstance PyProof.Rows.boot_isinstance (pa_cons (pv 0) (pa_cons (pe_bltn (v := .ty "bool") (by rfl) T.m_bool PyProof.Rows.boot_bool rfl) pa_nil)))))))), fun F Q post => ?_⟩
  walk_at "go"
  walk_at "ret"
  rfl
local macro_rules | `(tactic| walk_at "pv") => `(tactic| ((with_reducible apply p_law_whole) <;> (try walk_at "pv")))

/-! ### texts as lists of codes -/
def sOf (l : List Nat) : Str := ⟨l.toArray⟩
theorem sOf_len (l : List Nat) : (sOf l).length = l.length := by show l.toArray.size = _; simp
theorem sOf_app (l m : List Nat) : sOf l ++ sOf m = sOf (l ++ m) := by
  show Str.mk (l.toArray ++ m.toArray) = Str.mk (l ++ m).toArray
  simp
theorem sOf_nil : ("" : Str) = sOf [] := by decide +kernel
theorem sOf_o : ("o" : Str) = sOf [111] := by decide +kernel
theorem sOf_dot : ("." : Str) = sOf [46] := by decide +kernel
theorem sOf_cps (l : List Nat) : (sOf l).cps.toList = l := by simp [sOf]
theorem sOf_inj {l m : List Nat} : sOf l = sOf m ↔ l = m := by
  constructor
  · intro h
    have := congrArg (fun s : Str => s.cps.toList) h
    simpa [sOf] using this
  · intro h; rw [h]
theorem of_sOf (s : Str) : sOf s.cps.toList = s := by cases s; simp [sOf]
theorem cut_len (s : Str) (lo hi : Option Int) : (cutS s lo hi).length ≤ s.length := by
  show (((s.cps.toList.drop _).take _).toArray).size ≤ s.cps.size
  simp
  omega
theorem cut_mem (s : Str) (lo hi : Option Int) : ∀ c ∈ (cutS s lo hi).cps.toList, c ∈ s.cps.toList := by
  intro c hc
  have h : c ∈ (s.cps.toList.drop (HT.sIx s.length 0 lo)).take (HT.sIx s.length s.length hi - HT.sIx s.length 0 lo) := by
    have : (cutS s lo hi).cps.toList = (s.cps.toList.drop (HT.sIx s.length 0 lo)).take (HT.sIx s.length s.length hi - HT.sIx s.length 0 lo) := by
      unfold cutS; rfl
    rwa [this] at hc
  exact List.mem_of_mem_drop (List.mem_of_mem_take h)

/-! ### a row by a number -/
def rowN (n0 : Int) : Int := n0 * 48271 % 2147483647
def rowMany (n : Int) : Int := if n / 12 % 9 = 1 then 60 - n / 108 % 3 else n % 12
def rowSign (n : Int) (p : Nat) : Nat := if (n / 15876 % 3 > 0 ∧ ((p : Int) + n / 2268) % (2 + n / 324 % 7) = 0) ∨ (p : Int) * (p : Int) % 11 = n / 47628 % 13 then 46 else 111
def rowUpTo (n : Int) (i : Nat) : Str := sOf ((List.range i).map (rowSign n))
def rowBy (n0 : Int) : Str := rowUpTo (rowN n0) (rowMany (rowN n0)).toNat
theorem rowMany_le (n : Int) : 0 ≤ rowMany n ∧ rowMany n ≤ 60 := by unfold rowMany; split <;> omega
theorem rowUpTo_len (n : Int) (i : Nat) : (rowUpTo n i).length = i := by rw [rowUpTo, sOf_len]; simp
theorem rowUpTo_succ (n : Int) (i : Nat) : rowUpTo n (i + 1) = rowUpTo n i ++ sOf [rowSign n i] := by
  rw [rowUpTo, rowUpTo, sOf_app, List.range_succ, List.map_append]; rfl
theorem rowBy_len (n : Int) : (rowBy n).length ≤ 60 := by
  rw [rowBy, rowUpTo_len]; have := rowMany_le (rowN n); omega
/-- a row of a hall: at most sixty signs, seats and gaps -/
def GoodRow (s : Str) : Prop := s.length ≤ 60 ∧ ∀ c ∈ s.cps.toList, c = 111 ∨ c = 46
theorem rowBy_good (n : Int) : GoodRow (rowBy n) := by
  refine ⟨rowBy_len n, fun c hc => ?_⟩
  rw [rowBy, rowUpTo, sOf_cps] at hc
  obtain ⟨p, _, rfl⟩ := List.mem_map.mp hc
  unfold rowSign
  split
  · exact .inr rfl
  · exact .inl rfl
def pre_law_row_by : Pre := fun ds R o => ∃ n : Int, ds = [.int n] ∧ R = [] ∧ o = .ret (.str (rowBy n))
theorem p_law_row_by {c : Ct} {G : Res} {ρ : En} {ta : TE} {n : Int} {E : XK} (ha : EvP c G ρ ta (.int n)) : EvP c G ρ (tCall (spD c.K pre_law_row_by) [] E (tCons ta tNil)) (.str (rowBy n)) :=
  p_call (a_cons ha a_nil) (R := []) (fun x hx => nomatch hx) ⟨n, rfl, rfl, rfl⟩
theorem ok_law_row_by {P : Program} {w : World} {K : PySem.W.Frag} {mg : Str → Option Value} {base : Heap} (T : Top K mg) : FnOk P w K mg base CX0 1 T.a_law_row_by T.f_law_row_by ["_law_n"] (spD K pre_law_row_by) := by
  refine fnOk T.F_law_row_by sc_law_row_by (fun ds R o h => by obtain ⟨n, rfl, _⟩ := h; rfl) fun ds R o h cdv A outer s H E hr => ?_
  obtain ⟨n0, rfl, rfl, rfl⟩ := h
  refine ⟨_, (pss_cons (ps_set (i := 0) sc_law_row_by.nd rfl (Or.inl rfl) (pe_op op_mod (pe_op op_mul (pv 0) pe_int) pe_int))
  (pss_cons (ps_set (i := 1) sc_law_row_by.nd rfl (Or.inl rfl) (pe_op op_mod (pv 0) pe_int))
  (pss_cons (ps_if (pt_cmpR op_eq (pe_op op_mod (pe_op op_fdiv (pv 0) pe_int) pe_int) pe_int (nomark _))
  (pss_one (ps_set (i := 1) sc_law_row_by.nd rfl (Or.inl rfl) (pe_op op_sub pe_int (pe_op op_mod (pe_op op_fdiv (pv 0) pe_int) pe_int))))
  pss_nil)
  (pss_cons (ps_set (i := 2) sc_law_row_by.nd rfl (Or.inl rfl) (pe_op op_add pe_int (pe_op op_mod (pe_op op_fdiv (pv 0) pe_int) pe_int)))
  (pss_cons (ps_set (i := 3) sc_law_row_by.nd rfl (Or.inl rfl) pe_str)
  (pss_cons (ps_for PassesOwn.never rfl (pi_range1 (by rfl) T.m_range (pa_cons (pv 1) pa_nil)) (pg_name (i := 4) sc_law_row_by.nd rfl (Or.inl rfl))
  (pss_one (ps_if (PW.pt (pw_or (PW.pt (pw_and (pt_cmpR op_gt (pe_op op_mod (pe_op op_fdiv (pv 0) pe_int) pe_int) pe_int (nomark _)) (pw_and1 (pt_cmpR op_eq (pe_op op_mod (pe_op op_add (pv 4) (pe_op op_fdiv (pv 0) pe_int)) (pv 2)) pe_int (nomark _))))) (pw_or1 (pt_cmpR op_eq (pe_op op_mod (pe_op op_mul (pv 4) (pv 4)) pe_int) (pe_op op_mod (pe_op op_fdiv (pv 0) pe_int) pe_int) (nomark _)))))
  (pss_one (ps_set (i := 3) sc_law_row_by.nd rfl (Or.inl rfl) (pe_op op_add_str (pv 3) pe_str)))
  (pss_one (ps_set (i := 3) sc_law_row_by.nd rfl (Or.inl rfl) (pe_op op_add_str (pv 3) pe_str))))))
  (pss_one (ps_ret (pv 3))))))))), fun F Q post => ?_⟩
  walk_at "go"
  walk_at "asg"
  walk_at "asg"
  have hn : ∃ n, n = n0 * 48271 % 2147483647 := ⟨_, rfl⟩
  obtain ⟨n, hn⟩ := hn
  rw [← hn]
  have e0 : rowN n0 = n := hn.symm
  have hn0 : 0 ≤ n := by omega
  have hm := rowMany_le n
  apply sx_ifAsg (d := .int (rowMany n))
  · walk_at "pv"
  · intro hb
    have hb' : n / 12 % 9 = 1 := by simpa using hb
    have e : rowMany n = 60 - n / 108 % 3 := by unfold rowMany; rw [if_pos hb']
    rw [e]
    walk_at "pv"
  · intro hb
    have hb' : ¬ n / 12 % 9 = 1 := by simpa using hb
    have e : rowMany n = n % 12 := by unfold rowMany; rw [if_neg hb']
    rw [e]
    walk_at "le"
  walk_at "nrm"
  walk_at "asg"
  walk_at "asg"
  refine sx_forR (lo := 0) (n := (rowMany n).toNat) (fun _ => []) (fun i => [some (.int n), some (.int (rowMany n)), some (.int (2 + n / 324 % 7)), some (.str (rowUpTo n i)), none]) ?_ rfl ⟨rfl, rfl, rfl, ?_, trivial⟩ (fun i hi S' hS => ?_) ?_
  · walk_at "pv"
  · rw [sOf_nil]; rfl
  · rw [Int.zero_add]
    walk_at "nrm"
    have hl : (rowUpTo n i).length = i := rowUpTo_len n i
    have h1 : ("." : Str).length = 1 := by decide +kernel
    have h2 : ("o" : Str).length = 1 := by decide +kernel
    walk_at "if1" <;> intro hb
    · have hs : rowSign n i = 46 := by
        unfold rowSign
        rw [if_pos]
        simpa using hb
      walk_at "last"
      walk_at "asg"
      walk_at "end"
      · rfl
      · rw [rowUpTo_succ, hs, ← sOf_dot]
        exact ⟨rfl, rfl, rfl, rfl, trivial⟩
    · have hs : rowSign n i = 111 := by
        unfold rowSign
        rw [if_neg]
        simpa using hb
      walk_at "last"
      walk_at "asg"
      walk_at "end"
      · rfl
      · rw [rowUpTo_succ, hs, ← sOf_o]
        exact ⟨rfl, rfl, rfl, rfl, trivial⟩
  · refine sx_ret (p_var rfl) ?_
    rw [rowBy, e0] at post
    exact post
local macro_rules | `(tactic| walk_at "pv") => `(tactic| ((with_reducible apply p_law_row_by) <;> (try walk_at "pv")))

/-! ### a hall by a script -/
def hallMany (ns : List Int) (k : Int) : Int := if cellAt ns k / 5 % 11 = 1 then 40 else 1 + cellAt ns k % 5
def hallN (ns : List Int) (k : Int) (j : Nat) : Int := cellAt ns (k + 1 + (j : Int) % 3) + 7919 * ((j : Int) / 3)
def hallRow (ns : List Int) (k : Int) (j : Nat) : Str := if hallMany ns k = 40 then cutS (rowBy (hallN ns k j)) none (some 11) else rowBy (hallN ns k j)
def hallBy (ns : List Int) (k : Int) : List Str := (List.range (hallMany ns k).toNat).map (hallRow ns k)
theorem hallMany_le (ns : List Int) (k : Int) : 1 ≤ hallMany ns k ∧ hallMany ns k ≤ 40 := by unfold hallMany; split <;> omega
/-- a hall: one to forty good rows -/
def GoodHall (rows : List Str) : Prop := 1 ≤ rows.length ∧ rows.length ≤ 40 ∧ ∀ r ∈ rows, GoodRow r
theorem hallBy_good (ns : List Int) (k : Int) : GoodHall (hallBy ns k) := by
  have h := hallMany_le ns k
  have hl : (hallBy ns k).length = (hallMany ns k).toNat := by simp [hallBy]
  refine ⟨by omega, by omega, fun r hr => ?_⟩
  obtain ⟨j, _, rfl⟩ := List.mem_map.mp hr
  have g := rowBy_good (hallN ns k j)
  unfold hallRow
  split
  · exact ⟨Nat.le_trans (cut_len _ _ _) g.1, fun c hc => g.2 c (cut_mem _ _ _ c hc)⟩
  · exact g
theorem hallBy_up (ns : List Int) (k : Int) (i : Nat) : ((List.range (i + 1)).map (hallRow ns k)).map D.str = ((List.range i).map (hallRow ns k)).map D.str ++ [D.str (hallRow ns k i)] := by
  rw [List.range_succ, List.map_append, List.map_append]; rfl
def pre_law_hall_by : Pre := fun ds R o => ∃ (a : Addr) (ns : List Int) (k : Int), ds = [.ref a, .int k] ∧ R = [(a, .scr ns)] ∧ 0 ≤ k ∧ o = .new (.lst ((hallBy ns k).map D.str))
theorem n_law_hall_by {c : Ct} {G : Res} {ρ : En} {ta tb : TE} {a : Addr} {ns : List Int} {k : Int} {E : XK} (ha : EvP c G ρ ta (.ref a)) (m : (a, .scr ns) ∈ c.S ∨ (a, .scr ns) ∈ G) (hb : EvP c G ρ tb (.int k)) (h0 : 0 ≤ k) :
    EvN c G ρ (tCall (spD c.K pre_law_hall_by) [] E (tCons ta (tCons tb tNil))) (.lst ((hallBy ns k).map D.str)) :=
  n_call (a_cons ha (a_cons hb a_nil)) (R := [(a, .scr ns)]) (fun x hx => by rcases List.mem_singleton.mp hx with rfl; exact m) ⟨a, ns, k, rfl, rfl, h0, rfl⟩ fun _ e => nomatch e
theorem ok_law_hall_by {P : Program} {w : World} {K : PySem.W.Frag} {mg : Str → Option Value} {base : Heap} (T : Top K mg) : FnOk P w K mg base CX0 2 T.a_law_hall_by T.f_law_hall_by ["_law_script", "_law_k"] (spD K pre_law_hall_by) := by
  refine fnOk T.F_law_hall_by sc_law_hall_by (fun ds R o h => by obtain ⟨a, ns, k, rfl, _⟩ := h; rfl) fun ds R o h cdv A outer s H E hr => ?_
  obtain ⟨a, ns, k, rfl, rfl, hk, rfl⟩ := h
  have hm := hallMany_le ns k
  refine ⟨_, (pss_cons (ps_set (i := 2) sc_law_hall_by.nd rfl (Or.inl rfl) (pe_op op_add pe_int (pe_op op_mod (pe_call (ok_law_cell_at T) (hr.mono (by decide)) (by rfl) T.g_law_cell_at T.F_law_cell_at.kp T.b_law_cell_at .nil pass0 (pa_cons (pv 0) (pa_cons (pv 1) pa_nil))) pe_int)))
  (pss_cons (ps_if (pt_cmpR op_eq (pe_op op_mod (pe_op op_fdiv (pe_call (ok_law_cell_at T) (hr.mono (by decide)) (by rfl) T.g_law_cell_at T.F_law_cell_at.kp T.b_law_cell_at .nil pass0 (pa_cons (pv 0) (pa_cons (pv 1) pa_nil))) pe_int) pe_int) pe_int (nomark _))
  (pss_one (ps_set (i := 2) sc_law_hall_by.nd rfl (Or.inl rfl) pe_int))
  pss_nil)
  (pss_cons (ps_set (i := 3) sc_law_hall_by.nd rfl (Or.inl rfl) (pe_lst pa_nil))
  (pss_cons (ps_for PassesOwn.never rfl (pi_range1 (by rfl) T.m_range (pa_cons (pv 2) pa_nil)) (pg_name (i := 4) sc_law_hall_by.nd rfl (Or.inl rfl))
  (pss_cons (ps_set (i := 5) sc_law_hall_by.nd rfl (Or.inl rfl) (pe_op op_add (pe_call (ok_law_cell_at T) (hr.mono (by decide)) (by rfl) T.g_law_cell_at T.F_law_cell_at.kp T.b_law_cell_at .nil pass0 (pa_cons (pv 0) (pa_cons (pe_op op_add (pe_op op_add (pv 1) pe_int) (pe_op op_mod (pv 4) pe_int)) pa_nil))) (pe_op op_mul pe_int (pe_op op_fdiv (pv 4) pe_int))))
  (pss_one (ps_if (pt_cmpR op_eq (pv 2) pe_int (nomark _))
  (pss_one (ps_expr (pe_bm PySem.F.plainAttrs_list PySem.F.slot_list_append PySem.F.type_list_append mt_append (pv 3) (pa_cons (pe_slice sl_str (pe_call (ok_law_row_by T) (hr.mono (by decide)) (by rfl) T.g_law_row_by T.F_law_row_by.kp T.b_law_row_by .nil pass0 (pa_cons (pv 5) pa_nil)) po_none (po_some pe_int)) pa_nil))))
  (pss_one (ps_expr (pe_bm PySem.F.plainAttrs_list PySem.F.slot_list_append PySem.F.type_list_append mt_append (pv 3) (pa_cons (pe_call (ok_law_row_by T) (hr.mono (by decide)) (by rfl) T.g_law_row_by T.F_law_row_by.kp T.b_law_row_by .nil pass0 (pa_cons (pv 5) pa_nil)) pa_nil))))))))
  (pss_one (ps_ret (pv 3))))))), fun F Q post => ?_⟩
  walk_at "go"
  walk_at "asg"
  apply sx_ifAsg (d := .int (hallMany ns k))
  · walk_at "pv"
  · intro hb
    have hb' : cellAt ns k / 5 % 11 = 1 := by simpa using hb
    rw [show hallMany ns k = 40 by unfold hallMany; rw [if_pos hb']]
    walk_at "pv"
  · intro hb
    have hb' : ¬ cellAt ns k / 5 % 11 = 1 := by simpa using hb
    rw [show hallMany ns k = 1 + cellAt ns k % 5 by unfold hallMany; rw [if_neg hb']]
    walk_at "le"
  walk_at "nrm"
  walk_at "own"
  intro p
  walk_at "nrm"
  refine sx_forR (lo := 0) (n := (hallMany ns k).toNat) (fun i => [(p, .lst (((List.range i).map (hallRow ns k)).map D.str))]) (fun i => [some (.ref a), some (.int k), some (.int (hallMany ns k)), some (.ref p), none, none]) ?_ rfl ⟨rfl, rfl, rfl, rfl, trivial⟩ (fun i hi S' hS => ?_) ?_
  · walk_at "pv"
  · have ha : (a, D.scr ns) ∈ S' := hS _ List.mem_cons_self
    have hlen : (((List.range i).map (hallRow ns k)).map D.str).length < 100000 := by simp; omega
    have hz := rowBy_len (hallN ns k i)
    have hz' : (rowBy (hallN ns k i)).length ≤ 100000 := by omega
    rw [Int.zero_add]
    walk_at "nrm"
    apply sx_asg (d := .int (hallN ns k i))
    · have e : hallN ns k i = cellAt ns (k + 1 + (i : Int) % 3) + 7919 * ((i : Int) / 3) := rfl
      rw [e]
      walk_at "pv"
    walk_at "nrm"
    walk_at "last"
    walk_at "if" <;> intro hb
    · have hb' : hallMany ns k = 40 := by simpa using hb
      have hv : hallRow ns k i = cutS (rowBy (hallN ns k i)) none (some 11) := by unfold hallRow; rw [if_pos hb']
      walk_at "last"
      walk_at "app"
      · exact hlen
      walk_at "into"
      walk_at "end"
      · rw [hallBy_up, hv]; rfl
      · walk_at "le"
    · have hb' : ¬ hallMany ns k = 40 := by simpa using hb
      have hv : hallRow ns k i = rowBy (hallN ns k i) := by unfold hallRow; rw [if_neg hb']
      walk_at "last"
      walk_at "app"
      · exact hlen
      walk_at "into"
      walk_at "end"
      · rw [hallBy_up, hv]; rfl
      · walk_at "le"
  · refine sx_retG (p_var rfl) List.mem_cons_self post
local macro_rules | `(tactic| walk_at "pv") => `(tactic| ((with_reducible apply n_law_hall_by) <;> (try walk_at "pv")))

/-! ### seats -/
def signAt (rows : List Str) (r p : Int) : Option Nat := if 0 ≤ r ∧ 0 ≤ p then (rows[r.toNat]?).bind fun s => s.cps.toList[p.toNat]? else none
def isSeat (rows : List Str) (r p : Int) : Bool := signAt rows r p == some 111
theorem isSeat_row {rows : List Str} {r p : Int} (h : ¬ (0 ≤ r ∧ r < (rows.length : Int))) : isSeat rows r p = false := by
  unfold isSeat signAt
  split
  · rename_i g
    rw [List.getElem?_eq_none (by omega)]
    rfl
  · rfl
theorem isSeat_place {rows : List Str} {r p : Int} {s : Str} (hs : rows[r.toNat]? = some s) (h : ¬ (0 ≤ p ∧ p < (s.length : Int))) : isSeat rows r p = false := by
  unfold isSeat signAt
  split
  · rename_i g
    rw [hs]
    show (s.cps.toList[p.toNat]? == some 111) = false
    rw [List.getElem?_eq_none (by have : s.cps.toList.length = s.length := by simp [PySem.Str.length]
                                  omega)]
    rfl
  · rfl
theorem isSeat_at {rows : List Str} {r p : Int} {s : Str} {c : Nat} (h0 : 0 ≤ r) (hs : rows[r.toNat]? = some s) (h1 : 0 ≤ p) (hc : s.cps.toList[p.toNat]? = some c) : isSeat rows r p = decide (c = 111) := by
  unfold isSeat signAt
  rw [if_pos ⟨h0, h1⟩, hs]
  show (s.cps.toList[p.toNat]? == some 111) = _
  rw [hc]
  by_cases e : c = 111
  · subst e; rfl
  · rw [decide_eq_false e]; simp [e]
theorem at_sign {s : Str} {i : Int} {c : Nat} (h0 : 0 ≤ i) (h : s.cps.toList[i.toNat]? = some c) : atI s.cps.toList i = some c := by
  have e : i = ((i.toNat : Nat) : Int) := by omega
  rw [e]
  exact atI_nat h
theorem cps_len (s : Str) : s.cps.toList.length = s.length := by simp [PySem.Str.length]
theorem sOf_one (c : Nat) : (⟨#[c]⟩ : Str) = sOf [c] := rfl
theorem sign_o (c : Nat) : decide ((⟨#[c]⟩ : Str) = ("o" : Str)) = decide (c = 111) := by
  rw [sOf_o, sOf_one]
  exact decide_eq_decide.mpr (sOf_inj.trans (by simp))
/-- rows of at most sixty signs -/
def Short (rows : List Str) : Prop := ∀ s ∈ rows, s.length ≤ 100
theorem Short.at {rows : List Str} (h : Short rows) {i : Nat} {s : Str} (e : rows[i]? = some s) : s.length ≤ 100000 := by
  have := h s (List.mem_of_getElem? e); omega
theorem GoodHall.short {rows : List Str} (h : GoodHall rows) : Short rows := fun s hs => by have := (h.2.2 s hs).1; omega

/-! ### runs of places side by side where f holds: first place, how many -/
def scanP (f : Nat → Bool) : Nat → List (Nat × Nat) × Nat
  | 0 => ([], 0)
  | i + 1 => if f i = true then ((scanP f i).1, (scanP f i).2 + 1) else if 0 < (scanP f i).2 then ((scanP f i).1 ++ [(i - (scanP f i).2, (scanP f i).2)], 0) else scanP f i
theorem scanP_one {f : Nat → Bool} {i : Nat} (h : f i = true) : scanP f (i + 1) = ((scanP f i).1, (scanP f i).2 + 1) := by
  show (if f i = true then _ else _) = _
  rw [if_pos h]
theorem scanP_cut {f : Nat → Bool} {i : Nat} (h : ¬ f i = true) (h0 : 0 < (scanP f i).2) : scanP f (i + 1) = ((scanP f i).1 ++ [(i - (scanP f i).2, (scanP f i).2)], 0) := by
  show (if f i = true then _ else if 0 < (scanP f i).2 then _ else _) = _
  rw [if_neg h, if_pos h0]
theorem scanP_stay {f : Nat → Bool} {i : Nat} (h : ¬ f i = true) (h0 : ¬ 0 < (scanP f i).2) : scanP f (i + 1) = scanP f i := by
  show (if f i = true then _ else if 0 < (scanP f i).2 then _ else _) = _
  rw [if_neg h, if_neg h0]
def RunOk (f : Nat → Bool) (b : Nat × Nat) : Prop := 1 ≤ b.2 ∧ (∀ j, b.1 ≤ j → j < b.1 + b.2 → f j = true) ∧ (b.1 = 0 ∨ f (b.1 - 1) = false) ∧ f (b.1 + b.2) = false
structure ScanOk (f : Nat → Bool) (i : Nat) (st : List (Nat × Nat) × Nat) : Prop where
  le : st.2 ≤ i
  ins : ∀ j, i - st.2 ≤ j → j < i → f j = true
  left : i - st.2 = 0 ∨ f (i - st.2 - 1) = false
  ok : ∀ b ∈ st.1, RunOk f b
  lt : ∀ b ∈ st.1, b.1 + b.2 + 1 ≤ i - st.2
  up : st.1.Pairwise fun b c => b.1 + b.2 < c.1
  sum : (st.1.map (·.2)).sum + st.2 = ((List.range i).filter f).length
  all : ∀ j, j < i - st.2 → f j = true → ∃ b ∈ st.1, b.1 ≤ j ∧ j < b.1 + b.2
theorem scanP_ok (f : Nat → Bool) : ∀ i, ScanOk f i (scanP f i)
  | 0 => ⟨Nat.le_refl _, fun j _ h => by omega, .inl rfl, fun b h => by simp [scanP] at h, fun b h => by simp [scanP] at h, by simp [scanP], rfl, fun j h => by omega⟩
  | i + 1 => by
    have k := scanP_ok f i
    have hr : (List.range (i + 1)).filter f = (List.range i).filter f ++ (if f i = true then [i] else []) := by
      rw [List.range_succ, List.filter_append]
      congr 1
      by_cases h : f i = true <;> simp [h]
    have hle := k.le
    unfold scanP
    by_cases hf : f i = true
    · rw [if_pos hf]
      refine ⟨?_, fun j h1 h2 => ?_, ?_, k.ok, fun b hb => ?_, k.up, ?_, fun j h1 h2 => ?_⟩
      · show (scanP f i).2 + 1 ≤ i + 1; omega
      · have h1' : i + 1 - ((scanP f i).2 + 1) ≤ j := h1
        by_cases e : j = i
        · rw [e]; exact hf
        · exact k.ins j (by omega) (by omega)
      · show i + 1 - ((scanP f i).2 + 1) = 0 ∨ f (i + 1 - ((scanP f i).2 + 1) - 1) = false
        rw [show i + 1 - ((scanP f i).2 + 1) = i - (scanP f i).2 by omega]
        exact k.left
      · show b.1 + b.2 + 1 ≤ i + 1 - ((scanP f i).2 + 1)
        have := k.lt b hb; omega
      · have := k.sum
        rw [hr, if_pos hf, List.length_append, ← this]
        show ((scanP f i).1.map (·.2)).sum + ((scanP f i).2 + 1) = ((scanP f i).1.map (·.2)).sum + (scanP f i).2 + 1
        omega
      · have h1' : j < i + 1 - ((scanP f i).2 + 1) := h1
        exact k.all j (by omega) h2
    · have hff : f i = false := by simpa using hf
      rw [if_neg hf]
      by_cases h0 : 0 < (scanP f i).2
      · rw [if_pos h0]
        refine ⟨Nat.zero_le _, fun j h1 h2 => ?_, .inr ?_, fun b hb => ?_, fun b hb => ?_, ?_, ?_, fun j h1 h2 => ?_⟩
        · have h1' : i + 1 - 0 ≤ j := h1
          omega
        · show f (i + 1 - 0 - 1) = false
          exact hff
        · rcases List.mem_append.mp hb with hb | hb
          · exact k.ok b hb
          · obtain rfl := List.mem_singleton.mp hb
            refine ⟨h0, fun j h1 h2 => ?_, k.left, ?_⟩
            · have h1' : i - (scanP f i).2 ≤ j := h1
              have h2' : j < i - (scanP f i).2 + (scanP f i).2 := h2
              exact k.ins j h1' (by omega)
            · show f (i - (scanP f i).2 + (scanP f i).2) = false
              rw [show i - (scanP f i).2 + (scanP f i).2 = i by omega]
              exact hff
        · rcases List.mem_append.mp hb with hb | hb
          · have := k.lt b hb
            show b.1 + b.2 + 1 ≤ i + 1 - 0
            omega
          · obtain rfl := List.mem_singleton.mp hb
            show i - (scanP f i).2 + (scanP f i).2 + 1 ≤ i + 1 - 0
            omega
        · refine List.pairwise_append.mpr ⟨k.up, by simp, fun b hb c hc => ?_⟩
          obtain rfl := List.mem_singleton.mp hc
          have := k.lt b hb
          show b.1 + b.2 < i - (scanP f i).2
          omega
        · have := k.sum
          rw [hr, if_neg hf, List.append_nil, ← this]
          simp
        · have h1' : j < i + 1 - 0 := h1
          by_cases hj : j < i - (scanP f i).2
          · obtain ⟨b, hb, h3⟩ := k.all j hj h2
            exact ⟨b, List.mem_append_left _ hb, h3⟩
          · by_cases e : j = i
            · rw [e, hff] at h2; cases h2
            · exact ⟨_, List.mem_append_right _ (List.mem_singleton.mpr rfl), by show i - (scanP f i).2 ≤ j; omega, by show j < i - (scanP f i).2 + (scanP f i).2; omega⟩
      · rw [if_neg h0]
        have h00 : (scanP f i).2 = 0 := by omega
        refine ⟨by omega, fun j h1 h2 => by omega, .inr ?_, k.ok, fun b hb => ?_, k.up, ?_, fun j h1 h2 => ?_⟩
        · rw [h00]; exact hff
        · have := k.lt b hb; omega
        · have := k.sum
          rw [hr, if_neg hf, List.append_nil, ← this]
        · rw [h00] at h1
          by_cases e : j = i
          · rw [e, hff] at h2; cases h2
          · exact k.all j (by omega) h2
/-- all runs among the first n places -/
def runsP (f : Nat → Bool) (n : Nat) : List (Nat × Nat) := (scanP f (n + 1)).1
structure RunsOk (f : Nat → Bool) (n : Nat) (l : List (Nat × Nat)) : Prop where
  ok : ∀ b ∈ l, RunOk f b
  lt : ∀ b ∈ l, b.1 + b.2 ≤ n
  up : l.Pairwise fun b c => b.1 + b.2 < c.1
  sum : (l.map (·.2)).sum = ((List.range n).filter f).length
  all : ∀ j, j < n → f j = true → ∃ b ∈ l, b.1 ≤ j ∧ j < b.1 + b.2
theorem runsP_ok {f : Nat → Bool} {n : Nat} (h : f n = false) : RunsOk f n (runsP f n) := by
  have k := scanP_ok f (n + 1)
  have h0 : (scanP f (n + 1)).2 = 0 := by
    by_cases e : (scanP f (n + 1)).2 = 0
    · exact e
    · have := k.ins n (by omega) (by omega)
      rw [h] at this; cases this
  refine ⟨k.ok, fun b hb => ?_, k.up, ?_, fun j hj hf => ?_⟩
  · have := k.lt b hb; omega
  · have := k.sum
    rw [h0, Nat.add_zero] at this
    have e : (List.range (n + 1)).filter f = (List.range n).filter f := by
      rw [List.range_succ, List.filter_append]; simp [h]
    rw [e] at this
    exact this
  · exact k.all j (by omega) hf
/-- the place holds a seat -/
def seatP (s : Str) (i : Nat) : Bool := s.cps[i]? == some 111

/-! ### how often a sign stands in a text -/
theorem occ_one (x : Str) (c limit : Nat) : ∀ (l : List Nat) (st : Array Nat × Nat), (∀ i ∈ l, st.2 ≤ i) → l.Pairwise (· < ·) → st.1.size + l.length ≤ limit →
    (forIn l st (StrLaws.occBody x ⟨#[c]⟩ x.length limit)).run.fst.size = st.1.size + (l.filter fun i => x.cps.toList[i]? == some c).length
  | [], st, _, _, _ => by simp
  | i :: l, st, h1, h2, h3 => by
    rw [List.forIn_cons]
    unfold StrLaws.occBody
    have hp := List.pairwise_cons.mp h2
    have hi := h1 i (by simp)
    simp only [List.length_cons] at h3
    by_cases hc : x.cps.toList[i]? = some c
    · have hs := (StrLaws.subAt_one x c i).mpr hc
      rw [if_pos ⟨⟨⟨by omega, hi⟩, hs.1⟩, hs.2⟩]
      have ih := occ_one x c limit l (st.1.push i, i + (⟨#[c]⟩ : Str).length) (fun j hj => by
        have := hp.1 j hj
        show i + 1 ≤ j
        omega) hp.2 (by rw [Array.size_push]; omega)
      rw [List.filter_cons_of_pos (by rw [hc]; simp)]
      refine Eq.trans ih ?_
      rw [Array.size_push, List.length_cons]
      omega
    · rw [if_neg (fun q => hc ((StrLaws.subAt_one x c i).mp ⟨q.1.2, q.2⟩))]
      have ih := occ_one x c limit l (st.1, st.2) (fun j hj => h1 j (by simp [hj])) hp.2 (by show st.1.size + l.length ≤ limit; omega)
      rw [List.filter_cons_of_neg (by simpa using hc)]
      exact ih
theorem count_one (x : Str) (c : Nat) : Txt.count x ⟨#[c]⟩ = (((List.range x.length).filter fun i => x.cps.toList[i]? == some c).length : Nat) := by
  unfold Txt.count
  rw [StrLaws.occ_eq]
  have h := occ_one x c (x.length + 1) (List.range' 0 (x.length + 1 - 0)) (#[], 0) (fun _ _ => Nat.zero_le _) (by
    have := List.pairwise_lt_range' (s := 0) (n := x.length + 1)
    simpa using this) (by simp)
  rw [Array.length_toList]
  refine congrArg Nat.cast (Eq.trans h ?_)
  have e : List.range' 0 (x.length + 1 - 0) = List.range (x.length + 1) := by rw [List.range_eq_range']; simp
  rw [e, List.range_succ, List.filter_append]
  have hn : x.cps.toList[x.length]? = none := List.getElem?_eq_none (by rw [cps_len]; exact Nat.le_refl _)
  have e2 : ([x.length].filter fun i => x.cps.toList[i]? == some c) = [] := by
    apply List.filter_eq_nil_iff.mpr
    intro a ha
    obtain rfl := List.mem_singleton.mp ha
    rw [hn]; simp
  rw [e2, List.append_nil]
  simp
theorem count_o (s : Str) : Txt.count s ("o" : Str) = (((List.range s.length).filter (seatP s)).length : Nat) := by
  rw [sOf_o, ← sOf_one, count_one]
  have e : (fun i => s.cps.toList[i]? == some 111) = seatP s := by
    funext i; unfold seatP; simp
  rw [e]

/-- a run of a row -/
def bRun (row : Int) (b : Nat × Nat) : Rn := (row, (b.1 : Int), (b.2 : Int))
def tRun (t : Nat × Nat × Nat) : Rn := bRun (t.1 : Int) t.2
/-! ### the blocks of a hall, one by one -/
def hallTs (g : Str → List (Nat × Nat)) : Nat → List Str → List (Nat × Nat × Nat)
  | _, [] => []
  | k, s :: rs => (g s).map (fun b => (k, b)) ++ hallTs g (k + 1) rs
theorem hallTs_mem {g : Str → List (Nat × Nat)} : ∀ (rs : List Str) (k : Nat) (t : Nat × Nat × Nat), t ∈ hallTs g k rs → k ≤ t.1 ∧ ∃ s, rs[t.1 - k]? = some s ∧ t.2 ∈ g s
  | [], k, t, h => by simp [hallTs] at h
  | s :: rs, k, t, h => by
    rcases List.mem_append.mp h with h | h
    · obtain ⟨b, hb, rfl⟩ := List.mem_map.mp h
      exact ⟨Nat.le_refl _, s, by simp, hb⟩
    · obtain ⟨h1, s', h2, h3⟩ := hallTs_mem rs (k + 1) t h
      refine ⟨by omega, s', ?_, h3⟩
      rw [show t.1 - k = (t.1 - (k + 1)) + 1 by omega, List.getElem?_cons_succ]
      exact h2
theorem hallTs_up {g : Str → List (Nat × Nat)} (hg : ∀ s, (g s).Pairwise fun b c => b.1 + b.2 < c.1) : ∀ (rs : List Str) (k : Nat), (hallTs g k rs).Pairwise fun t u => t.1 < u.1 ∨ (t.1 = u.1 ∧ t.2.1 + t.2.2 < u.2.1)
  | [], k => by simp [hallTs]
  | s :: rs, k => by
    refine List.pairwise_append.mpr ⟨?_, hallTs_up hg rs (k + 1), fun t ht u hu => ?_⟩
    · exact List.pairwise_map.mpr ((hg s).imp fun h => .inr ⟨rfl, h⟩)
    · obtain ⟨b, _, rfl⟩ := List.mem_map.mp ht
      have := (hallTs_mem rs (k + 1) u hu).1
      exact .inl (by show k < u.1; omega)
theorem hallTs_sum {g : Str → List (Nat × Nat)} {f : Str → Nat} (hg : ∀ s, ((g s).map (·.2)).sum = f s) : ∀ (rs : List Str) (k : Nat), ((hallTs g k rs).map (·.2.2)).sum = (rs.map f).sum
  | [], k => rfl
  | s :: rs, k => by
    show ((((g s).map (fun b => (k, b))) ++ hallTs g (k + 1) rs).map (·.2.2)).sum = _
    rw [List.map_append, List.sum_append_nat, hallTs_sum hg rs (k + 1), List.map_map, List.map_cons, List.sum_cons, ← hg s]
    rfl
/-- seats of the rows -/
theorem isSeat_nat {rows : List Str} {r : Nat} {s : Str} (hs : rows[r]? = some s) (p : Nat) : isSeat rows (r : Int) (p : Int) = seatP s p := by
  unfold isSeat signAt seatP
  rw [if_pos ⟨by omega, by omega⟩]
  simp [hs]
theorem isSeat_neg {rows : List Str} {r p : Int} (h : p < 0) : isSeat rows r p = false := by
  unfold isSeat signAt
  rw [if_neg (by omega)]
  rfl
def blocksRow (s : Str) : List (Nat × Nat) := runsP (seatP s) s.length
theorem dot_at (s : Str) {i c : Nat} (h : (s ++ ("." : Str)).cps[i]? = some c) : decide (c = 111) = seatP s i := by
  have e : (s ++ ("." : Str)).cps.toList = s.cps.toList ++ [46] := by
    rw [sOf_dot, ← of_sOf s, sOf_app]; simp [sOf_cps]
  have h' : (s.cps.toList ++ [46])[i]? = some c := by rw [← e]; simpa using h
  unfold seatP
  have e2 : s.cps[i]? = s.cps.toList[i]? := by simp
  rw [e2]
  by_cases hi : i < s.cps.toList.length
  · rw [List.getElem?_append_left hi] at h'
    rw [h']
    by_cases q : c = 111
    · subst q; rfl
    · simp [q]
  · rw [List.getElem?_append_right (by omega)] at h'
    rw [List.getElem?_eq_none (by omega)]
    have : c = 46 := by
      have h3 := List.mem_of_getElem? h'
      simpa using h3
    subst this
    decide
theorem seatP_end (s : Str) : seatP s s.length = false := by
  unfold seatP
  rw [Array.getElem?_eq_none (by show s.cps.size ≤ s.length; exact Nat.le_refl _)]
  rfl
theorem blocksRow_ok (s : Str) : RunsOk (seatP s) s.length (blocksRow s) := runsP_ok (seatP_end s)
theorem runs_count {f : Nat → Bool} {n : Nat} {l : List (Nat × Nat)} (h : RunsOk f n l) : l.length ≤ n := by
  have h1 : l.length ≤ (l.map (·.2)).sum := by
    have hk := h.ok
    clear h
    induction l with
    | nil => simp
    | cons b r ih =>
      have := (hk b (by simp)).1
      have h2 := ih fun c hc => hk c (by simp [hc])
      simp
      omega
  rw [h.sum] at h1
  have := List.length_filter_le f (List.range n)
  simp at this
  omega
theorem hallTs_snoc (g : Str → List (Nat × Nat)) : ∀ (rs : List Str) (k : Nat) (s : Str), hallTs g k (rs ++ [s]) = hallTs g k rs ++ (g s).map (fun b => (k + rs.length, b))
  | [], k, s => by simp [hallTs]
  | r :: rs, k, s => by
    show (g r).map (fun b => (k, b)) ++ hallTs g (k + 1) (rs ++ [s]) = (g r).map (fun b => (k, b)) ++ hallTs g (k + 1) rs ++ _
    rw [hallTs_snoc g rs (k + 1) s, List.append_assoc]
    congr 2
    rw [show k + 1 + rs.length = k + (r :: rs).length by simp only [List.length_cons]; omega]
theorem hallTs_len {g : Str → List (Nat × Nat)} {n : Nat} : ∀ (rs : List Str) (k : Nat), (∀ s ∈ rs, (g s).length ≤ n) → (hallTs g k rs).length ≤ n * rs.length
  | [], _, _ => by simp [hallTs]
  | r :: rs, k, h => by
    have h1 := h r (by simp)
    have h2 := hallTs_len rs (k + 1) fun s hs => h s (by simp [hs])
    show ((g r).map (fun b => (k, b)) ++ hallTs g (k + 1) rs).length ≤ n * (rs.length + 1)
    rw [List.length_append, Nat.mul_add, List.length_map]
    omega
def hallRs (rows : List Str) : List Rn := (hallTs blocksRow 0 rows).map tRun
theorem hallRs_snoc (rs : List Str) (s : Str) : hallRs (rs ++ [s]) = hallRs rs ++ (blocksRow s).map (bRun (rs.length : Int)) := by
  unfold hallRs
  rw [hallTs_snoc, List.map_append, List.map_map, Nat.zero_add]
  rfl

/-! ### the blocks of a row -/
def pre_blocks_of_row : Pre := fun ds R o => ∃ (row : Int) (s : Str), ds = [.int row, .str s] ∧ R = [] ∧ s.length ≤ 100 ∧ o = .new (.lst (((blocksRow s).map (bRun row)).map encRun))
theorem n_blocks_of_row {c : Ct} {G : Res} {ρ : En} {ta tb : TE} {row : Int} {s : Str} {E : XK} (ha : EvP c G ρ ta (.int row)) (hb : EvP c G ρ tb (.str s)) (hz : s.length ≤ 100) :
    EvN c G ρ (tCall (spD c.K pre_blocks_of_row) [] E (tCons ta (tCons tb tNil))) (.lst (((blocksRow s).map (bRun row)).map encRun)) :=
  n_call (a_cons ha (a_cons hb a_nil)) (R := []) (fun x hx => nomatch hx) ⟨row, s, rfl, rfl, hz, rfl⟩ fun _ e => nomatch e
theorem ok_blocks_of_row {P : Program} {w : World} {K : PySem.W.Frag} {mg : Str → Option Value} {base : Heap} (T : Top K mg) : FnOk P w K mg base CX0 1 T.a_blocks_of_row T.f_blocks_of_row ["row", "signs"] (spD K pre_blocks_of_row) := by
  refine fnOk T.F_blocks_of_row sc_blocks_of_row (fun ds R o h => by obtain ⟨row, s, rfl, _⟩ := h; rfl) fun ds R o h cdv A outer s H E hr => ?_
  obtain ⟨row, s, rfl, rfl, hz, rfl⟩ := h
  refine ⟨_, (pss_cons (ps_set (i := 2) sc_blocks_of_row.nd rfl (Or.inl rfl) (pe_lst pa_nil))
  (pss_cons (ps_set (i := 3) sc_blocks_of_row.nd rfl (Or.inl rfl) pe_int)
  (pss_cons (ps_for PassesOwn.never rfl (Xb.pi_enumS (by rfl) T.m_enumerate (pa_cons (pe_op op_add_str (pv 1) (pe_glob rfl T.h_GAP T.r_GAP)) pa_nil)) (pg_tup rfl (pgs_cons (pg_name (i := 4) sc_blocks_of_row.nd rfl (Or.inl rfl)) (pgs_cons (pg_name (i := 5) sc_blocks_of_row.nd rfl (Or.inl rfl)) pgs_nil)))
  (pss_one (ps_if (pt_cmpR op_eq (pv 5) (pe_glob rfl T.h_SEAT T.r_SEAT) (nomark _))
  (pss_one (ps_aug (i := 3) sc_blocks_of_row.nd rfl (Or.inl rfl) pe_int ip_add))
  (pss_one (ps_if (pt_cmpR op_gt (pv 3) pe_int (nomark _))
  (pss_cons (ps_expr (pe_bm PySem.F.plainAttrs_list PySem.F.slot_list_append PySem.F.type_list_append mt_append (pv 2) (pa_cons (pe_tup (pa_cons (pv 0) (pa_cons (pe_op op_sub (pv 4) (pv 3)) (pa_cons (pv 3) pa_nil)))) pa_nil)))
  (pss_one (ps_set (i := 3) sc_blocks_of_row.nd rfl (Or.inl rfl) pe_int)))
  pss_nil)))))
  (pss_one (ps_ret (pv 2)))))), fun F Q post => ?_⟩
  walk_at "go"
  walk_at "own"
  intro p
  walk_at "nrm"
  walk_at "asg"
  have h1l : ("." : Str).length = 1 := by decide +kernel
  have hsz : (s ++ ("." : Str)).cps.size = s.length + 1 := by
    show (s.cps ++ ("." : Str).cps).size = _
    rw [Array.size_append]
    exact congrArg (s.cps.size + ·) h1l
  refine sx_forE (gr := []) (ds := signsD (s ++ ("." : Str))) (fun i => [(p, .lst (((scanP (seatP s) i).1.map (bRun row)).map encRun))]) (fun i => [some (.int row), some (.str s), some (.ref p), some (.int ((scanP (seatP s) i).2 : Int)), none, none]) ?_ (fun x hx => nomatch hx) rfl ⟨rfl, rfl, rfl, rfl, trivial⟩ (fun i d hd S' hS => ?_) ?_
  · walk_at "pv"
  · unfold signsD at hd
    rw [List.getElem?_map] at hd
    obtain ⟨c, hc, rfl⟩ := Option.map_eq_some_iff.mp hd
    have hf := dot_at s (i := i) (c := c) (by simpa using hc)
    have hi : i < s.length + 1 := by
      have := (List.getElem?_eq_some_iff.mp hc).1
      rw [Array.length_toList, hsz] at this
      exact this
    have hm := (scanP_ok (seatP s) i).le
    have hlen : (scanP (seatP s) i).1.length ≤ i := by
      have k := scanP_ok (seatP s) i
      have h1 : (scanP (seatP s) i).1.length ≤ ((scanP (seatP s) i).1.map (·.2)).sum := by
        have hk := k.ok
        generalize (scanP (seatP s) i).1 = l at hk
        induction l with
        | nil => simp
        | cons b r ih =>
          have := (hk b (by simp)).1
          have h2 := ih fun c hc => hk c (by simp [hc])
          simp
          omega
      have h2 := k.sum
      have h3 := List.length_filter_le (seatP s) (List.range i)
      rw [List.length_range] at h3
      omega
    walk_at "nrm"
    walk_at "if1" <;> intro hb
    · rw [sign_o, hf] at hb
      apply Sx.last
      apply sx_aug
      · exact rfl
      · walk_at "pv"
      walk_at "nrm"
      walk_at "end"
      · rw [scanP_one hb]
      · rw [scanP_one hb]
        exact ⟨rfl, rfl, rfl, rfl, trivial⟩
    · rw [sign_o, hf] at hb
      have hb' : ¬ seatP s i = true := by simp [hb]
      walk_at "last"
      walk_at "when" <;> intro hq
      · have h0 : 0 < (scanP (seatP s) i).2 := by simpa using hq
        walk_at "app"
        · simp; omega
        walk_at "last"
        walk_at "asg"
        walk_at "into"
        walk_at "end"
        · rw [scanP_cut hb' h0, List.map_append, List.map_append]
          have e6 : (((i - (scanP (seatP s) i).2 : Nat) : Int)) = (i : Int) - ((scanP (seatP s) i).2 : Int) := by omega
          simp [bRun, e6, encRun]
        · rw [scanP_cut hb' h0]
          exact ⟨rfl, rfl, rfl, rfl, trivial⟩
      · have h0 : ¬ 0 < (scanP (seatP s) i).2 := by simpa using hq
        walk_at "end"
        · rw [scanP_stay hb' h0]
        · rw [scanP_stay hb' h0]
          exact ⟨rfl, rfl, rfl, rfl, trivial⟩
  · have e : (signsD (s ++ ("." : Str))).length = s.length + 1 := by unfold signsD; rw [List.length_map, Array.length_toList, hsz]
    rw [e]
    exact sx_retG (p_var rfl) List.mem_cons_self post
local macro_rules | `(tactic| walk_at "pv") => `(tactic| ((with_reducible apply n_blocks_of_row) <;> (try walk_at "pv")))

/-! ### the blocks of a hall -/
def pre_blocks_of : Pre := fun ds R o => ∃ (rows : List Str), ds = [.lst (rows.map D.str)] ∧ R = [] ∧ rows.length ≤ 100 ∧ Short rows ∧ o = .new (.lst ((hallRs rows).map encRun))
theorem n_blocks_of {c : Ct} {G : Res} {ρ : En} {ta : TE} {rows : List Str} {E : XK} (ha : EvP c G ρ ta (.lst (rows.map D.str))) (hl : rows.length ≤ 100) (hs : Short rows) :
    EvN c G ρ (tCall (spD c.K pre_blocks_of) [] E (tCons ta tNil)) (.lst ((hallRs rows).map encRun)) :=
  n_call (a_cons ha a_nil) (R := []) (fun x hx => nomatch hx) ⟨rows, rfl, rfl, hl, hs, rfl⟩ fun _ e => nomatch e
theorem ok_blocks_of {P : Program} {w : World} {K : PySem.W.Frag} {mg : Str → Option Value} {base : Heap} (T : Top K mg) : FnOk P w K mg base CX0 2 T.a_blocks_of T.f_blocks_of ["rows"] (spD K pre_blocks_of) := by
  refine fnOk T.F_blocks_of sc_blocks_of (fun ds R o h => by obtain ⟨rows, rfl, _⟩ := h; rfl) fun ds R o h cdv A outer s H E hr => ?_
  obtain ⟨rows, rfl, rfl, hn, hsh, rfl⟩ := h
  refine ⟨_, (pss_cons (ps_set (i := 1) sc_blocks_of.nd rfl (Or.inl rfl) (pe_lst pa_nil))
  (pss_cons (ps_for PassesOwn.never rfl (pi_enum (by rfl) T.m_enumerate (pa_cons (pv 0) pa_nil)) (pg_tup rfl (pgs_cons (pg_name (i := 2) sc_blocks_of.nd rfl (Or.inl rfl)) (pgs_cons (pg_name (i := 3) sc_blocks_of.nd rfl (Or.inl rfl)) pgs_nil)))
  (pss_one (ps_expr (pe_bm PySem.F.plainAttrs_list PySem.F.slot_list_extend PySem.F.type_list_extend mt_extend (pv 1) (pa_cons (pe_call (ok_blocks_of_row T) (hr.mono (by decide)) (by rfl) T.g_blocks_of_row T.F_blocks_of_row.kp T.b_blocks_of_row .nil pass0 (pa_cons (pv 2) (pa_cons (pv 3) pa_nil))) pa_nil)))))
  (pss_one (ps_ret (pv 1))))), fun F Q post => ?_⟩
  walk_at "go"
  walk_at "own"
  intro p
  walk_at "nrm"
  refine sx_forE (gr := []) (ds := rows.map D.str) (fun i => [(p, .lst ((hallRs (rows.take i)).map encRun))]) (fun i => [some (.lst (rows.map D.str)), some (.ref p), none, none]) ?_ (fun x hx => nomatch hx) rfl ⟨rfl, rfl, trivial⟩ (fun i d hd S' hS => ?_) ?_
  · walk_at "pv"
  · rw [List.getElem?_map] at hd
    obtain ⟨s, hs, rfl⟩ := Option.map_eq_some_iff.mp hd
    have hsz : s.length ≤ 100 := hsh s (List.mem_of_getElem? hs)
    have hil := (List.getElem?_eq_some_iff.mp hs).1
    have hb1 := runs_count (blocksRow_ok s)
    have hb2 : (hallTs blocksRow 0 (rows.take i)).length ≤ 100 * (rows.take i).length :=
      hallTs_len _ _ fun r hr => Nat.le_trans (runs_count (blocksRow_ok r)) (hsh r (List.mem_of_mem_take hr))
    rw [List.length_take] at hb2
    walk_at "nrm"
    apply Sx.last
    apply sx_ext 0
    · walk_at "pv"
    · exact rfl
    · walk_at "pv"
    · simp [hallRs]; omega
    walk_at "nrm"
    walk_at "end"
    · rw [List.take_add_one, hs]
      show [(p, D.lst ((hallRs (rows.take i)).map encRun ++ _))] = [(p, D.lst ((hallRs (rows.take i ++ [s])).map encRun))]
      rw [hallRs_snoc, List.map_append, show ((rows.take i).length : Int) = (i : Int) by rw [List.length_take]; omega]
    · walk_at "le"
  · rw [List.length_map, List.take_length]
    exact sx_retG (p_var rfl) List.mem_cons_self post
local macro_rules | `(tactic| walk_at "pv") => `(tactic| ((with_reducible apply n_blocks_of) <;> (try walk_at "pv")))

/-! ### rows with the taken seats shown by a sign -/
def tkn (td : TD) (r p : Int) : Bool := (valA td (r, p)).isSome
def shownS (td : TD) (r : Int) (s : Str) (sg : Nat) : Str := sOf ((List.range s.length).map fun (i : Nat) => if tkn td r (i : Int) then sg else s.cps.toList.getD i 0)
theorem shownS_len (td : TD) (r : Int) (s : Str) (sg : Nat) : (shownS td r s sg).length = s.length := by rw [shownS, sOf_len]; simp
def shown : Nat → TD → List Str → Nat → List Str
  | _, _, [], _ => []
  | k, td, s :: rs, sg => shownS td (k : Int) s sg :: shown (k + 1) td rs sg
theorem shown_snoc (td : TD) (sg : Nat) : ∀ (rs : List Str) (k : Nat) (s : Str), shown k td (rs ++ [s]) sg = shown k td rs sg ++ [shownS td ((k + rs.length : Nat) : Int) s sg]
  | [], k, s => by simp [shown]
  | r :: rs, k, s => by
    show shownS td (k : Int) r sg :: shown (k + 1) td (rs ++ [s]) sg = _
    rw [shown_snoc td sg rs (k + 1) s, show k + 1 + rs.length = k + (r :: rs).length by simp only [List.length_cons]; omega]
    rfl
theorem shown_len (td : TD) (sg : Nat) : ∀ (rs : List Str) (k : Nat), (shown k td rs sg).length = rs.length
  | [], _ => rfl
  | r :: rs, k => by show (shown (k + 1) td rs sg).length + 1 = _; rw [shown_len td sg rs (k + 1)]; rfl
theorem shown_short (td : TD) (sg : Nat) {n : Nat} : ∀ (rs : List Str) (k : Nat), (∀ s ∈ rs, s.length ≤ n) → ∀ s ∈ shown k td rs sg, s.length ≤ n
  | [], _, _, s, hs => by cases hs
  | r :: rs, k, h, s, hs => by
    rcases List.mem_cons.mp hs with rfl | hs
    · rw [shownS_len]; exact h r (by simp)
    · exact shown_short td sg rs (k + 1) (fun x hx => h x (by simp [hx])) s hs
theorem shown_at (td : TD) (sg : Nat) : ∀ (rs : List Str) (k i : Nat), (shown k td rs sg)[i]? = (rs[i]?).map fun s => shownS td ((k + i : Nat) : Int) s sg
  | [], _, _ => by simp [shown]
  | r :: rs, k, 0 => by simp [shown]
  | r :: rs, k, i + 1 => by
    show (shown (k + 1) td rs sg)[i]? = (rs[i]?).map _
    rw [shown_at td sg rs (k + 1) i, show k + 1 + i = k + (i + 1) by omega]
/-- texts of one sign each, joined -/
theorem join_signs : ∀ (l : List Nat), Txt.join ("" : Str) (l.map fun k => (⟨#[k]⟩ : Str)) = sOf l := by
  intro l
  have h := eq_of_beq (join_plain_closes ("" : Str) (l.map fun k => (⟨#[k]⟩ : Str)))
  rw [h, sOf_nil]
  clear h
  show Str.join ⟨#[]⟩ _ = _
  induction l with
  | nil => rfl
  | cons k l ih =>
    rw [List.map_cons, join_nil_cons, ih, sOf_one, sOf_app]
    rfl
/-- the seats that are shown: free ones -/
theorem shown_seat {td : TD} {r : Int} {s : Str} {p : Nat} : seatP (shownS td r s 46) p = (seatP s p && !tkn td r (p : Int)) := by
  unfold seatP shownS sOf
  simp only [List.getElem?_toArray, List.getElem?_map]
  by_cases hp : p < s.length
  · rw [List.getElem?_range hp]
    have hg : s.cps.toList[p]? = some (s.cps.toList.getD p 0) := by
      rw [List.getD_eq_getElem?_getD, List.getElem?_eq_getElem (by rw [cps_len]; exact hp)]
      rfl
    have hg2 : s.cps[p]? = some (s.cps.toList.getD p 0) := by rw [← hg]; simp
    rw [hg2]
    cases ht : tkn td r (p : Int) <;> simp [ht]
  · rw [List.getElem?_eq_none (by simp; omega), Array.getElem?_eq_none (by show s.length ≤ p; omega)]
    rfl
/-! ### the seats of a hall, one by one -/
def seatsK : Nat → List Str → List Spot
  | _, [] => []
  | k, s :: rs => ((List.range s.length).filter (seatP s)).map (fun (i : Nat) => ((k : Int), (i : Int))) ++ seatsK (k + 1) rs
theorem seatP_lt {s : Str} {p : Nat} (h : seatP s p = true) : p < s.length := by
  unfold seatP at h
  by_cases q : p < s.cps.size
  · exact q
  · rw [Array.getElem?_eq_none (by omega)] at h; cases h
theorem seatsK_mem : ∀ (rs : List Str) (k : Nat) (x : Spot), x ∈ seatsK k rs ↔ ∃ i p : Nat, ∃ s, rs[i]? = some s ∧ seatP s p = true ∧ x = (((k + i : Nat) : Int), (p : Int))
  | [], k, x => by simp [seatsK]
  | r :: rs, k, x => by
    rw [seatsK, List.mem_append, seatsK_mem rs (k + 1) x]
    constructor
    · rintro (h | ⟨i, p, s, h1, h2, h3⟩)
      · obtain ⟨p, hp, rfl⟩ := List.mem_map.mp h
        exact ⟨0, p, r, rfl, (List.mem_filter.mp hp).2, rfl⟩
      · exact ⟨i + 1, p, s, h1, h2, by rw [h3, show k + 1 + i = k + (i + 1) by omega]⟩
    · rintro ⟨i, p, s, h1, h2, h3⟩
      cases i with
      | zero =>
        simp at h1
        subst h1
        exact .inl (List.mem_map.mpr ⟨p, List.mem_filter.mpr ⟨List.mem_range.mpr (seatP_lt h2), h2⟩, h3.symm⟩)
      | succ i => exact .inr ⟨i, p, s, by simpa using h1, h2, by rw [h3, show k + 1 + i = k + (i + 1) by omega]⟩
theorem nodup_map_on {α β : Type} {f : α → β} {l : List α} (h : l.Nodup) (hf : ∀ x ∈ l, ∀ y ∈ l, f x = f y → x = y) : (l.map f).Nodup := by
  induction l with
  | nil => exact List.nodup_nil
  | cons a l ih =>
    rw [List.nodup_cons] at h
    rw [List.map_cons, List.nodup_cons]
    refine ⟨fun hm => ?_, ih h.2 fun x hx y hy => hf x (List.mem_cons_of_mem _ hx) y (List.mem_cons_of_mem _ hy)⟩
    obtain ⟨x, hx, e⟩ := List.mem_map.mp hm
    have := hf x (List.mem_cons_of_mem _ hx) a List.mem_cons_self e
    subst this
    exact h.1 hx
theorem seatsK_nodup : ∀ (rs : List Str) (k : Nat), (seatsK k rs).Nodup
  | [], _ => List.nodup_nil
  | r :: rs, k => by
    rw [seatsK, List.nodup_append]
    refine ⟨nodup_map_on (List.Pairwise.filter _ List.nodup_range) fun x _ y _ e => ?_, seatsK_nodup rs (k + 1), fun x hx y hy e => ?_⟩
    · have := (Prod.mk.inj e).2; omega
    · subst e
      obtain ⟨p, _, rfl⟩ := List.mem_map.mp hx
      obtain ⟨i, q, s, _, _, e⟩ := (seatsK_mem rs (k + 1) _).mp hy
      have := (Prod.mk.inj e).1
      omega
theorem seatsK_len : ∀ (rs : List Str) (k : Nat), (seatsK k rs).length = (rs.map fun s => ((List.range s.length).filter (seatP s)).length).sum
  | [], _ => rfl
  | r :: rs, k => by
    rw [seatsK, List.length_append, seatsK_len rs (k + 1), List.length_map, List.map_cons, List.sum_cons]
theorem seatsK_shown (td : TD) : ∀ (rs : List Str) (k : Nat), seatsK k (shown k td rs 46) = (seatsK k rs).filter fun x => !tkn td x.1 x.2
  | [], _ => rfl
  | r :: rs, k => by
    rw [shown, seatsK, seatsK, List.filter_append, seatsK_shown td rs (k + 1), shownS_len, List.filter_map, List.filter_filter]
    congr 2
    exact List.filter_congr fun p _ => by rw [shown_seat]; simp [Function.comp, Bool.and_comm]
theorem filter_two {α : Type} (p : α → Bool) : ∀ l : List α, (l.filter p).length + (l.filter fun x => !p x).length = l.length
  | [] => rfl
  | a :: l => by
    have := filter_two p l
    cases h : p a <;> simp [h] <;> omega
/-- of a table of taken seats, each one a seat: free ones and taken ones are all -/
theorem free_count {td : TD} {rows : List Str} (hn : (td.map (·.1)).Nodup) (hs : ∀ e ∈ td, e.1 ∈ seatsK 0 rows) : (seatsK 0 (shown 0 td rows 46)).length + td.length = (seatsK 0 rows).length := by
  rw [seatsK_shown, ← filter_two (fun x : Spot => tkn td x.1 x.2) (seatsK 0 rows), Nat.add_comm]
  congr 1
  have e : td.length = (td.map (·.1)).length := by simp
  rw [e]
  refine List.Perm.length_eq ((List.perm_ext_iff_of_nodup hn (List.Pairwise.filter _ (seatsK_nodup rows 0))).mpr fun x => ?_)
  rw [List.mem_filter]
  constructor
  · intro hx
    obtain ⟨e, he, rfl⟩ := List.mem_map.mp hx
    exact ⟨hs e he, valA_isSome.mpr hx⟩
  · rintro ⟨_, h⟩
    exact valA_isSome.mp h

/-! ### with the taken seats shown -/
def pre_with_taken : Pre := fun ds R o => ∃ (rows : List Str) (td : TD) (sg : Nat), ds = [.lst (rows.map D.str), tdD td, .str ⟨#[sg]⟩] ∧ R = [] ∧ rows.length ≤ 100 ∧ Short rows ∧ o = .new (.lst ((shown 0 td rows sg).map D.str))
theorem n_with_taken {c : Ct} {G : Res} {ρ : En} {ta tb tc : TE} {rows : List Str} {td : TD} {sg : Nat} {E : XK} (ha : EvP c G ρ ta (.lst (rows.map D.str))) (hb : EvP c G ρ tb (tdD td)) (hc : EvP c G ρ tc (.str ⟨#[sg]⟩)) (hl : rows.length ≤ 100) (hs : Short rows) :
    EvN c G ρ (tCall (spD c.K pre_with_taken) [] E (tCons ta (tCons tb (tCons tc tNil)))) (.lst ((shown 0 td rows sg).map D.str)) :=
  n_call (a_cons ha (a_cons hb (a_cons hc a_nil))) (R := []) (fun x hx => nomatch hx) ⟨rows, td, sg, rfl, rfl, hl, hs, rfl⟩ fun _ e => nomatch e
theorem ok_with_taken {P : Program} {w : World} {K : PySem.W.Frag} {mg : Str → Option Value} {base : Heap} (T : Top K mg) : FnOk P w K mg base CX0 1 T.a_with_taken T.f_with_taken ["rows", "taken", "sign"] (spD K pre_with_taken) := by
  refine fnOk T.F_with_taken sc_with_taken (fun ds R o h => by obtain ⟨rows, td, sg, rfl, _⟩ := h; rfl) fun ds R o h cdv A outer s H E hr => ?_
  obtain ⟨rows, td, sg, rfl, rfl, hn, hsh, rfl⟩ := h
  refine ⟨_, (pss_cons (ps_set (i := 3) sc_with_taken.nd rfl (Or.inl rfl) (pe_lst pa_nil))
  (pss_cons (ps_for PassesOwn.never rfl (pi_enum (by rfl) T.m_enumerate (pa_cons (pv 0) pa_nil)) (pg_tup rfl (pgs_cons (pg_name (i := 4) sc_with_taken.nd rfl (Or.inr rfl)) (pgs_cons (pg_name (i := 5) sc_with_taken.nd rfl (Or.inr rfl)) pgs_nil)))
  (pss_cons (by exact (ps_setLc (i := 6) (own := [("place", 7)]) (g := (gName 7)) (tt := tYes) rfl sc_with_taken.nd rfl rfl (sw_true rfl rfl rfl (by decide +kernel)) (by exact (pi_range1 (by rfl) T.m_range (pa_cons (pe_callB call_len_str (by rfl) T.m_len PySem.boot_len (pa_cons (pv 5) pa_nil)) pa_nil))) (blkOk_by (N := ["rows", "taken", "sign", "shown", "row", "signs", "places", "place"]) (sc := defScope s_with_taken) (by decide +kernel)) (fun _ _ _ _ _ => by exact (pg_name (i := 7) sc_with_taken.nd rfl (Or.inl rfl))) (fun _ _ _ _ _ => by exact pts_nil) (fun _ _ _ _ _ => by exact (pe_ifExp (pt_cmp (pc_din (hu_of hr) (pe_tup (pa_cons (pv 4) (pa_cons (pv 7) pa_nil))) (pv 1))) (pv 2) (pe_ix ix_str (pv 5) (pv 7) (fun _ _ => rfl))))))
  (pss_one (ps_expr (pe_bm PySem.F.plainAttrs_list PySem.F.slot_list_append PySem.F.type_list_append mt_append (pv 3) (pa_cons (pe_m1 PySem.F.slot_str_join PySem.F.type_str_join mt_join pe_str (pv 6)) pa_nil))))))
  (pss_one (ps_ret (pv 3))))), fun F Q post => ?_⟩
  walk_at "go"
  walk_at "own"
  intro p
  walk_at "nrm"
  refine sx_forE (gr := []) (ds := rows.map D.str) (fun i => [(p, .lst ((shown 0 td (rows.take i) sg).map D.str))]) (fun i => [some (.lst (rows.map D.str)), some (tdD td), some (.str ⟨#[sg]⟩), some (.ref p), none, none, none, none]) ?_ (fun x hx => nomatch hx) rfl ⟨rfl, rfl, rfl, rfl, trivial⟩ (fun i d hd S' hS => ?_) ?_
  · walk_at "pv"
  · rw [List.getElem?_map] at hd
    obtain ⟨s, hs, rfl⟩ := Option.map_eq_some_iff.mp hd
    have hsz : s.length ≤ 100 := hsh s (List.mem_of_getElem? hs)
    have hil := (List.getElem?_eq_some_iff.mp hs).1
    have hlen := shown_len td sg (rows.take i) 0
    rw [List.length_take] at hlen
    walk_at "nrm"
    apply sx_asg (d := .lst ((List.range s.length).map fun (q : Nat) => D.str (if tkn td (i : Int) (q : Int) then ⟨#[sg]⟩ else ⟨#[s.cps.toList.getD q 0]⟩)))
    · apply EvN.toP
      apply n_map (g := []) (us := List.range s.length) (enc := fun (q : Nat) => D.int (q : Int)) (f := fun (q : Nat) => D.str (if tkn td (i : Int) (q : Int) then ⟨#[sg]⟩ else ⟨#[s.cps.toList.getD q 0]⟩))
      · rw [show List.range s.length = List.range ((s.length : Int)).toNat by simp]
        walk_at "pv"
      · exact fun x hx => nomatch hx
      · intro u hu
        walk_at "pv"
      · decide
      · intro u hu
        have hu' := List.mem_range.mp hu
        have hat : atI s.cps.toList (u : Int) = some (s.cps.toList.getD u 0) := by
          apply at_sign (by omega)
          rw [Int.toNat_natCast, List.getD_eq_getElem?_getD, List.getElem?_eq_getElem (by rw [cps_len]; exact hu')]
          rfl
        apply p_ifS
        · show Dl.EvT _ _ _ _ (valA td ((i : Int), (u : Int))).isSome
          walk_at "pv"
        · intro _; walk_at "pv"
        · intro _; walk_at "pv"
      · simp; omega
    walk_at "nrm"
    apply Sx.last
    have e : (List.range s.length).map (fun (q : Nat) => if tkn td (i : Int) (q : Int) then (⟨#[sg]⟩ : Str) else ⟨#[s.cps.toList.getD q 0]⟩) = ((List.range s.length).map fun (q : Nat) => if tkn td (i : Int) (q : Int) then sg else s.cps.toList.getD q 0).map fun k => (⟨#[k]⟩ : Str) := by
      rw [List.map_map]
      refine List.map_congr_left fun q _ => ?_
      show _ = (⟨#[if tkn td (i : Int) (q : Int) then sg else s.cps.toList.getD q 0]⟩ : Str)
      split <;> rfl
    have ones : ∀ l : List Nat, ((l.map fun k => (⟨#[k]⟩ : Str)).map (·.length)).sum = l.length := by
      intro l
      induction l with
      | nil => rfl
      | cons k l ih => rw [List.map_cons, List.map_cons, List.sum_cons, ih, List.length_cons]; show 1 + _ = _; omega
    apply sx_app 0 (d := .str (shownS td (i : Int) s sg))
    · walk_at "pv"
    · exact rfl
    · refine EvP.is (p_joinF (us := List.range s.length) (g := fun (q : Nat) => if tkn td (i : Int) (q : Int) then (⟨#[sg]⟩ : Str) else ⟨#[s.cps.toList.getD q 0]⟩) (s := ("" : Str)) ?_ ?_ ?_) ?_
      · walk_at "pv"
      · walk_at "pv"
      · rw [e, ones]
        have z : ("" : Str).length = 0 := by decide +kernel
        rw [z]
        simp
        omega
      · rw [e, join_signs]
        rfl
    · simp; omega
    walk_at "nrm"
    walk_at "end"
    · rw [List.take_add_one, hs]
      show _ = [(p, D.lst ((shown 0 td (rows.take i ++ [s]) sg).map D.str))]
      rw [shown_snoc, List.map_append, show ((0 + (rows.take i).length : Nat) : Int) = (i : Int) by rw [List.length_take]; omega]
      rfl
    · walk_at "le"
  · rw [List.length_map, List.take_length]
    exact sx_retG (p_var rfl) List.mem_cons_self post
local macro_rules | `(tactic| walk_at "pv") => `(tactic| ((with_reducible apply n_with_taken) <;> (try walk_at "pv")))

/-! ### the free runs -/
def freeRs (rows : List Str) (td : TD) : List Rn := hallRs (shown 0 td rows 46)
def pre_runs_of : Pre := fun ds R o => ∃ (rows : List Str) (td : TD), ds = [.lst (rows.map D.str), tdD td] ∧ R = [] ∧ rows.length ≤ 100 ∧ Short rows ∧ o = .new (.lst ((freeRs rows td).map encRun))
theorem n_runs_of {c : Ct} {G : Res} {ρ : En} {ta tb : TE} {rows : List Str} {td : TD} {E : XK} (ha : EvP c G ρ ta (.lst (rows.map D.str))) (hb : EvP c G ρ tb (tdD td)) (hl : rows.length ≤ 100) (hs : Short rows) :
    EvN c G ρ (tCall (spD c.K pre_runs_of) [] E (tCons ta (tCons tb tNil))) (.lst ((freeRs rows td).map encRun)) :=
  n_call (a_cons ha (a_cons hb a_nil)) (R := []) (fun x hx => nomatch hx) ⟨rows, td, rfl, rfl, hl, hs, rfl⟩ fun _ e => nomatch e
theorem ok_runs_of {P : Program} {w : World} {K : PySem.W.Frag} {mg : Str → Option Value} {base : Heap} (T : Top K mg) : FnOk P w K mg base CX0 3 T.a_runs_of T.f_runs_of ["rows", "taken"] (spD K pre_runs_of) := by
  refine fnOk T.F_runs_of sc_runs_of (fun ds R o h => by obtain ⟨rows, td, rfl, _⟩ := h; rfl) fun ds R o h cdv A outer s H E hr => ?_
  obtain ⟨rows, td, rfl, rfl, hn, hsh, rfl⟩ := h
  refine ⟨_, (pss_one (ps_ret (pe_call (ok_blocks_of T) (hr.mono (by decide)) (by rfl) T.g_blocks_of T.F_blocks_of.kp T.b_blocks_of .nil pass0 (pa_cons (pe_call (ok_with_taken T) (hr.mono (by decide)) (by rfl) T.g_with_taken T.F_with_taken.kp T.b_with_taken .nil pass0 (pa_cons (pv 0) (pa_cons (pv 1) (pa_cons (pe_glob rfl T.h_GAP T.r_GAP) pa_nil)))) pa_nil)))), fun F Q post => ?_⟩
  walk_at "go"
  have h1 := shown_len td 46 rows 0
  have h2 : (shown 0 td rows 46).length ≤ 100 := by omega
  have h3 : Short (shown 0 td rows 46) := shown_short td 46 rows 0 hsh
  have hdot : ("." : Str) = ⟨#[46]⟩ := sOf_dot
  rw [hdot]
  walk_at "retN"
local macro_rules | `(tactic| walk_at "pv") => `(tactic| ((with_reducible apply n_runs_of) <;> (try walk_at "pv")))

/-! ### taken seats by a number -/
def tkB2 (n k : Int) : Bool := decide ((n + 31 * (k / (1 + n % 6))) * 48271 % 10007 % 7 < n / 6 % 8)
def tkCell (n : Int) (r : Nat) (s : Str) (st : TD × Int) (p : Nat) : TD × Int := if seatP s p then (if tkB2 n st.2 then putA st.1 ((r : Int), (p : Int)) "a" else st.1, st.2 + 1) else st
def tkRow (n : Int) (r : Nat) (s : Str) (st : TD × Int) (i : Nat) : TD × Int := (List.range i).foldl (tkCell n r s) st
def tkUp (n : Int) (rows : List Str) (i : Nat) : TD × Int := (List.range i).foldl (fun st r => tkRow n r (rows.getD r "") st (rows.getD r "").length) ([], 0)
def tkHall (n0 : Int) (rows : List Str) : TD := (tkUp (rowN n0) rows rows.length).1
theorem tkRow_succ (n : Int) (r : Nat) (s : Str) (st : TD × Int) (i : Nat) : tkRow n r s st (i + 1) = tkCell n r s (tkRow n r s st i) i := by
  unfold tkRow
  rw [List.range_succ, List.foldl_append]
  rfl
theorem tkUp_succ {n : Int} {rows : List Str} {i : Nat} {s : Str} (h : rows[i]? = some s) : tkUp n rows (i + 1) = tkRow n i s (tkUp n rows i) s.length := by
  unfold tkUp
  rw [List.range_succ, List.foldl_append]
  show tkRow n i (rows.getD i "") _ (rows.getD i "").length = _
  rw [show rows.getD i "" = s by rw [List.getD_eq_getElem?_getD, h]; rfl]
structure TkOk (rows : List Str) (k i : Nat) (td : TD) : Prop where
  nd : (td.map (·.1)).Nodup
  mem : ∀ e ∈ td, ∃ r p : Nat, ∃ s, rows[r]? = some s ∧ seatP s p = true ∧ e.1 = ((r : Int), (p : Int)) ∧ (r < k ∨ (r = k ∧ p < i))
  len : td.length ≤ 100 * k + i
theorem tk_cell {rows : List Str} {k i : Nat} {st : TD × Int} {n : Int} {s : Str} (h : TkOk rows k i st.1) (hs : rows[k]? = some s) : TkOk rows k (i + 1) (tkCell n k s st i).1 := by
  have up : TkOk rows k (i + 1) st.1 := ⟨h.nd, fun e he => by
    obtain ⟨r, p, s', a, b, c, d⟩ := h.mem e he
    exact ⟨r, p, s', a, b, c, by omega⟩, by have := h.len; omega⟩
  unfold tkCell
  by_cases hp : seatP s i = true
  · rw [if_pos hp]
    show TkOk rows k (i + 1) (if tkB2 n st.2 = true then putA st.1 ((k : Int), (i : Int)) "a" else st.1)
    by_cases hb : tkB2 n st.2 = true
    · rw [if_pos hb]
      have new : (((k : Int), (i : Int)) : Spot) ∉ st.1.map (·.1) := fun hm => by
        obtain ⟨e, he, q⟩ := List.mem_map.mp hm
        obtain ⟨r, p, s', a, b, c, d⟩ := h.mem e he
        rw [c] at q
        have q1 := (Prod.mk.inj q).1
        have q2 := (Prod.mk.inj q).2
        omega
      rw [putA_new new]
      refine ⟨?_, fun e he => ?_, ?_⟩
      · rw [List.map_append, List.nodup_append]
        refine ⟨h.nd, by simp, fun x hx y hy => ?_⟩
        simp at hy
        subst hy
        exact fun e => new (e ▸ hx)
      · rcases List.mem_append.mp he with he | he
        · exact up.mem e he
        · simp at he
          subst he
          exact ⟨k, i, s, hs, hp, rfl, by omega⟩
      · have := h.len
        simp
        omega
    · rw [if_neg hb]; exact up
  · rw [if_neg hp]; exact up
theorem tk_row {rows : List Str} {k : Nat} {st : TD × Int} {n : Int} {s : Str} (h : TkOk rows k 0 st.1) (hs : rows[k]? = some s) : ∀ i, TkOk rows k i (tkRow n k s st i).1
  | 0 => h
  | i + 1 => by rw [tkRow_succ]; exact tk_cell (tk_row h hs i) hs
theorem tk_up {rows : List Str} {n : Int} (hsh : Short rows) : ∀ i, i ≤ rows.length → TkOk rows i 0 (tkUp n rows i).1
  | 0, _ => ⟨List.nodup_nil, fun e he => (by cases he), Nat.zero_le _⟩
  | i + 1, hi => by
    have hs : rows[i]? = some rows[i] := List.getElem?_eq_getElem (by omega)
    rw [tkUp_succ hs]
    have := tk_row (n := n) (st := tkUp n rows i) (tk_up hsh i (by omega)) hs rows[i].length
    have hl := hsh rows[i] (by simp)
    exact ⟨this.nd, fun e he => by
      obtain ⟨r, p, s', a, b, c, d⟩ := this.mem e he
      exact ⟨r, p, s', a, b, c, by omega⟩, by have := this.len; omega⟩
theorem tkHall_seat {n0 : Int} {rows : List Str} (hsh : Short rows) : ∀ e ∈ tkHall n0 rows, e.1 ∈ seatsK 0 rows := fun e he => by
  obtain ⟨r, p, s, a, b, c, _⟩ := (tk_up hsh rows.length (Nat.le_refl _)).mem e he
  exact (seatsK_mem rows 0 _).mpr ⟨r, p, s, a, b, by rw [c, Nat.zero_add]⟩
def pre_law_taken_by : Pre := fun ds R o => ∃ (rows : List Str) (n : Int), ds = [.lst (rows.map D.str), .int n] ∧ R = [] ∧ rows.length ≤ 100 ∧ Short rows ∧ o = .new (tdD (tkHall n rows))
theorem n_law_taken_by {c : Ct} {G : Res} {ρ : En} {ta tb : TE} {rows : List Str} {n : Int} {E : XK} (ha : EvP c G ρ ta (.lst (rows.map D.str))) (hb : EvP c G ρ tb (.int n)) (hl : rows.length ≤ 100) (hs : Short rows) :
    EvN c G ρ (tCall (spD c.K pre_law_taken_by) [] E (tCons ta (tCons tb tNil))) (tdD (tkHall n rows)) :=
  n_call (a_cons ha (a_cons hb a_nil)) (R := []) (fun x hx => nomatch hx) ⟨rows, n, rfl, rfl, hl, hs, rfl⟩ fun _ e => nomatch e
theorem ok_law_taken_by {P : Program} {w : World} {K : PySem.W.Frag} {mg : Str → Option Value} {base : Heap} (T : Top K mg) : FnOk P w K mg base CX0 1 T.a_law_taken_by T.f_law_taken_by ["_law_rows", "_law_n"] (spD K pre_law_taken_by) := by
  refine fnOk T.F_law_taken_by sc_law_taken_by (fun ds R o h => by obtain ⟨rows, n, rfl, _⟩ := h; rfl) fun ds R o h cdv A outer s H E hr => ?_
  obtain ⟨rows, n0, rfl, rfl, hn, hsh, rfl⟩ := h
  refine ⟨_, (pss_cons (ps_set (i := 1) sc_law_taken_by.nd rfl (Or.inl rfl) (pe_op op_mod (pe_op op_mul (pv 1) pe_int) pe_int))
  (pss_cons (ps_set (i := 2) sc_law_taken_by.nd rfl (Or.inl rfl) pe_dnewT)
  (pss_cons (ps_set (i := 3) sc_law_taken_by.nd rfl (Or.inl rfl) pe_int)
  (pss_cons (ps_for PassesOwn.never rfl (pi_range1 (by rfl) T.m_range (pa_cons (pe_callB call_len_seq (by rfl) T.m_len PySem.boot_len (pa_cons (pv 0) pa_nil)) pa_nil)) (pg_name (i := 4) sc_law_taken_by.nd rfl (Or.inl rfl))
  (pss_one (ps_for PassesOwn.never rfl (pi_range1 (by rfl) T.m_range (pa_cons (pe_callB call_len_str (by rfl) T.m_len PySem.boot_len (pa_cons (pe_ix ix_list (pv 0) (pv 4) (fun _ _ => rfl)) pa_nil)) pa_nil)) (pg_name (i := 5) sc_law_taken_by.nd rfl (Or.inl rfl))
  (pss_one (ps_if (pt_cmpR op_eq (pe_ix ix_str (pe_ix ix_list (pv 0) (pv 4) (fun _ _ => rfl)) (pv 5) (fun _ _ => rfl)) pe_str (nomark _))
  (pss_cons (ps_if (pt_cmpR op_lt (pe_op op_mod (pe_op op_mod (pe_op op_mul (pe_op op_add (pv 1) (pe_op op_mul pe_int (pe_op op_fdiv (pv 3) (pe_op op_add pe_int (pe_op op_mod (pv 1) pe_int))))) pe_int) pe_int) pe_int) (pe_op op_mod (pe_op op_fdiv (pv 1) pe_int) pe_int) (nomark _))
  (pss_one (ps_dput (hu_of hr) (pv 2) (pe_tup (pa_cons (pv 4) (pa_cons (pv 5) pa_nil))) pe_str rfl))
  pss_nil)
  (pss_one (ps_set (i := 3) sc_law_taken_by.nd rfl (Or.inl rfl) (pe_op op_add (pv 3) pe_int))))
  pss_nil)))))
  (pss_one (ps_ret (pv 2))))))), fun F Q post => ?_⟩
  walk_at "go"
  apply sx_asg (d := .int (rowN n0))
  · have e : rowN n0 = n0 * 48271 % 2147483647 := rfl
    rw [e]
    walk_at "pv"
  walk_at "nrm"
  have hn0 : 0 ≤ rowN n0 := by unfold rowN; omega
  have eT : tkHall n0 rows = (tkUp (rowN n0) rows rows.length).1 := rfl
  rw [eT] at post
  clear eT
  generalize rowN n0 = n at hn0 post
  walk_at "own"
  intro p
  walk_at "nrm"
  walk_at "asg"
  refine sx_forR (lo := 0) (n := rows.length) (fun i => [(p, tdD (tkUp n rows i).1)]) (fun i => [some (.lst (rows.map D.str)), some (.int n), some (.ref p), some (.int (tkUp n rows i).2), none, none]) ?_ rfl ⟨rfl, rfl, rfl, rfl, trivial⟩ (fun i hi S' hS => ?_) ?_
  · have e : (rows.length : Int) = ((rows.map D.str).length : Int) := by simp
    have e2 : rows.length = ((rows.map D.str).length : Int).toNat := by simp
    rw [e2]
    apply i_range1 <;> walk_at "pv"
  · obtain ⟨s, hs⟩ : ∃ s, rows[i]? = some s := ⟨_, List.getElem?_eq_getElem hi⟩
    have hsz := hsh.at hs
    have hsz2 : s.length ≤ 100 := hsh s (List.mem_of_getElem? hs)
    have hat : atI (rows.map D.str) (i : Int) = some (.str s) := at_m (f := D.str) (by omega) (by simpa using hs)
    have ok := tk_up (n := n) hsh i (by omega)
    rw [Int.zero_add]
    walk_at "nrm"
    walk_at "last"
    refine sx_forR (lo := 0) (n := s.length) (fun j => [(p, tdD (tkRow n i s (tkUp n rows i) j).1)]) (fun j => [some (.lst (rows.map D.str)), some (.int n), some (.ref p), some (.int (tkRow n i s (tkUp n rows i) j).2), some (.int (i : Int)), none]) ?_ rfl ⟨rfl, rfl, rfl, rfl, rfl, trivial⟩ (fun j hj S'' hS'' => ?_) ?_
    · have e2 : s.length = (s.length : Int).toNat := by simp
      conv => arg 5; rw [e2]
      apply i_range1 <;> walk_at "pv"
    · obtain ⟨c, hc⟩ : ∃ c, s.cps.toList[j]? = some c := ⟨_, List.getElem?_eq_getElem (by rw [cps_len]; exact hj)⟩
      have hat2 : atI s.cps.toList (j : Int) = some c := at_sign (by omega) (by simpa using hc)
      have hseat : seatP s j = decide (c = 111) := by
        unfold seatP
        have : s.cps[j]? = some c := by rw [← hc]; simp
        rw [this]
        by_cases q : c = 111 <;> simp [q]
      have okj := tk_row (n := n) (st := tkUp n rows i) ok hs j
      have hlen : (tkRow n i s (tkUp n rows i) j).1.length < 100000 := by have := okj.len; omega
      rw [Int.zero_add, tkRow_succ]
      generalize tkRow n i s (tkUp n rows i) j = st at okj hlen
      walk_at "nrm"
      walk_at "if1" <;> intro hb
      · rw [sign_o, ← hseat] at hb
        apply sx_ifPutT (l' := if tkB2 n st.2 then putA st.1 ((i : Int), (j : Int)) "a" else st.1) (s := ((i : Int), (j : Int))) (n := "a") 0
        · have hd : 0 < 1 + n % 6 := by omega
          walk_at "pv"
        · exact rfl
        · intro _; walk_at "pv"
        · intro _; walk_at "pv"
        · intro _; walk_at "pv"
        · intro hb2
          have hb3 : tkB2 n st.2 = true := hb2
          rw [if_pos hb3]
        · intro hb2
          have hb3 : tkB2 n st.2 = false := hb2
          rw [if_neg (by rw [hb3]; simp)]
        · exact hlen
        walk_at "nrm"
        walk_at "last"
        walk_at "asg"
        walk_at "end"
        · unfold tkCell; rw [if_pos hb]
        · unfold tkCell; rw [if_pos hb]
          exact ⟨rfl, rfl, rfl, rfl, rfl, trivial⟩
      · rw [sign_o, ← hseat] at hb
        have hb' : ¬ seatP s j = true := by simp [hb]
        walk_at "end"
        · unfold tkCell; rw [if_neg hb']
        · unfold tkCell; rw [if_neg hb']
          exact ⟨rfl, rfl, rfl, rfl, rfl, trivial⟩
    · walk_at "end"
      · rw [tkUp_succ hs]
      · rw [tkUp_succ hs]
        exact ⟨rfl, rfl, rfl, rfl, trivial⟩
  · exact sx_retG (p_var rfl) List.mem_cons_self post
local macro_rules | `(tactic| walk_at "pv") => `(tactic| ((with_reducible apply n_law_taken_by) <;> (try walk_at "pv")))

/-! ### a free seat -/
def freeB (rows : List Str) (td : TD) (r p : Int) : Bool := isSeat rows r p && !tkn td r p
def pre_law_free : Pre := fun ds R o => ∃ (rows : List Str) (td : TD) (r p : Int), ds = [.lst (rows.map D.str), tdD td, .int r, .int p] ∧ R = [] ∧ 0 ≤ r ∧ r < (rows.length : Int) ∧ Short rows ∧ o = .ret (.bl (freeB rows td r p))
theorem p_law_free {c : Ct} {G : Res} {ρ : En} {ta tb tc te : TE} {rows : List Str} {td : TD} {r p : Int} {E : XK} (ha : EvP c G ρ ta (.lst (rows.map D.str))) (hb : EvP c G ρ tb (tdD td)) (hc : EvP c G ρ tc (.int r)) (hd : EvP c G ρ te (.int p)) (h0 : 0 ≤ r) (h1 : r < (rows.length : Int)) (hs : Short rows) :
    EvP c G ρ (tCall (spD c.K pre_law_free) [] E (tCons ta (tCons tb (tCons tc (tCons te tNil))))) (.bl (freeB rows td r p)) :=
  p_call (a_cons ha (a_cons hb (a_cons hc (a_cons hd a_nil)))) (R := []) (fun x hx => nomatch hx) ⟨rows, td, r, p, rfl, rfl, h0, h1, hs, rfl⟩
theorem ok_law_free {P : Program} {w : World} {K : PySem.W.Frag} {mg : Str → Option Value} {base : Heap} (T : Top K mg) : FnOk P w K mg base CX0 1 T.a_law_free T.f_law_free ["_law_rows", "_law_taken", "_law_row", "_law_place"] (spD K pre_law_free) := by
  refine fnOk T.F_law_free sc_law_free (fun ds R o h => by obtain ⟨rows, td, r, p, rfl, _⟩ := h; rfl) fun ds R o h cdv A outer s H E hr => ?_
  obtain ⟨rows, td, r, p, rfl, rfl, h0, h1, hsh, rfl⟩ := h
  refine ⟨_, (pss_cons (ps_if (PW.pt (pw_or (pt_cmpR op_lt (pv 3) pe_int (nomark _)) (pw_or (pt_cmpR op_ge (pv 3) (pe_callB call_len_str (by rfl) T.m_len PySem.boot_len (pa_cons (pe_ix ix_list (pv 0) (pv 2) (fun _ _ => rfl)) pa_nil)) (nomark _)) (pw_or1 (pt_cmpR op_ne (pe_ix ix_str (pe_ix ix_list (pv 0) (pv 2) (fun _ _ => rfl)) (pv 3) (fun _ _ => rfl)) pe_str (nomark _))))))
  (pss_one (ps_ret pe_bl))
  pss_nil)
  (pss_one (ps_ret (pe_cmp (pc_dnotin (hu_of hr) (pe_tup (pa_cons (pv 2) (pa_cons (pv 3) pa_nil))) (pv 1)))))), fun F Q post => ?_⟩
  walk_at "go"
  obtain ⟨s, hs⟩ : ∃ s, rows[r.toNat]? = some s := ⟨_, List.getElem?_eq_getElem (by omega)⟩
  have hat : atI (rows.map D.str) r = some (.str s) := at_m (f := D.str) h0 hs
  have hz := hsh.at hs
  by_cases hp : 0 ≤ p ∧ p < (s.length : Int)
  · obtain ⟨c, hc⟩ : ∃ c, s.cps.toList[p.toNat]? = some c := ⟨_, List.getElem?_eq_getElem (by have := cps_len s; omega)⟩
    have hat2 := at_sign hp.1 hc
    have hseat := isSeat_at h0 hs hp.1 hc
    unfold freeB at post
    rw [hseat] at post
    walk_at "when" <;> intro hb
    · have hb' : decide (c = 111) = false := by
        rw [sign_o] at hb
        simp at hb
        rcases hb with hb | hb
        · omega
        · rcases hb with hb | hb
          · omega
          · simpa using hb
      rw [hb'] at post
      walk_at "ret"
      rfl
    · have hb' : decide (c = 111) = true := by
        rw [sign_o] at hb
        simp at hb
        simpa using hb.2.2
      rw [hb'] at post
      walk_at "ret"
      rfl
  · have hseat := isSeat_place hs hp
    unfold freeB at post
    rw [hseat] at post
    apply sx_when (b := true)
    · by_cases h : p < 0
      · refine EvT.is (t_or (a := decide (p < 0)) (b := true) ?_ fun q => ?_) (by simp [h])
        · walk_at "pv"
        · simp [h] at q
      · refine EvT.is (t_or (a := decide (p < 0)) (b := true) ?_ fun q => ?_) (by simp)
        · walk_at "pv"
        · refine EvT.is (t_or (a := decide ((s.length : Int) ≤ p)) (b := true) ?_ fun q => ?_) (by simp)
          · walk_at "pv"
          · simp at q
            omega
    · intro _
      walk_at "ret"
      rfl
    · intro hb; cases hb
local macro_rules | `(tactic| walk_at "pv") => `(tactic| ((with_reducible apply p_law_free) <;> (try walk_at "pv")))

/-! ### one run held against the hall -/
structure RunFree (rows : List Str) (td : TD) (r p n ar ap : Int) : Prop where
  r0 : 0 ≤ r
  r1 : r < (rows.length : Int)
  n1 : 1 ≤ n
  n60 : n ≤ 60
  p0 : 0 ≤ p
  p100 : p ≤ 100
  lt : ar < r ∨ (ar = r ∧ ap < p)
  ins : ∀ q, p ≤ q → q < p + n → freeB rows td r q = true
  left : freeB rows td r (p - 1) = false
  right : freeB rows td r (p + n) = false
theorem lexLt_two {a b x y : Int} (h : a < x ∨ (a = x ∧ b < y)) : HT.lexLt [a, b] [x, y] = true := by
  rw [Xb.lex2]
  simp
  omega
def pre_law_run : Pre := fun ds R o => ∃ (rows : List Str) (td : TD) (r p n ar ap : Int), ds = [.lst (rows.map D.str), tdD td, encRun (r, p, n), encSpot (ar, ap)] ∧ R = [] ∧ rows.length ≤ 100 ∧ Short rows ∧ RunFree rows td r p n ar ap ∧ o = .ret (.bl true)
theorem p_law_run {c : Ct} {G : Res} {ρ : En} {ta tb tc te : TE} {rows : List Str} {td : TD} {r p n ar ap : Int} {E : XK} (ha : EvP c G ρ ta (.lst (rows.map D.str))) (hb : EvP c G ρ tb (tdD td)) (hc : EvP c G ρ tc (encRun (r, p, n))) (hd : EvP c G ρ te (encSpot (ar, ap))) (hl : rows.length ≤ 100) (hs : Short rows) (ok : RunFree rows td r p n ar ap) :
    EvP c G ρ (tCall (spD c.K pre_law_run) [] E (tCons ta (tCons tb (tCons tc (tCons te tNil))))) (.bl true) :=
  p_call (a_cons ha (a_cons hb (a_cons hc (a_cons hd a_nil)))) (R := []) (fun x hx => nomatch hx) ⟨rows, td, r, p, n, ar, ap, rfl, rfl, hl, hs, ok, rfl⟩
theorem ok_law_run {P : Program} {w : World} {K : PySem.W.Frag} {mg : Str → Option Value} {base : Heap} (T : Top K mg) : FnOk P w K mg base CX0 2 T.a_law_run T.f_law_run ["_law_rows", "_law_taken", "_law_run_here", "_law_ahead"] (spD K pre_law_run) := by
  refine fnOk T.F_law_run sc_law_run (fun ds R o h => by obtain ⟨rows, td, r, p, n, ar, ap, rfl, _⟩ := h; rfl) fun ds R o h cdv A outer s H E hr => ?_
  obtain ⟨rows, td, r, p, n, ar, ap, rfl, rfl, hl, hsh, ok, rfl⟩ := h
  refine ⟨_, (pss_cons (ps_if (PW.pt (pw_or (pt_not (pt_val (pe_callB call_isi (by rfl) T.m_isinstance PyProof.Rows.boot_isinstance (pa_cons (pv 2) (pa_cons (pe_bltn (v := .ty "tuple") (by rfl) T.m_tuple PyProof.Rows.boot_tuple rfl) pa_nil))))) (pw_or1 (pt_cmpR op_ne (pe_callB call_len_seq (by rfl) T.m_len PySem.boot_len (pa_cons (pv 2) pa_nil)) pe_int (nomark _)))))
  (pss_one (ps_ret pe_bl))
  pss_nil)
  (pss_cons (ps_if (PW.pt (pw_or (pt_not (pt_val (pe_call (ok_law_whole T) (hr.mono (by decide)) (by rfl) T.g_law_whole T.F_law_whole.kp T.b_law_whole .nil pass0 (pa_cons (pe_ix ix_tup (pv 2) pe_int (fun _ _ => rfl)) pa_nil)))) (pw_or (pt_not (pt_val (pe_call (ok_law_whole T) (hr.mono (by decide)) (by rfl) T.g_law_whole T.F_law_whole.kp T.b_law_whole .nil pass0 (pa_cons (pe_ix ix_tup (pv 2) pe_int (fun _ _ => rfl)) pa_nil)))) (pw_or1 (pt_not (pt_val (pe_call (ok_law_whole T) (hr.mono (by decide)) (by rfl) T.g_law_whole T.F_law_whole.kp T.b_law_whole .nil pass0 (pa_cons (pe_ix ix_tup (pv 2) pe_int (fun _ _ => rfl)) pa_nil))))))))
  (pss_one (ps_ret pe_bl))
  pss_nil)
  (pss_cons (ps_if (PW.pt (pw_or (pt_cmpR op_lt (pe_ix ix_tup (pv 2) pe_int (fun _ _ => rfl)) pe_int (nomark _)) (pw_or (pt_cmpR op_gt (pe_ix ix_tup (pv 2) pe_int (fun _ _ => rfl)) pe_int (nomark _)) (pw_or (pt_not (pt_cmpR (op_ltT hr.units0) (pv 3) (pe_tup (pa_cons (pe_ix ix_tup (pv 2) pe_int (fun _ _ => rfl)) (pa_cons (pe_ix ix_tup (pv 2) pe_int (fun _ _ => rfl)) pa_nil))) (nomark _))) (pw_or1 (pt_cmpR op_ge (pe_ix ix_tup (pv 2) pe_int (fun _ _ => rfl)) (pe_callB call_len_seq (by rfl) T.m_len PySem.boot_len (pa_cons (pv 0) pa_nil)) (nomark _)))))))
  (pss_one (ps_ret pe_bl))
  pss_nil)
  (pss_cons (ps_for PassesOwn.never rfl (pi_range2 (by rfl) T.m_range (pa_cons (pe_ix ix_tup (pv 2) pe_int (fun _ _ => rfl)) (pa_cons (pe_op op_add (pe_ix ix_tup (pv 2) pe_int (fun _ _ => rfl)) (pe_ix ix_tup (pv 2) pe_int (fun _ _ => rfl))) pa_nil))) (pg_name (i := 4) sc_law_run.nd rfl (Or.inl rfl))
  (pss_one (ps_if (pt_not (pt_val (pe_call (ok_law_free T) (hr.mono (by decide)) (by rfl) T.g_law_free T.F_law_free.kp T.b_law_free .nil pass0 (pa_cons (pv 0) (pa_cons (pv 1) (pa_cons (pe_ix ix_tup (pv 2) pe_int (fun _ _ => rfl)) (pa_cons (pv 4) pa_nil)))))))
  (pss_one (ps_ret pe_bl))
  pss_nil)))
  (pss_one (ps_ret (pe_and (pe_not (pe_call (ok_law_free T) (hr.mono (by decide)) (by rfl) T.g_law_free T.F_law_free.kp T.b_law_free .nil pass0 (pa_cons (pv 0) (pa_cons (pv 1) (pa_cons (pe_ix ix_tup (pv 2) pe_int (fun _ _ => rfl)) (pa_cons (pe_op op_sub (pe_ix ix_tup (pv 2) pe_int (fun _ _ => rfl)) pe_int) pa_nil)))))) (pe_one (pe_not (pe_call (ok_law_free T) (hr.mono (by decide)) (by rfl) T.g_law_free T.F_law_free.kp T.b_law_free .nil pass0 (pa_cons (pv 0) (pa_cons (pv 1) (pa_cons (pe_ix ix_tup (pv 2) pe_int (fun _ _ => rfl)) (pa_cons (pe_op op_add (pe_ix ix_tup (pv 2) pe_int (fun _ _ => rfl)) (pe_ix ix_tup (pv 2) pe_int (fun _ _ => rfl))) pa_nil)))))))))))))), fun F Q post => ?_⟩
  walk_at "go"
  have h1 := ok.n1
  have h2 := ok.n60
  have h3 := ok.p0
  have h4 := ok.p100
  have r0 := ok.r0
  have r1 := ok.r1
  have e1 : ((rows.map D.str).length : Int) = (rows.length : Int) := by simp
  have hty : (encRun (r, p, n)).tyN = "tuple" := rfl
  walk_at "skip"
  · rfl
  walk_at "skip"
  · rfl
  have hlt := lexLt_two ok.lt
  apply sx_skip
  · refine EvT.is (t_or (a := decide (n < 1)) (b := false) ?_ fun _ => ?_) (by simp; omega)
    · walk_at "pv"
    refine EvT.is (t_or (a := decide (60 < n)) (b := false) ?_ fun _ => ?_) (by simp; omega)
    · walk_at "pv"
    refine EvT.is (t_or (a := !HT.lexLt [ar, ap] [r, p]) (b := false) ?_ fun _ => ?_) (by rw [hlt]; rfl)
    · apply t_not
      apply t_test
      apply p_ltT (ns := [ar, ap]) (ms := [r, p])
      · exact p_var rfl
      · show EvP _ _ _ _ (encSpot (r, p))
        walk_at "pv"
    refine EvT.is (b := false) (a := decide ((rows.length : Int) ≤ r)) ?_ (by simp; omega)
    rw [← e1]
    walk_at "pv"
  refine sx_forR (lo := p) (n := n.toNat) (fun _ => []) (fun _ => [some (.lst (rows.map D.str)), some (tdD td), some (encRun (r, p, n)), some (encSpot (ar, ap)), none]) ?_ rfl ⟨rfl, rfl, rfl, rfl, trivial⟩ (fun i hi S' hS => ?_) ?_
  · have e2 : n.toNat = (p + n - p).toNat := by rw [show p + n - p = n by omega]
    rw [e2]
    apply i_range2 <;> walk_at "pv"
  · have hseat := ok.ins (p + (i : Int)) (by omega) (by omega)
    walk_at "nrm"
    walk_at "last"
    walk_at "skip"
    · rw [hseat]; rfl
    walk_at "end"
    · rfl
    · walk_at "le"
  · walk_at "ret"
    rw [ok.left, ok.right]
    rfl
local macro_rules | `(tactic| walk_at "pv") => `(tactic| ((with_reducible apply p_law_run) <;> (try walk_at "pv")))

/-! ### the law -/
def sp_law (K : PySem.W.Frag) : Sp := fun vs H Q _ => ∃ (a : Addr) (ns : List Int), vs = [.ref a] ∧ SqL K H a (ns.map V.int) ∧ ns.length ≤ 63 ∧ (∀ z ∈ ns, Builtin.Int.intBits z ≤ 1048576) ∧ ∀ H', Q (.bl true) H'
def pre_law : Pre := fun ds R o => ∃ (a : Addr) (ns : List Int), ds = [.ref a] ∧ R = [(a, .scr ns)] ∧ ns.length ≤ 63 ∧ (∀ z ∈ ns, Builtin.Int.intBits z ≤ 1048576) ∧ o = .ret (.bl true)
theorem law_imp {K : PySem.W.Frag} (vs : List V) (H : Hp) (Q : VK) (E : XK) (h : sp_law K vs H Q E) : spD K pre_law vs H Q E := by
  obtain ⟨a, ns, rfl, hS, h63, hb, q⟩ := h
  refine ⟨fun _ => none, [.ref a], [(a, .scr ns)], .ret (.bl true), (fun _ _ e => by cases e), .cons (.ref a) .nil, fun x hx => ?_, ⟨a, ns, rfl, rfl, h63, hb, rfl⟩, fun v F' H' g r => ?_⟩
  · rcases List.mem_singleton.mp hx with rfl
    exact .inr ⟨a, rfl, hS⟩
  · cases r
    exact q H'

/-! ### the law -/
def aheadOf (ts : List (Nat × Nat × Nat)) : Nat → Int × Int
  | 0 => (-1, -1)
  | i + 1 => match ts[i]? with
    | some t => ((t.1 : Int), (t.2.1 : Int))
    | none => (-1, -1)
theorem ahead_lt {ts : List (Nat × Nat × Nat)} (h : ts.Pairwise fun t u => t.1 < u.1 ∨ (t.1 = u.1 ∧ t.2.1 + t.2.2 < u.2.1)) {i : Nat} {t : Nat × Nat × Nat} (ht : ts[i]? = some t) :
    (aheadOf ts i).1 < (t.1 : Int) ∨ ((aheadOf ts i).1 = (t.1 : Int) ∧ (aheadOf ts i).2 < (t.2.1 : Int)) := by
  cases i with
  | zero =>
    left
    show (-1 : Int) < _
    omega
  | succ i =>
    have hlt := (List.getElem?_eq_some_iff.mp ht).1
    have hi : i < ts.length := by omega
    have e : ts[i]? = some ts[i] := List.getElem?_eq_getElem hi
    have hp := List.pairwise_iff_getElem.mp h i (i + 1) hi hlt (by omega)
    have e2 : ts[i + 1] = t := (List.getElem?_eq_some_iff.mp ht).2
    rw [e2] at hp
    have ea : aheadOf ts (i + 1) = ((ts[i].1 : Int), (ts[i].2.1 : Int)) := by
      show (match ts[i]? with | some t => ((t.1 : Int), (t.2.1 : Int)) | none => (-1, -1)) = _
      rw [e]
    rw [ea]
    show (ts[i].1 : Int) < _ ∨ ((ts[i].1 : Int) = _ ∧ (ts[i].2.1 : Int) < _)
    omega
theorem sum_take_succ {ts : List (Nat × Nat × Nat)} {i : Nat} {t : Nat × Nat × Nat} (ht : ts[i]? = some t) : ((ts.take (i + 1)).map (·.2.2)).sum = ((ts.take i).map (·.2.2)).sum + t.2.2 := by
  rw [List.take_add_one, ht]
  simp [List.sum_append_nat]
theorem cast_sum {α : Type} (f : α → Nat) : ∀ l : List α, (l.map fun x => ((f x : Nat) : Int)).sum = (((l.map f).sum : Nat) : Int)
  | [] => rfl
  | x :: l => by
    rw [List.map_cons, List.sum_cons, cast_sum f l, List.map_cons, List.sum_cons]
    omega
theorem free_nat {rows : List Str} {td : TD} {r : Nat} {s : Str} (hs : rows[r]? = some s) (p : Nat) : freeB rows td (r : Int) (p : Int) = seatP (shownS td (r : Int) s 46) p := by
  rw [shown_seat, freeB, isSeat_nat hs]
theorem free_neg {rows : List Str} {td : TD} {r p : Int} (h : p < 0) : freeB rows td r p = false := by
  rw [freeB, isSeat_neg h]; rfl
theorem runFree_of {rows : List Str} {td : TD} {t : Nat × Nat × Nat} (hsh : ∀ s ∈ rows, s.length ≤ 60) (ht : t ∈ hallTs blocksRow 0 (shown 0 td rows 46)) {ar ap : Int} (hlt : ar < (t.1 : Int) ∨ (ar = (t.1 : Int) ∧ ap < (t.2.1 : Int))) : RunFree rows td (t.1 : Int) (t.2.1 : Int) (t.2.2 : Int) ar ap := by
  obtain ⟨_, s', hs', hb⟩ := hallTs_mem _ 0 t ht
  rw [Nat.sub_zero, shown_at, Nat.zero_add] at hs'
  obtain ⟨s, hs, rfl⟩ := Option.map_eq_some_iff.mp hs'
  have k := blocksRow_ok (shownS td (t.1 : Int) s 46)
  have hl := k.lt _ hb
  have ok := k.ok _ hb
  have h60 := hsh s (List.mem_of_getElem? hs)
  rw [shownS_len] at hl
  have hr := (List.getElem?_eq_some_iff.mp hs).1
  refine ⟨by omega, by omega, by have := ok.1; omega, by omega, by omega, by omega, hlt, fun q h1 h2 => ?_, ?_, ?_⟩
  · obtain ⟨n, rfl⟩ : ∃ n : Nat, q = (n : Int) := ⟨q.toNat, by omega⟩
    rw [free_nat hs]
    exact ok.2.1 n (by omega) (by omega)
  · rcases ok.2.2.1 with h0 | h0
    · exact free_neg (by omega)
    · by_cases hz : t.2.1 = 0
      · exact free_neg (by omega)
      · rw [show ((t.2.1 : Int) - 1) = ((t.2.1 - 1 : Nat) : Int) by omega, free_nat hs]
        exact h0
  · rw [show ((t.2.1 : Int) + (t.2.2 : Int)) = ((t.2.1 + t.2.2 : Nat) : Int) by omega, free_nat hs]
    exact ok.2.2.2
theorem good_ok {s : Str} (h : GoodRow s) : PyData.strOk s = true := by
  unfold PyData.strOk
  rw [Array.all_eq_true]
  intro i hi
  have hm : s.cps[i] ∈ s.cps.toList := by simp
  rcases h.2 _ hm with e | e <;> rw [e] <;> decide
theorem pl_rows {rows : List Str} (h : ∀ s ∈ rows, GoodRow s) : Pl 1 (.lst (rows.map D.str)) := by
  intro d hd
  obtain ⟨s, hs, rfl⟩ := List.mem_map.mp hd
  exact good_ok (h s hs)
theorem ok_law {P : Program} {w : World} {K : PySem.W.Frag} {mg : Str → Option Value} {base : Heap} (T : Top K mg) : FnOk P w K mg base CX0 4 T.a_law T.f_law ["_law_script"] (sp_law K) := by
  refine FnOk.imp (sp := spD K pre_law) ?_ law_imp
  refine fnOk T.F_law sc_law (fun ds R o h => by obtain ⟨a, ns, rfl, _⟩ := h; rfl) fun ds R o h cdv A outer s H E hr => ?_
  obtain ⟨a, ns, rfl, rfl, h63, hbits, rfl⟩ := h
  refine ⟨_, (pss_cons (ps_set (i := 1) sc_law.nd rfl (Or.inl rfl) (pe_call (ok_law_hall_by T) (hr.mono (by decide)) (by rfl) T.g_law_hall_by T.F_law_hall_by.kp T.b_law_hall_by .nil pass0 (pa_cons (pv 0) (pa_cons pe_int pa_nil))))
  (pss_cons (ps_set (i := 2) sc_law.nd rfl (Or.inl rfl) (pe_call (ok_law_taken_by T) (hr.mono (by decide)) (by rfl) T.g_law_taken_by T.F_law_taken_by.kp T.b_law_taken_by .nil pass0 (pa_cons (pv 1) (pa_cons (pe_call (ok_law_cell_at T) (hr.mono (by decide)) (by rfl) T.g_law_cell_at T.F_law_cell_at.kp T.b_law_cell_at .nil pass0 (pa_cons (pv 0) (pa_cons pe_int pa_nil))) pa_nil))))
  (pss_cons (ps_set (i := 3) sc_law.nd rfl (Or.inl rfl) (pe_lst (pa_cons (pe_callTy call_list_of (by rfl) T.m_list PyProof.Rows.boot_list (pa_cons (pv 1) pa_nil)) (pa_cons (pe_callTy (Xg.call_dictT hr.units) (by rfl) T.m_dict PyProof.Rows.boot_dict (pa_cons (pv 2) pa_nil)) pa_nil))))
  (pss_cons (ps_set (i := 4) sc_law.nd rfl (Or.inl rfl) (pe_call (ok_runs_of T) (hr.mono (by decide)) (by rfl) T.g_runs_of T.F_runs_of.kp T.b_runs_of .nil pass0 (pa_cons (pe_ix ix_list (pv 3) pe_int (fun _ _ => rfl)) (pa_cons (pe_ix ix_list (pv 3) pe_int (fun _ _ => rfl)) pa_nil))))
  (pss_cons (ps_if (PW.pt (pw_or (pt_not (pt_val (pe_callB call_isi (by rfl) T.m_isinstance PyProof.Rows.boot_isinstance (pa_cons (pv 4) (pa_cons (pe_bltn (v := .ty "list") (by rfl) T.m_list PyProof.Rows.boot_list rfl) pa_nil))))) (pw_or (pt_cmpR (op_neD hr.units) (pe_ix ix_list (pv 3) pe_int (fun _ _ => rfl)) (pv 1) (nomark _)) (pw_or1 (pt_cmpR (Xg.op_neT hr.units) (pe_ix ix_list (pv 3) pe_int (fun _ _ => rfl)) (pv 2) (nomark _))))))
  (pss_one (ps_ret pe_bl))
  pss_nil)
  (pss_cons (ps_set (i := 5) sc_law.nd rfl (Or.inl rfl) (pe_tup (pa_cons (pe_un un_neg pe_int) (pa_cons (pe_un un_neg pe_int) pa_nil))))
  (pss_cons (ps_set (i := 6) sc_law.nd rfl (Or.inl rfl) (pe_op op_sub (pe_callB (cr_sum rfl) (by rfl) T.m_sum PyProof.Rows.boot_sum (pa_cons (by exact (pe_lc (own := [("_law_line", 8)]) (g := (gName 8)) (tt := tYes) rfl sc_law.nd (by exact (pi_list (pv 1))) (blkOk_by (N := ["_law_script", "_law_rows", "_law_taken", "_law_handed", "_law_found", "_law_ahead", "_law_left", "_law_run_here", "_law_line"]) (sc := defScope s_law) (by decide +kernel)) (fun _ _ _ _ _ => by exact (pg_name (i := 8) sc_law.nd rfl (Or.inl rfl))) (fun _ _ _ _ _ => by exact pts_nil) (fun _ _ _ _ _ => by exact (pe_m1 PySem.F.slot_str_count PySem.F.type_str_count mt_count (pv 8) pe_str)))) pa_nil)) (pe_callB call_len_dT (by rfl) T.m_len PySem.boot_len (pa_cons (pv 2) pa_nil))))
  (pss_cons (ps_for PassesOwn.never rfl (pi_list (pv 4)) (pg_name (i := 7) sc_law.nd rfl (Or.inl rfl))
  (pss_cons (ps_if (pt_not (pt_val (pe_call (ok_law_run T) (hr.mono (by decide)) (by rfl) T.g_law_run T.F_law_run.kp T.b_law_run .nil pass0 (pa_cons (pv 1) (pa_cons (pv 2) (pa_cons (pv 7) (pa_cons (pv 5) pa_nil)))))))
  (pss_one (ps_ret pe_bl))
  pss_nil)
  (pss_cons (ps_set (i := 5) sc_law.nd rfl (Or.inl rfl) (pe_tup (pa_cons (pe_ix ix_tup (pv 7) pe_int (fun _ _ => rfl)) (pa_cons (pe_ix ix_tup (pv 7) pe_int (fun _ _ => rfl)) pa_nil))))
  (pss_one (ps_set (i := 6) sc_law.nd rfl (Or.inl rfl) (pe_op op_sub (pv 6) (pe_ix ix_tup (pv 7) pe_int (fun _ _ => rfl))))))))
  (pss_one (ps_ret (pe_cmpR op_eq (pv 6) pe_int (nomark _)))))))))))), fun F Q post => ?_⟩
  walk_at "go"
  have hg := hallBy_good ns 0
  walk_at "asg"
  generalize hallBy ns 0 = rows at hg
  have hsh := hg.short
  have hn100 : rows.length ≤ 100 := by have := hg.2.1; omega
  walk_at "asg"
  have tok := tk_up (n := rowN (cellAt ns 4)) hsh rows.length (Nat.le_refl _)
  have tseat := tkHall_seat (n0 := cellAt ns 4) hsh
  have eT : tkHall (cellAt ns 4) rows = (tkUp (rowN (cellAt ns 4)) rows rows.length).1 := rfl
  rw [← eT] at tok
  clear eT
  generalize tkHall (cellAt ns 4) rows = td at tok tseat
  have h60 : ∀ s ∈ rows, s.length ≤ 60 := fun s hs => (hg.2.2 s hs).1
  have hhash : (td.map fun e => hashS e.1).Nodup := hash_nodup tok.nd fun e he => by
    obtain ⟨r, p, s, q1, q2, q3, _⟩ := tok.mem e he
    have h1 := (List.getElem?_eq_some_iff.mp q1).1
    have h2 := seatP_lt q2
    have h3 := h60 s (List.mem_of_getElem? q1)
    have h4 := hg.2.1
    rw [q3]
    refine ⟨by show (0 : Int) ≤ (r : Int); omega, by show (r : Int) < 43; omega, by show (0 : Int) ≤ (p : Int); omega, by show (p : Int) < 128; omega⟩
  have plr := pl_rows hg.2.2
  walk_at "asg"
  walk_at "asg"
  apply sx_skip
  · refine EvT.is (t_or (a := false) (b := false) ?_ fun _ => ?_) rfl
    · apply EvT.is
      · walk_at "pv"
      · rfl
    refine EvT.is (t_or (a := false) (b := false) ?_ fun _ => ?_) rfl
    · apply t_test
      refine p_neSame (n := 1) ?_ ?_ plr (by decide)
      · walk_at "pv"
      · walk_at "pv"
    · apply t_test
      refine p_neTd (l := td) ?_ ?_
      · walk_at "pv"
      · walk_at "pv"
  apply sx_asg (d := encSpot (-1, -1))
  · walk_at "pv"
  walk_at "nrm"
  have hfc := free_count tok.nd tseat
  rw [seatsK_len, seatsK_len, ← hallTs_sum (g := blocksRow) (fun s => (blocksRow_ok s).sum) (shown 0 td rows 46) 0] at hfc
  have hcount : (rows.map fun s => Txt.count s ("o" : Str)).sum = (((rows.map fun s => ((List.range s.length).filter (seatP s)).length).sum : Nat) : Int) := by
    rw [← cast_sum]
    congr 1
    exact List.map_congr_left fun s _ => count_o s
  have hup := hallTs_up (g := blocksRow) (fun s => (blocksRow_ok s).up) (shown 0 td rows 46) 0
  have hblk : ∀ t ∈ hallTs blocksRow 0 (shown 0 td rows 46), ∀ ar ap : Int, (ar < (t.1 : Int) ∨ (ar = (t.1 : Int) ∧ ap < (t.2.1 : Int))) → RunFree rows td (t.1 : Int) (t.2.1 : Int) (t.2.2 : Int) ar ap := fun t ht ar ap h => runFree_of h60 ht h
  apply sx_asg (d := .int (((hallTs blocksRow 0 (shown 0 td rows 46)).map (·.2.2)).sum : Nat))
  · refine EvP.is (d := .int ((rows.map fun s => Txt.count s ("o" : Str)).sum - (td.length : Int))) ?_ (by rw [hcount]; congr 1; omega)
    walk_at "pv"
  walk_at "nrm"
  have efr : freeRs rows td = (hallTs blocksRow 0 (shown 0 td rows 46)).map tRun := rfl
  rw [efr, List.map_map]
  generalize hallTs blocksRow 0 (shown 0 td rows 46) = ts at hup hblk
  clear hfc hcount efr
  refine sx_forU (us := ts) (enc := fun t => encRun (tRun t)) (gr := []) (fun _ => []) (fun i => [some (.ref a), some (.lst (rows.map D.str)), some (tdD td), some (.lst [.lst (rows.map D.str), tdD td]), some (.lst (ts.map fun t => encRun (tRun t))), some (encSpot (aheadOf ts i)), some (.int (((ts.map (·.2.2)).sum : Nat) - (((ts.take i).map (·.2.2)).sum : Nat) : Int)), none, none]) ?_ (fun x hx => nomatch hx) rfl ?_ (fun i t ht S' hS => ?_) ?_
  · walk_at "pv"
  · refine ⟨rfl, rfl, rfl, rfl, rfl, rfl, ?_, trivial⟩
    simp
  · have hok := hblk t (List.mem_of_getElem? ht) _ _ (ahead_lt hup ht)
    walk_at "nrm"
    walk_at "skip"
    · rfl
    apply sx_asg (d := encSpot ((t.1 : Int), (t.2.1 : Int)))
    · walk_at "pv"
    walk_at "nrm"
    walk_at "last"
    walk_at "asg"
    walk_at "end"
    · rfl
    · have hs := sum_take_succ ht
      have e1 : aheadOf ts (i + 1) = ((t.1 : Int), (t.2.1 : Int)) := by
        show (match ts[i]? with | some t => ((t.1 : Int), (t.2.1 : Int)) | none => (-1, -1)) = _
        rw [ht]
      refine ⟨rfl, rfl, rfl, rfl, rfl, by rw [e1], ?_, trivial⟩
      congr 1
      rw [hs]
      show _ = _ - (t.2.2 : Int)
      omega
  · rw [List.take_length]
    walk_at "ret"
    simp

theorem all_mk {l : PySem.W.OpenLaw} {w : World} {K : PySem.W.Frag} {h : Heap} {mg : Str → Option Value} {fa f0 f1 f2 f3 f4 f5 f6 f7 f8 f9 f10 f11 : Addr} (X : K.In h) (G : h.Ns mainGlobals mg) (hfa : mg "law" = some (.ref fa))
    {od0 an0 od1 an1 od2 an2 od3 an3 od4 an4 od5 an5 od6 an6 od7 an7 od8 an8 od9 an9 od10 an10 od11 an11 : Option Addr} {sl0 sl1 sl2 sl3 sl4 sl5 sl6 sl7 sl8 sl9 sl10 sl11 : Array (Option Value)} {oc0 kV0 dc0 pm0 cd0 ct0 oc1 kV1 dc1 pm1 cd1 ct1 oc2 kV2 dc2 pm2 cd2 ct2 oc3 kV3 dc3 pm3 cd3 ct3 oc4 kV4 dc4 pm4 cd4 ct4 oc5 kV5 dc5 pm5 cd5 ct5 oc6 kV6 dc6 pm6 cd6 ct6 oc7 kV7 dc7 pm7 cd7 ct7 oc8 kV8 dc8 pm8 cd8 ct8 oc9 kV9 dc9 pm9 cd9 ct9 oc10 kV10 dc10 pm10 cd10 ct10 oc11 kV11 dc11 pm11 cd11 ct11 : Value}
    {u0 u1 : Value}
    (a0 : PySem.W.nsIn K mainGlobals "blocks_of" = some (some (.ref f0))) (l0 : K.lookup f0 = some ⟨oc0, od0, .func (PySem.W.fnOf "blocks_of" "blocks_of" (defArgs s_blocks_of) (defBody s_blocks_of) (defScope s_blocks_of) .none kV0 dc0 pm0 an0 cd0 ct0), sl0⟩) (c0 : PySem.W.codeIn K cd0 "blocks_of" = true) (k0 : PySem.W.keepIn K (.ref f0) = true)
    (a1 : PySem.W.nsIn K mainGlobals "blocks_of_row" = some (some (.ref f1))) (l1 : K.lookup f1 = some ⟨oc1, od1, .func (PySem.W.fnOf "blocks_of_row" "blocks_of_row" (defArgs s_blocks_of_row) (defBody s_blocks_of_row) (defScope s_blocks_of_row) .none kV1 dc1 pm1 an1 cd1 ct1), sl1⟩) (c1 : PySem.W.codeIn K cd1 "blocks_of_row" = true) (k1 : PySem.W.keepIn K (.ref f1) = true)
    (a2 : PySem.W.nsIn K mainGlobals "runs_of" = some (some (.ref f2))) (l2 : K.lookup f2 = some ⟨oc2, od2, .func (PySem.W.fnOf "runs_of" "runs_of" (defArgs s_runs_of) (defBody s_runs_of) (defScope s_runs_of) .none kV2 dc2 pm2 an2 cd2 ct2), sl2⟩) (c2 : PySem.W.codeIn K cd2 "runs_of" = true) (k2 : PySem.W.keepIn K (.ref f2) = true)
    (a3 : PySem.W.nsIn K mainGlobals "with_taken" = some (some (.ref f3))) (l3 : K.lookup f3 = some ⟨oc3, od3, .func (PySem.W.fnOf "with_taken" "with_taken" (defArgs s_with_taken) (defBody s_with_taken) (defScope s_with_taken) .none kV3 dc3 pm3 an3 cd3 ct3), sl3⟩) (c3 : PySem.W.codeIn K cd3 "with_taken" = true) (k3 : PySem.W.keepIn K (.ref f3) = true)
    (a4 : PySem.W.nsIn K mainGlobals "_law_cell_at" = some (some (.ref f4))) (l4 : K.lookup f4 = some ⟨oc4, od4, .func (PySem.W.fnOf "_law_cell_at" "_law_cell_at" (defArgs s_law_cell_at) (defBody s_law_cell_at) (defScope s_law_cell_at) .none kV4 dc4 pm4 an4 cd4 ct4), sl4⟩) (c4 : PySem.W.codeIn K cd4 "_law_cell_at" = true) (k4 : PySem.W.keepIn K (.ref f4) = true)
    (a5 : PySem.W.nsIn K mainGlobals "_law_whole" = some (some (.ref f5))) (l5 : K.lookup f5 = some ⟨oc5, od5, .func (PySem.W.fnOf "_law_whole" "_law_whole" (defArgs s_law_whole) (defBody s_law_whole) (defScope s_law_whole) .none kV5 dc5 pm5 an5 cd5 ct5), sl5⟩) (c5 : PySem.W.codeIn K cd5 "_law_whole" = true) (k5 : PySem.W.keepIn K (.ref f5) = true)
    (a6 : PySem.W.nsIn K mainGlobals "_law_row_by" = some (some (.ref f6))) (l6 : K.lookup f6 = some ⟨oc6, od6, .func (PySem.W.fnOf "_law_row_by" "_law_row_by" (defArgs s_law_row_by) (defBody s_law_row_by) (defScope s_law_row_by) .none kV6 dc6 pm6 an6 cd6 ct6), sl6⟩) (c6 : PySem.W.codeIn K cd6 "_law_row_by" = true) (k6 : PySem.W.keepIn K (.ref f6) = true)
    (a7 : PySem.W.nsIn K mainGlobals "_law_hall_by" = some (some (.ref f7))) (l7 : K.lookup f7 = some ⟨oc7, od7, .func (PySem.W.fnOf "_law_hall_by" "_law_hall_by" (defArgs s_law_hall_by) (defBody s_law_hall_by) (defScope s_law_hall_by) .none kV7 dc7 pm7 an7 cd7 ct7), sl7⟩) (c7 : PySem.W.codeIn K cd7 "_law_hall_by" = true) (k7 : PySem.W.keepIn K (.ref f7) = true)
    (a8 : PySem.W.nsIn K mainGlobals "_law_taken_by" = some (some (.ref f8))) (l8 : K.lookup f8 = some ⟨oc8, od8, .func (PySem.W.fnOf "_law_taken_by" "_law_taken_by" (defArgs s_law_taken_by) (defBody s_law_taken_by) (defScope s_law_taken_by) .none kV8 dc8 pm8 an8 cd8 ct8), sl8⟩) (c8 : PySem.W.codeIn K cd8 "_law_taken_by" = true) (k8 : PySem.W.keepIn K (.ref f8) = true)
    (a9 : PySem.W.nsIn K mainGlobals "_law_free" = some (some (.ref f9))) (l9 : K.lookup f9 = some ⟨oc9, od9, .func (PySem.W.fnOf "_law_free" "_law_free" (defArgs s_law_free) (defBody s_law_free) (defScope s_law_free) .none kV9 dc9 pm9 an9 cd9 ct9), sl9⟩) (c9 : PySem.W.codeIn K cd9 "_law_free" = true) (k9 : PySem.W.keepIn K (.ref f9) = true)
    (a10 : PySem.W.nsIn K mainGlobals "_law_run" = some (some (.ref f10))) (l10 : K.lookup f10 = some ⟨oc10, od10, .func (PySem.W.fnOf "_law_run" "_law_run" (defArgs s_law_run) (defBody s_law_run) (defScope s_law_run) .none kV10 dc10 pm10 an10 cd10 ct10), sl10⟩) (c10 : PySem.W.codeIn K cd10 "_law_run" = true) (k10 : PySem.W.keepIn K (.ref f10) = true)
    (a11 : PySem.W.nsIn K mainGlobals "law" = some (some (.ref f11))) (l11 : K.lookup f11 = some ⟨oc11, od11, .func (PySem.W.fnOf "law" "law" (defArgs s_law) (defBody s_law) (defScope s_law) .none kV11 dc11 pm11 an11 cd11 ct11), sl11⟩) (c11 : PySem.W.codeIn K cd11 "law" = true) (k11 : PySem.W.keepIn K (.ref f11) = true)
    (z0 : PySem.W.nsIn K mainGlobals "bool" = some none)
    (z1 : PySem.W.nsIn K mainGlobals "dict" = some none)
    (z2 : PySem.W.nsIn K mainGlobals "enumerate" = some none)
    (z3 : PySem.W.nsIn K mainGlobals "int" = some none)
    (z4 : PySem.W.nsIn K mainGlobals "isinstance" = some none)
    (z5 : PySem.W.nsIn K mainGlobals "len" = some none)
    (z6 : PySem.W.nsIn K mainGlobals "list" = some none)
    (z7 : PySem.W.nsIn K mainGlobals "range" = some none)
    (z8 : PySem.W.nsIn K mainGlobals "sum" = some none)
    (z9 : PySem.W.nsIn K mainGlobals "tuple" = some none)
    (v0 : PySem.W.nsIn K mainGlobals "GAP" = some (some u0)) (w0 : RelV (.str ".") u0)
    (v1 : PySem.W.nsIn K mainGlobals "SEAT" = some (some u1)) (w1 : RelV (.str "o") u1)
    : ∃ fd : FuncData, (∀ (s : Shared) (v : Value), BindsTo s fd ⟨[v], []⟩ [("_law_script", v)]) ∧ ∀ base : Heap, K.In base → base.Ns mainGlobals mg → FnOk l.prog w K mg base CX0 4 fa fd ["_law_script"] (sp_law K) := by
  have e := hfa.symm.trans (PySem.W.mg_of X G a11)
  cases e
  have F0 := fun_mk (st := s_blocks_of) l0 c0 k0
  have b0 := F0.binds (ps := ["rows"]) fun _ _ _ _ _ _ us hl => match us, hl with | [_], _ => rfl
  have F1 := fun_mk (st := s_blocks_of_row) l1 c1 k1
  have b1 := F1.binds (ps := ["row", "signs"]) fun _ _ _ _ _ _ us hl => match us, hl with | [_, _], _ => rfl
  have F2 := fun_mk (st := s_runs_of) l2 c2 k2
  have b2 := F2.binds (ps := ["rows", "taken"]) fun _ _ _ _ _ _ us hl => match us, hl with | [_, _], _ => rfl
  have F3 := fun_mk (st := s_with_taken) l3 c3 k3
  have b3 := F3.binds (ps := ["rows", "taken", "sign"]) fun _ _ _ _ _ _ us hl => match us, hl with | [_, _, _], _ => rfl
  have F4 := fun_mk (st := s_law_cell_at) l4 c4 k4
  have b4 := F4.binds (ps := ["_law_script", "_law_k"]) fun _ _ _ _ _ _ us hl => match us, hl with | [_, _], _ => rfl
  have F5 := fun_mk (st := s_law_whole) l5 c5 k5
  have b5 := F5.binds (ps := ["_law_found"]) fun _ _ _ _ _ _ us hl => match us, hl with | [_], _ => rfl
  have F6 := fun_mk (st := s_law_row_by) l6 c6 k6
  have b6 := F6.binds (ps := ["_law_n"]) fun _ _ _ _ _ _ us hl => match us, hl with | [_], _ => rfl
  have F7 := fun_mk (st := s_law_hall_by) l7 c7 k7
  have b7 := F7.binds (ps := ["_law_script", "_law_k"]) fun _ _ _ _ _ _ us hl => match us, hl with | [_, _], _ => rfl
  have F8 := fun_mk (st := s_law_taken_by) l8 c8 k8
  have b8 := F8.binds (ps := ["_law_rows", "_law_n"]) fun _ _ _ _ _ _ us hl => match us, hl with | [_, _], _ => rfl
  have F9 := fun_mk (st := s_law_free) l9 c9 k9
  have b9 := F9.binds (ps := ["_law_rows", "_law_taken", "_law_row", "_law_place"]) fun _ _ _ _ _ _ us hl => match us, hl with | [_, _, _, _], _ => rfl
  have F10 := fun_mk (st := s_law_run) l10 c10 k10
  have b10 := F10.binds (ps := ["_law_rows", "_law_taken", "_law_run_here", "_law_ahead"]) fun _ _ _ _ _ _ us hl => match us, hl with | [_, _, _, _], _ => rfl
  have F11 := fun_mk (st := s_law) l11 c11 k11
  have b11 := F11.binds (ps := ["_law_script"]) fun _ _ _ _ _ _ us hl => match us, hl with | [_], _ => rfl
  let T : Top K mg := ⟨f0, _, F0, b0, (PySem.W.mg_of X G a0), f1, _, F1, b1, (PySem.W.mg_of X G a1), f2, _, F2, b2, (PySem.W.mg_of X G a2), f3, _, F3, b3, (PySem.W.mg_of X G a3), f4, _, F4, b4, (PySem.W.mg_of X G a4), f5, _, F5, b5, (PySem.W.mg_of X G a5), f6, _, F6, b6, (PySem.W.mg_of X G a6), f7, _, F7, b7, (PySem.W.mg_of X G a7), f8, _, F8, b8, (PySem.W.mg_of X G a8), f9, _, F9, b9, (PySem.W.mg_of X G a9), f10, _, F10, b10, (PySem.W.mg_of X G a10), fa, _, F11, b11, (PySem.W.mg_of X G a11), (PySem.W.mg_none_of X G z0), (PySem.W.mg_none_of X G z1), (PySem.W.mg_none_of X G z2), (PySem.W.mg_none_of X G z3), (PySem.W.mg_none_of X G z4), (PySem.W.mg_none_of X G z5), (PySem.W.mg_none_of X G z6), (PySem.W.mg_none_of X G z7), (PySem.W.mg_none_of X G z8), (PySem.W.mg_none_of X G z9), u0, (PySem.W.mg_of X G v0), w0, u1, (PySem.W.mg_of X G v1), w1⟩
  exact ⟨PySem.W.fnOf "law" "law" (defArgs s_law) (defBody s_law) (defScope s_law) .none kV11 dc11 pm11 an11 cd11 ct11, fun s v => .of_eq rfl, fun base _ _ => ok_law T⟩
end Lw
open PySem PySem.W PyProof.Rows in
set_option maxRecDepth 100000 in
set_option maxHeartbeats 0 in
theorem PySem.Challenge.cw_seatplan_k02_free_runs_holds : PySem.Challenge.rw_seatplan_k02_free_runs.Holds := by
  w_on; o_law; k_head; (case hw => w_witness2)
  k_fill
  refine L2.walk_ofB (l := PySem.Challenge.rw_seatplan_k02_free_runs) (n := 63) (k := 4) (x := "_law_script") (CX := fun _ => L2.CX0) (sp := fun w => Lw.sp_law _) rfl (by decide) rfl ⟨rfl, by decide, by decide⟩ (fun w h Y => PySem.W.kIn_of Y) ?F (fun _ _ a ns hl hb _ hS => ⟨a, ns, rfl, hS, hl, hb, fun _ => rfl⟩) (fun _ _ _ _ _ h => h)
  case F =>
    intro w mg fa h KX G hmg
    refine' Lw.all_mk KX G hmg ?a0 ?l0 ?c0 ?k0 ?a1 ?l1 ?c1 ?k1 ?a2 ?l2 ?c2 ?k2 ?a3 ?l3 ?c3 ?k3 ?a4 ?l4 ?c4 ?k4 ?a5 ?l5 ?c5 ?k5 ?a6 ?l6 ?c6 ?k6 ?a7 ?l7 ?c7 ?k7 ?a8 ?l8 ?c8 ?k8 ?a9 ?l9 ?c9 ?k9 ?a10 ?l10 ?c10 ?k10 ?a11 ?l11 ?c11 ?k11 ?z0 ?z1 ?z2 ?z3 ?z4 ?z5 ?z6 ?z7 ?z8 ?z9 ?v0 ?w0 ?v1 ?w1
    (case a0 => first | k_is | exact ⟨_, rfl⟩)
    (case l0 => first | k_is | exact ⟨_, rfl⟩)
    (case c0 => first | k_is | exact ⟨_, rfl⟩)
    (case k0 => first | k_is | exact ⟨_, rfl⟩)
    (case a1 => first | k_is | exact ⟨_, rfl⟩)
    (case l1 => first | k_is | exact ⟨_, rfl⟩)
    (case c1 => first | k_is | exact ⟨_, rfl⟩)
    (case k1 => first | k_is | exact ⟨_, rfl⟩)
    (case a2 => first | k_is | exact ⟨_, rfl⟩)
    (case l2 => first | k_is | exact ⟨_, rfl⟩)
    (case c2 => first | k_is | exact ⟨_, rfl⟩)
    (case k2 => first | k_is | exact ⟨_, rfl⟩)
    (case a3 => first | k_is | exact ⟨_, rfl⟩)
    (case l3 => first | k_is | exact ⟨_, rfl⟩)
    (case c3 => first | k_is | exact ⟨_, rfl⟩)
    (case k3 => first | k_is | exact ⟨_, rfl⟩)
    (case a4 => first | k_is | exact ⟨_, rfl⟩)
    (case l4 => first | k_is | exact ⟨_, rfl⟩)
    (case c4 => first | k_is | exact ⟨_, rfl⟩)
    (case k4 => first | k_is | exact ⟨_, rfl⟩)
    (case a5 => first | k_is | exact ⟨_, rfl⟩)
    (case l5 => first | k_is | exact ⟨_, rfl⟩)
    (case c5 => first | k_is | exact ⟨_, rfl⟩)
    (case k5 => first | k_is | exact ⟨_, rfl⟩)
    (case a6 => first | k_is | exact ⟨_, rfl⟩)
    (case l6 => first | k_is | exact ⟨_, rfl⟩)
    (case c6 => first | k_is | exact ⟨_, rfl⟩)
    (case k6 => first | k_is | exact ⟨_, rfl⟩)
    (case a7 => first | k_is | exact ⟨_, rfl⟩)
    (case l7 => first | k_is | exact ⟨_, rfl⟩)
    (case c7 => first | k_is | exact ⟨_, rfl⟩)
    (case k7 => first | k_is | exact ⟨_, rfl⟩)
    (case a8 => first | k_is | exact ⟨_, rfl⟩)
    (case l8 => first | k_is | exact ⟨_, rfl⟩)
    (case c8 => first | k_is | exact ⟨_, rfl⟩)
    (case k8 => first | k_is | exact ⟨_, rfl⟩)
    (case a9 => first | k_is | exact ⟨_, rfl⟩)
    (case l9 => first | k_is | exact ⟨_, rfl⟩)
    (case c9 => first | k_is | exact ⟨_, rfl⟩)
    (case k9 => first | k_is | exact ⟨_, rfl⟩)
    (case a10 => first | k_is | exact ⟨_, rfl⟩)
    (case l10 => first | k_is | exact ⟨_, rfl⟩)
    (case c10 => first | k_is | exact ⟨_, rfl⟩)
    (case k10 => first | k_is | exact ⟨_, rfl⟩)
    (case a11 => first | k_is | exact ⟨_, rfl⟩)
    (case l11 => first | k_is | exact ⟨_, rfl⟩)
    (case c11 => first | k_is | exact ⟨_, rfl⟩)
    (case k11 => first | k_is | exact ⟨_, rfl⟩)
    (case z0 => first | k_is | exact ⟨_, rfl⟩)
    (case z1 => first | k_is | exact ⟨_, rfl⟩)
    (case z2 => first | k_is | exact ⟨_, rfl⟩)
    (case z3 => first | k_is | exact ⟨_, rfl⟩)
    (case z4 => first | k_is | exact ⟨_, rfl⟩)
    (case z5 => first | k_is | exact ⟨_, rfl⟩)
    (case z6 => first | k_is | exact ⟨_, rfl⟩)
    (case z7 => first | k_is | exact ⟨_, rfl⟩)
    (case z8 => first | k_is | exact ⟨_, rfl⟩)
    (case z9 => first | k_is | exact ⟨_, rfl⟩)
    (case v0 => first | k_is | exact ⟨_, rfl⟩)
    (case w0 => first | k_is | exact ⟨_, rfl⟩)
    (case v1 => first | k_is | exact ⟨_, rfl⟩)
    (case w1 => first | k_is | exact ⟨_, rfl⟩)
