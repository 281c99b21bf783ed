import PyProof.Rows.All
import Wide.All
import OpenK.AllK
import Wide.FinOn
import HandS.ForMost
import HandS.Evl
import HandS.IsInst
import HandS.EndBits
import HandS.Walk
import PyProof.Draws
import PyProof.EnumMake
import HandS.ForExc
import HandS.TryMany
import HandS.DictComp
import HandS.Conv
import HandS.Codes
import HandS.FStr
import HandS.SortRule
import HandS.SortKw
import HandS.TupLe
import HandS.Flow
import HandS.Remove
import HandS.More
import HandS.TupLen
import KE.KDictCopyH
import KE.KEqDict
import HandS.Deep
import KE.DataFind
import HandS.SortOrd
import PyProof.DictCompW
import HandS.TryOnly
import KE.KDictList
import HandS.SetKeys
import HandS.ExcIs
import PyProof.StrOps2
import KE.KMinKey
import PyProof.WalkInts
import PyProof.MinMaxWalk
import KE.GoesComp
import HandS.HotCalls
import HandS.ExcCtx
import PySem.Challenge.RW_seatplan_k05_a_group_sits
set_option Elab.async false
set_option linter.all false
set_option maxRecDepth 100000
set_option maxHeartbeats 4000000
namespace Xb
open PySem PySem.Spec PyProof.Rows L2
/-! ### enumerate(text): each sign in a new pair with its place -/
def IteS (x : Str) : It :=
  ⟨fun i _ => i < x.cps.size, fun i H v H' => ∃ A c, v = .ref A ∧ H A = none ∧ H' = upd H A (.tup [.int (i : Nat), .str ⟨#[c]⟩]) ∧ x.cps[i]? = some c, fun i _ => x.cps.size ≤ i⟩
theorem drawsS {prog : Program} {w : World} {A : Around} (hh : A.handled = none) (it : Addr) (x : Str) (t : Tok) :
    Draws prog w A it [it] x.cps.size (fun i v => ∃ c u, x.cps[i]? = some c ∧ v = .str ⟨#[c]⟩ u) (fun i h => h.IsStrIter it (strIterType x) x t i) := by
  cases ha : x.cps.all (· < 128)
  · have e : strIterType x = "str_iterator" := by simp [strIterType, ha]
    rw [e]
    exact Draws.strWide hh it x t
  · have e : strIterType x = "str_ascii_iterator" := by simp [strIterType, ha]
    rw [e]
    exact Draws.strAscii hh it x t
theorem turn_enumS {P : Program} {w : World} {K : PySem.W.Frag} {elts : List Expr} {kk : Nat} {tpos : Pos} (x : Str) (t : Tok) (e it : Addr) :
    Turn P w K (.Tuple elts kk tpos) (IteS x) [e, it] e (fun i h => (∃ old, IsEnum h e it ((i : Nat) : Int) old) ∧ h.IsStrIter it (strIterType x) x t i ∧ e ≠ it ∧ i ≤ x.cps.size) where
  mem := by simp
  obj := fun i h st b hb => by
    obtain ⟨⟨old, he⟩, ⟨o, ho, hc, hd⟩, _, _⟩ := st
    have e' : b = e ∨ b = it := by simpa using hb
    rcases e' with z | z
    · rw [z]; exact ⟨_, he, fun v q => nomatch q⟩
    · rw [z]; exact ⟨o, ho, fun v q => by rw [hd] at q; cases q⟩
  keep := fun i h h' st k => by
    obtain ⟨⟨old, he⟩, ⟨o, ho, r⟩, hne, hle⟩ := st
    exact ⟨⟨old, k e (by simp) _ he⟩, ⟨o, k it (by simp) o ho, r⟩, hne, hle⟩
  item := by
    intro X hP hw hK hc i pins s σ H E I hf st hg
    subst hP hw hK
    obtain ⟨⟨old, he⟩, hit, hne, hle⟩ := st
    have hel : e < s.heap.objs.size := Heap.lt_size he
    have hil : it < s.heap.objs.size := by obtain ⟨_, q, _⟩ := hit; exact Heap.lt_size q
    have hh : X.A.in1.handled = none := I.ok.hd hc
    refine wpAny_pyNext_enum_itemD (drawsS hh it x t) he hit hg hne (by simpa using hne) fun v h' tk hv ho hit' hT hsz hk => ?_
    obtain ⟨c, u, hcx, rfl⟩ := hv
    refine ⟨_, rfl, wpAny_letOwnedTupleGo_enum (s := { s with heap := h', toks := tk + 1 }) ho fun h'' he' sb => ?_⟩
    have hT2 : h''.get? s.heap.objs.size = some { cls := .type "tuple", data := .seq #[.int i tk, .str ⟨#[c]⟩ u] } := (sb.2 _ (Nat.ne_of_gt hel)).trans hT
    have new : ObjOk X.prog X.w (upd H s.heap.objs.size (.tup [.int (i : Nat), .str ⟨#[c]⟩])) h'' s.heap.objs.size (.tup [.int (i : Nat), .str ⟨#[c]⟩]) :=
      ⟨by show 2 ≤ sizeLine; decide, [.int i tk, .str ⟨#[c]⟩ u], .cons ⟨_, rfl⟩ (.cons ⟨_, rfl⟩ .nil), ⟨_, hT2, rfl, _, rfl⟩⟩
    have I1 : Inv X pins σ (upd H s.heap.objs.size (.tup [.int (i : Nat), .str ⟨#[c]⟩])) { s with heap := h'', toks := tk + 1 } :=
      I.turnedNew (t' := tk + 1) (ch := [e, it]) (fun b ob hb q => (sb.2 b (fun z => hb (by simp [z]))).trans (hk b ob (fun z => hb (by simp [z])) (fun z => hb (by simp [z])) q)) hf (Nat.le_refl _) new
    refine ⟨.ref s.heap.objs.size, _, I1, rfl, ⟨_, c, rfl, I.hok.fresh (Nat.le_refl _), rfl, hcx⟩, ⟨⟨.str ⟨#[c]⟩ u, ?_⟩, ?_, hne, hg⟩, fun b hb => ?_⟩
    · have e1 : ((i + 1 : Nat) : Int) = (i : Int) + 1 := by omega
      rw [e1]; exact he'
    · obtain ⟨o, q, r⟩ := hit'
      exact ⟨o, (sb.2 it (Ne.symm hne)).trans q, r⟩
    · have hb' : b < s.heap.objs.size := by
        have e' : b = e ∨ b = it := by simpa using hb
        rcases e' with z | z
        · rw [z]; exact hel
        · rw [z]; exact hil
      rw [upd_ne (Nat.ne_of_lt hb')]
      exact (hf b hb).1
  done := by
    intro X hP hw hK hc i pins s σ H E I hf st hg
    subst hP hw hK
    obtain ⟨⟨old, he⟩, hit, hne, hle⟩ := st
    obtain ⟨f0, f1, f2, f3, f4, f5⟩ := hf it (by simp)
    have hh : X.A.in1.handled = none := I.ok.hd hc
    have hi : i = x.cps.size := Nat.le_antisymm hle hg
    subst hi
    exact wpAny_pyNext_enum_endD (drawsS hh it x t) he hit fun h' eb => ⟨rfl, I.turned (t' := s.toks) (fun b o hb q => eb b o hb q) f0 f1 f3 f4 f5⟩
  self := fun A i s Q E st h => let ⟨⟨_, he⟩, _⟩ := st; wpAny_pyIter_enum he h
def iEnumS (ta : TA) : TI := fun σ H R => ta σ H fun vs H1 => ∃ x, vs = [.str x] ∧ R (IteS x) H1
theorem pi_enumS {X : Cx} {e : Expr} {ta : TA} {p pos tpos : Pos} {elts : List Expr} {kk : Nat} (hg : Gl X "enumerate") (hm : X.mg "enumerate" = none) (ha : PA X [e] ta) (hs : starEach [e] X.env = [(false, eval e X.env)] := by rfl) :
    PI X (.Tuple elts kk tpos) (.Call (.Name "enumerate" p) [e] [] pos) (iEnumS ta) := by
  refine ⟨fun pins s σ H R I h => ?_⟩
  refine Call_ (ld_blt I hg hm boot_enumerate (PyProof.Rows.callWith_type1 (thn (ha.run pos pins s σ H _ I h) fun us s1 ⟨vs, H1, I1, r1, q1⟩ => ?_) hs rfl))
  obtain ⟨x, ex, q⟩ := q1
  subst ex
  cases r1 with
  | cons r rr =>
    cases rr
    obtain ⟨t, rfl⟩ := r
    refine call_enumerate_str fun h' he hit hsz hk => wpAny_pyIter_enum he ?_
    have I2 : Inv X pins σ H1 { s1 with heap := h' } := I1.kept (t' := s1.toks) hk
    refine ⟨s1.heap.objs.size + 1, [s1.heap.objs.size + 1, s1.heap.objs.size], _, _, H1, rfl, I2, turn_enumS x t (s1.heap.objs.size + 1) s1.heap.objs.size, ⟨⟨.none, he⟩, hit, Nat.succ_ne_self _, Nat.zero_le _⟩, fun b hb => ?_, q⟩
    have e' : b = s1.heap.objs.size + 1 ∨ b = s1.heap.objs.size := by simpa using hb
    have hle : s1.heap.objs.size ≤ b := by
      rcases e' with z | z
      · rw [z]; exact Nat.le_add_right _ _
      · rw [z]; exact Nat.le_refl _
    exact I1.fpOk hle (I1.hok.fresh hle)
end Xb

namespace Xb
open PySem PySem.Spec PyProof.Rows L2 Evl
/-! ### data of any depth stays under an extension -/
section
variable {K : PySem.W.Frag} {H H' : Hp}
mutual
theorem dp_ex (e : Ex H H') : ∀ {d : PyData} {v : V}, Dp K H v d → Dp K H' v d
  | .none, _, h => by cases h; exact .non
  | .bool _, _, h => by cases h; exact .bl _
  | .int _, _, h => by cases h; exact .int _
  | .str _, _, h => by cases h; exact .str _
  | .list ds, _, h => by cases h with | lst hs ha => exact .lst (ex_l e hs) (dpa_ex e ha)
  | .tuple ds, _, h => by cases h with | tup hs ha => exact .tup (ex_t e hs) (dpa_ex e ha)
  | .dict _, _, h => by cases h
theorem dpa_ex (e : Ex H H') : ∀ {ds : List PyData} {vs : List V}, DpAll K H vs ds → DpAll K H' vs ds
  | [], _, h => by cases h; exact .nil
  | d :: ds, _, h => by cases h with | cons h1 h2 => exact .cons (dp_ex e h1) (dpa_ex e h2)
end
theorem dpa_len : ∀ {ds : List PyData} {vs : List V}, DpAll K H vs ds → vs.length = ds.length
  | [], _, h => by cases h; rfl
  | d :: ds, _, h => by cases h with | cons h1 h2 => simp [dpa_len h2]
theorem dpa_app : ∀ {ds es : List PyData} {vs ws : List V}, DpAll K H vs ds → DpAll K H ws es → DpAll K H (vs ++ ws) (ds ++ es)
  | [], _, _, _, h, k => by cases h; exact k
  | d :: ds, _, _, _, h, k => by cases h with | cons h1 h2 => exact .cons h1 (dpa_app h2 k)
theorem dpa_get : ∀ {ds : List PyData} {vs : List V} {i : Nat} {v : V}, DpAll K H vs ds → vs[i]? = some v → ∃ d, ds[i]? = some d ∧ Dp K H v d
  | [], _, _, _, h, q => by cases h; simp at q
  | d :: ds, _, 0, _, h, q => by cases h with | cons h1 h2 => simp at q; subst q; exact ⟨d, rfl, h1⟩
  | d :: ds, _, i + 1, _, h, q => by
    cases h with
    | cons h1 h2 =>
      obtain ⟨d', h3, h4⟩ := dpa_get (i := i) h2 (by simpa using q)
      exact ⟨d', by simpa using h3, h4⟩
theorem dpa_at : ∀ {ds : List PyData} {vs : List V} {i : Nat} {d : PyData}, DpAll K H vs ds → ds[i]? = some d → ∃ v, vs[i]? = some v ∧ Dp K H v d
  | [], _, _, _, h, q => by simp at q
  | d :: ds, _, 0, _, h, q => by cases h with | cons h1 h2 => simp at q; subst q; exact ⟨_, rfl, h1⟩
  | d :: ds, _, i + 1, _, h, q => by
    cases h with
    | cons h1 h2 =>
      obtain ⟨v, hv, hd⟩ := dpa_at h2 (show ds[i]? = some _ by simpa using q)
      exact ⟨v, by simpa using hv, hd⟩
theorem dpa_strs (xs : List Str) : DpAll K H (xs.map V.str) (xs.map PyData.str) := by
  induction xs with
  | nil => exact .nil
  | cons x xs ih => exact .cons (.str x) ih
theorem dpa_ints (xs : List Int) : DpAll K H (xs.map V.int) (xs.map PyData.int) := by
  induction xs with
  | nil => exact .nil
  | cons x xs ih => exact .cons (.int x) ih
theorem dp_strs {a : Addr} {xs : List Str} (h : SqL K H a (xs.map V.str)) : Dp K H (.ref a) (.list (xs.map PyData.str)) := .lst h (dpa_strs xs)
end

/-! ### statements over a base: at every extension of it -/
def Sx (H0 : Hp) (t : TS) (D : Ends) (σ : L2.St) : Prop := ∀ H, Ex H0 H → t D σ H
/-- a value whose data are told -/
def EvD (K : PySem.W.Frag) (te : TE) (σ : L2.St) (H : Hp) (d : PyData) : Prop := ∀ H1, Ex H H1 → ∀ Q : VK, (∀ v H2, Ex H1 H2 → Dp K H2 v d → Q v H2) → te σ H1 Q
section
variable {K : PySem.W.Frag} {σ : L2.St} {H H0 H' : Hp} {ta tb te tx tl : TE} {t u : TT} {x y z v : V} {D : Ends} {tu tw tz : TS} {g : TG} {i j : Nat}
theorem Sx.of (h : ∀ H1, Ex H H1 → Sx H1 tz D σ) : Sx H tz D σ := fun H1 e => h H1 e H1 (Ex.refl H1)
theorem Sx.mono (e : Ex H H') (h : Sx H tz D σ) : Sx H' tz D σ := fun H1 e1 => h H1 (e.trans e1)
theorem Sx.go (h : Sx H tz D σ) : tz D σ H := h H (Ex.refl H)
theorem Sx.at (h : Sx H tz D σ) (e : Ex H H') : tz D σ H' := h H' e
theorem sx_asg (h : Ev te σ H v) (k : Sx H tz D (σ.set i (some v))) : Sx H (tSeq (tAsg te (gName i)) tz) D σ := fun H1 e => q_asg (h.mono e) fun H2 e2 => k H2 (e.trans e2)
theorem sx_asg1 (h : Ev te σ H v) (k : ∀ H1, Ex H H1 → D.nx (σ.set i (some v)) H1) : Sx H (tAsg te (gName i)) D σ := fun H1 e => s_asg (h.mono e) fun H2 e2 => k H2 (e.trans e2)
theorem sx_asgL {xs : List V} (h : EvL te σ H xs) (k : ∀ p H1, H p = none → Ex H H1 → H1 p = some (.lst xs) → Sx H1 tz D (σ.set i (some (.ref p)))) : Sx H (tSeq (tAsg te (gName i)) tz) D σ := fun H1 e => q_asgL (h.mono e) fun p H2 hp e2 h2 => k p H2 (fresh_back e hp) (e.trans e2) h2 H2 (Ex.refl H2)
theorem sx_asgU {xs : List V} (h : EvU te σ H xs) (k : ∀ p H1, H p = none → Ex H H1 → H1 p = some (.tup xs) → Sx H1 tz D (σ.set i (some (.ref p)))) : Sx H (tSeq (tAsg te (gName i)) tz) D σ := fun H1 e => q_asgU (fun H2 e2 => h H2 (e.trans e2)) fun p H2 hp e2 h2 => k p H2 (fresh_back e hp) (e.trans e2) h2 H2 (Ex.refl H2)
theorem sx_asgD {d : PyData} (h : EvD K te σ H d) (k : ∀ v H1, Ex H H1 → Dp K H1 v d → Sx H1 tz D (σ.set i (some v))) : Sx H (tSeq (tAsg te (gName i)) tz) D σ := fun H1 e => h H1 e _ fun v H2 e2 hd => k v H2 (e.trans e2) hd H2 (Ex.refl H2)
theorem sx_if {b : Bool} (h : EvT t σ H b) (h1 : b = true → Sx H tu { D with nx := tz D } σ) (h2 : b = false → Sx H tw { D with nx := tz D } σ) : Sx H (tSeq (tIfS t tu tw) tz) D σ := fun H1 e =>
  q_if (h.mono e) (fun hb H2 e2 => h1 hb H2 (e.trans e2)) fun hb H2 e2 => h2 hb H2 (e.trans e2)
theorem sx_when {b : Bool} (h : EvT t σ H b) (h1 : b = true → Sx H tu { D with nx := tz D } σ) (h2 : b = false → Sx H tz D σ) : Sx H (tSeq (tIfS t tu tNext) tz) D σ := fun H1 e =>
  q_when (h.mono e) (fun hb H2 e2 => h1 hb H2 (e.trans e2)) fun hb H2 e2 => h2 hb H2 (e.trans e2)
theorem sx_if1 {b : Bool} (h : EvT t σ H b) (h1 : b = true → Sx H tu D σ) (h2 : b = false → Sx H tw D σ) : Sx H (tIfS t tu tw) D σ := fun H1 e =>
  s_if (h.mono e) (fun hb H2 e2 => h1 hb H2 (e.trans e2)) fun hb H2 e2 => h2 hb H2 (e.trans e2)
/-- a test that is known: the other branch is never looked at -/
theorem sx_skip (h : EvT t σ H false) (h2 : Sx H tz D σ) : Sx H (tSeq (tIfS t tu tNext) tz) D σ := sx_when h (fun q => nomatch q) fun _ => h2
theorem sx_ret (h : Ev te σ H v) (k : ∀ H1, Ex H H1 → D.rt v H1) : Sx H (tRet te) D σ := fun H1 e => s_ret (h.mono e) fun H2 e2 => k H2 (e.trans e2)
theorem sx_retL {xs : List V} (h : EvL te σ H xs) (k : ∀ p H1, H p = none → Ex H H1 → H1 p = some (.lst xs) → D.rt (.ref p) H1) : Sx H (tRet te) D σ := fun H1 e => s_retL (h.mono e) fun p H2 hp e2 h2 => k p H2 (fresh_back e hp) (e.trans e2) h2
theorem sx_retD {d : PyData} (h : EvD K te σ H d) (k : ∀ v H1, Ex H H1 → Dp K H1 v d → D.rt v H1) : Sx H (tRet te) D σ := fun H1 e => h H1 e _ fun v H2 e2 hd => k v H2 (e.trans e2) hd
theorem sx_next (k : ∀ H1, Ex H H1 → D.nx σ H1) : Sx H tNext D σ := fun H1 e => k H1 e
theorem sx_drop (h : Ev te σ H v) (k : Sx H tz D σ) : Sx H (tSeq (tDrop te) tz) D σ := fun H1 e => q_drop (h.mono e) fun H2 e2 => k H2 (e.trans e2)
theorem sx_drop1 (h : Ev te σ H v) (k : ∀ H1, Ex H H1 → D.nx σ H1) : Sx H (tDrop te) D σ := fun H1 e => s_drop (h.mono e) fun H2 e2 => k H2 (e.trans e2)
theorem sx_aug1 {f : Int → Int → Int} {a b : Int} (hx : σ[i]? = some (some (.int a))) (h : Ev te σ H (.int b)) (k : ∀ H1, Ex H H1 → D.nx (σ.set i (some (.int (f a b)))) H1) : Sx H (tAug i te (ipI f)) D σ := fun H1 e => s_aug hx (h.mono e) fun H2 e2 => k H2 (e.trans e2)
theorem sx_app {l : Addr} {xs : List V} (hl : H l = some (.lst xs)) (ha : Ev ta σ H (.ref l)) (h : Ev te σ H v) (hz : xs.length < 100000) (k : ∀ H1, Ex H H1 → Sx (upd H1 l (.lst (xs ++ [v]))) tz D σ) :
    Sx H (tSeq (tDrop (tBM K "list" rAppend ta (tCons te tNil))) tz) D σ := fun H1 e => q_app (e l _ hl) (ha.mono e) (h.mono e) hz fun H2 e2 => k H2 (e.trans e2) _ (Ex.refl _)
theorem sx_app1 {l : Addr} {xs : List V} (hl : H l = some (.lst xs)) (ha : Ev ta σ H (.ref l)) (h : Ev te σ H v) (hz : xs.length < 100000) (k : ∀ H1, Ex H H1 → D.nx σ (upd H1 l (.lst (xs ++ [v])))) :
    Sx H (tDrop (tBM K "list" rAppend ta (tCons te tNil))) D σ := fun H1 e => s_app (e l _ hl) (ha.mono e) (h.mono e) hz fun H2 e2 => k H2 (e.trans e2)
theorem sx_appU {l : Addr} {xs ys : List V} (hl : H l = some (.lst xs)) (ha : Ev ta σ H (.ref l)) (h : EvU te σ H ys) (hz : xs.length < 100000) (k : ∀ p H1, H p = none → Ex H H1 → H1 p = some (.tup ys) → Sx (upd H1 l (.lst (xs ++ [.ref p]))) tz D σ) :
    Sx H (tSeq (tDrop (tBM K "list" rAppend ta (tCons te tNil))) tz) D σ := fun H1 e => q_appU (e l _ hl) (ha.mono e) (fun H2 e2 => h H2 (e.trans e2)) hz fun p H2 hp e2 h2 => k p H2 (fresh_back e hp) (e.trans e2) h2 _ (Ex.refl _)
theorem sx_appU1 {l : Addr} {xs ys : List V} (hl : H l = some (.lst xs)) (ha : Ev ta σ H (.ref l)) (h : EvU te σ H ys) (hz : xs.length < 100000) (k : ∀ p H1, H p = none → Ex H H1 → H1 p = some (.tup ys) → D.nx σ (upd H1 l (.lst (xs ++ [.ref p])))) :
    Sx H (tDrop (tBM K "list" rAppend ta (tCons te tNil))) D σ := fun H1 e => s_appU (e l _ hl) (ha.mono e) (fun H2 e2 => h H2 (e.trans e2)) hz fun p H2 hp e2 h2 => k p H2 (fresh_back e hp) (e.trans e2) h2
/-- loops; P holds of the turn, the slots and the heap, at every extension -/
theorem sx_forR1 {ta : TA} {n : Int} (h : EvA ta σ H [.int n]) (hn : 0 ≤ n ∧ n ≤ 100000) (Pv : Nat → L2.St → Hp → Prop) (h0 : ∀ H1, Ex H H1 → Pv 0 σ H1)
    (hs : ∀ (i : Nat) σ' H', (i : Int) < n → Pv i σ' H' → Sx H' tu { D with nx := Pv (i + 1), ct := Pv (i + 1), bk := tz D } (σ'.set j (some (.int (i : Int))))) (hd : ∀ σ' H', Pv n.toNat σ' H' → Sx H' tz D σ') : Sx H (tSeq (tFor (iRng1 ta) (gName j) tu) tz) D σ := fun H1 e =>
  q_forR1 (h.mono e) hn Pv (fun H2 e2 => h0 H2 (e.trans e2)) (fun i σ' H' hi p => (hs i σ' H' hi p).go) fun σ' H' p => (hd σ' H' p).go
theorem sx_forR2 {ta : TA} {lo n : Int} (h : EvA ta σ H [.int lo, .int n]) (hn : 0 ≤ lo ∧ lo ≤ 100000 ∧ -100000 ≤ n ∧ n ≤ 100000) (Pv : Nat → L2.St → Hp → Prop) (h0 : ∀ H1, Ex H H1 → Pv 0 σ H1)
    (hs : ∀ (i : Nat) σ' H', lo + (i : Int) < n → Pv i σ' H' → Sx H' tu { D with nx := Pv (i + 1), ct := Pv (i + 1), bk := tz D } (σ'.set j (some (.int (lo + (i : Int)))))) (hd : ∀ σ' H', Pv (n - lo).toNat σ' H' → Sx H' tz D σ') : Sx H (tSeq (tFor (iRng2 ta) (gName j) tu) tz) D σ := fun H1 e =>
  q_forR2 (h.mono e) hn Pv (fun H2 e2 => h0 H2 (e.trans e2)) (fun i σ' H' hi p => (hs i σ' H' hi p).go) fun σ' H' p => (hd σ' H' p).go
theorem sx_forL {a : Addr} {xs : List V} (h : Ev tl σ H (.ref a)) (hx : SqL K H a xs) (Pv : Nat → L2.St → Hp → Prop) (h0 : ∀ H1, Ex H H1 → Pv 0 σ H1) (hl : ∀ i σ' H', i ≤ xs.length → Pv i σ' H' → SqL K H' a xs)
    (hs : ∀ i x σ' H', xs[i]? = some x → Pv i σ' H' → Sx H' tu { D with nx := Pv (i + 1), ct := Pv (i + 1), bk := tz D } (σ'.set j (some x))) (hd : ∀ σ' H', Pv xs.length σ' H' → Sx H' tz D σ') : Sx H (tSeq (tFor (iList K tl) (gName j) tu) tz) D σ := fun H1 e =>
  q_forLn (h.mono e) (ex_l e hx) Pv (fun H2 e2 => h0 H2 (e.trans e2)) hl (fun i x σ' H' hi p => (hs i x σ' H' hi p).go) fun σ' H' p => (hd σ' H' p).go
/-- over a text -/
theorem sx_forS0 {s : Str} (h : Ev tl σ H (.str s)) (Pv : Nat → L2.St → Hp → Prop) (h0 : ∀ H1, Ex H H1 → Pv 0 σ H1)
    (hs : ∀ i c σ' H', s.cps[i]? = some c → Pv i σ' H' → Sx H' tu { D with nx := Pv (i + 1), ct := Pv (i + 1), bk := tz D } (σ'.set j (some (.str ⟨#[c]⟩)))) (hd : ∀ σ' H', Pv s.cps.size σ' H' → Sx H' tz D σ') : Sx H (tSeq (tFor (iStr tl) (gName j) tu) tz) D σ := fun H1 e =>
  h H1 e _ fun H2 e2 => ⟨s, rfl, fun i m σ' H' => m = s.cps.size - i ∧ i ≤ s.cps.size ∧ Pv i σ' H', ⟨_, rfl, Nat.zero_le _, h0 H2 (e.trans e2)⟩, fun i m σ' H' => by
    rintro ⟨rfl, hi, p⟩
    by_cases hlt : i < s.cps.size
    · refine .inr ⟨hlt, Pv (i + 1), fun σ2 H3 p2 => ⟨s.cps.size - (i + 1), by omega, rfl, hlt, p2⟩, fun x H3 hy => ?_⟩
      obtain ⟨rfl, c, hc, rfl⟩ := hy
      exact (hs i c σ' H3 hc p).go
    · have : i = s.cps.size := by omega
      subst this
      exact .inl ⟨Nat.le_refl _, (hd σ' H' p).go⟩⟩
/-- over enumerate(text) -/
theorem sx_forES {s : Str} {ta : TA} {k l : Nat} (h : EvA ta σ H [.str s]) (Pv : Nat → L2.St → Hp → Prop) (h0 : ∀ H1, Ex H H1 → Pv 0 σ H1) (hm : ∀ i σ' H1 H2, Pv i σ' H1 → Ex H1 H2 → Pv i σ' H2)
    (hs : ∀ (i : Nat) c σ' H', s.cps[i]? = some c → Pv i σ' H' → Sx H' tu { D with nx := Pv (i + 1), ct := Pv (i + 1), bk := tz D } ((σ'.set k (some (.int (i : Int)))).set l (some (.str ⟨#[c]⟩)))) (hd : ∀ σ' H', Pv s.cps.size σ' H' → Sx H' tz D σ') :
    Sx H (tSeq (tFor (iEnumS ta) (gTup K 2 (gCons (gName k) (gCons (gName l) gNil))) tu) tz) D σ := fun H1 e =>
  h H1 e _ fun H2 e2 => ⟨s, rfl, fun i m σ' H' => m = s.cps.size - i ∧ i ≤ s.cps.size ∧ Pv i σ' H', ⟨_, rfl, Nat.zero_le _, h0 H2 (e.trans e2)⟩, fun i m σ' H' => by
    rintro ⟨rfl, hi, p⟩
    by_cases hlt : i < s.cps.size
    · refine .inr ⟨hlt, Pv (i + 1), fun σ2 H3 p2 => ⟨s.cps.size - (i + 1), by omega, rfl, hlt, p2⟩, fun x H3 hy => ?_⟩
      obtain ⟨A, c, rfl, hA, rfl, hc⟩ := hy
      refine ⟨A, _, rfl, .inl (.inl upd_same), rfl, _, _, rfl, _, _, rfl, rfl, ?_⟩
      exact (hs i c σ' _ hc (hm _ _ _ _ p (Ex.new hA))).go
    · have : i = s.cps.size := by omega
      subst this
      exact .inl ⟨Nat.le_refl _, (hd σ' H' p).go⟩⟩
/-- over enumerate(list) -/
theorem sx_forEL {a : Addr} {xs : List V} {ta : TA} {k l : Nat} (h : EvA ta σ H [.ref a]) (hx : SqL K H a xs) (Pv : Nat → L2.St → Hp → Prop) (h0 : ∀ H1, Ex H H1 → Pv 0 σ H1) (hm : ∀ i σ' H1 H2, Pv i σ' H1 → Ex H1 H2 → Pv i σ' H2) (hl : ∀ i σ' H', i ≤ xs.length → Pv i σ' H' → SqL K H' a xs)
    (hs : ∀ (i : Nat) x σ' H', xs[i]? = some x → Pv i σ' H' → Sx H' tu { D with nx := Pv (i + 1), ct := Pv (i + 1), bk := tz D } ((σ'.set k (some (.int (i : Int)))).set l (some x))) (hd : ∀ σ' H', Pv xs.length σ' H' → Sx H' tz D σ') :
    Sx H (tSeq (tFor (iEnum K ta) (gTup K 2 (gCons (gName k) (gCons (gName l) gNil))) tu) tz) D σ := fun H1 e =>
  h H1 e _ fun H2 e2 => ⟨a, xs, rfl, ex_l (e.trans e2) hx, fun i m σ' H' => m = xs.length - i ∧ i ≤ xs.length ∧ Pv i σ' H', ⟨_, rfl, Nat.zero_le _, h0 H2 (e.trans e2)⟩, fun i m σ' H' => by
    rintro ⟨rfl, hi, p⟩
    have hL := hl i σ' H' hi p
    by_cases hlt : i < xs.length
    · refine .inr ⟨⟨xs, xs[i], hL, by simp [hlt]⟩, Pv (i + 1), fun σ2 H3 p2 => ⟨xs.length - (i + 1), by omega, rfl, hlt, p2⟩, fun x H3 hy => ?_⟩
      obtain ⟨A, x1, rfl, hA, rfl, hc⟩ := hy
      refine ⟨A, _, rfl, .inl (.inl upd_same), rfl, _, _, rfl, _, _, rfl, rfl, ?_⟩
      exact (hs i x1 σ' _ (hc xs hL) (hm _ _ _ _ p (Ex.new hA))).go
    · have : i = xs.length := by omega
      subst this
      exact .inl ⟨⟨xs, hL, Nat.le_refl _⟩, (hd σ' H' p).go⟩⟩
/-! the same where nothing stands behind the loop -/
theorem sx_last (h : Sx H (tSeq tu tNext) D σ) : Sx H tu D σ := h
end

/-! ### what evaluates to what: further rules -/
section
variable {K : PySem.W.Frag} {σ : L2.St} {H H' : Hp} {ta tb tc te tx : TE} {t u : TT} {x y z v : V} {r r' : R2}
theorem rv_eqI {i j : Int} : RV rEq (.int i) (.int j) H (.bl (decide (i = j))) := fun H1 _ _ q => ⟨rfl, by
  have e : decide (V.int i = V.int j) = decide (i = j) := by simp
  rw [e]; exact q H1 (Ex.refl H1)⟩
theorem rv_neI {i j : Int} : RV rNe (.int i) (.int j) H (.bl (!decide (i = j))) := fun H1 _ _ q => ⟨rfl, by
  have e : decide (V.int i = V.int j) = decide (i = j) := by simp
  rw [e]; exact q H1 (Ex.refl H1)⟩
theorem rv_eqS {i j : Str} : RV rEq (.str i) (.str j) H (.bl (decide (i = j))) := fun H1 _ _ q => ⟨rfl, by
  have e : decide (V.str i = V.str j) = decide (i = j) := by simp
  rw [e]; exact q H1 (Ex.refl H1)⟩
theorem rv_neS {i j : Str} : RV rNe (.str i) (.str j) H (.bl (!decide (i = j))) := fun H1 _ _ q => ⟨rfl, by
  have e : decide (V.str i = V.str j) = decide (i = j) := by simp
  rw [e]; exact q H1 (Ex.refl H1)⟩
theorem rv_eqB {i j : Bool} : RV rEq (.bl i) (.bl j) H (.bl (decide (i = j))) := fun H1 _ _ q => ⟨rfl, by
  have e : decide (V.bl i = V.bl j) = decide (i = j) := by simp
  rw [e]; exact q H1 (Ex.refl H1)⟩
theorem rv_adds {i j : Str} (h : i.length + j.length ≤ 100000) : RV (fun x y H Q => ∃ i j, x = .str i ∧ y = .str j ∧ i.length + j.length ≤ sizeLine ∧ Q (.str (i ++ j)) H) (.str i) (.str j) H (.str (i ++ j)) := fun H1 _ _ q => ⟨i, j, rfl, rfl, sz_of h, q H1 (Ex.refl H1)⟩
theorem rv_eqD {d e : PyData} (hx : Dp K H x d) (hy : Dp K H y e) (s1 : SeqAt.shaped d = true) (s2 : SeqAt.shaped e = true) : RV (rEqD K) x y H (.bl (PyData.eqv d e)) := fun H1 e1 _ q => ⟨d, e, dp_ex e1 hx, dp_ex e1 hy, s1, s2, q H1 (Ex.refl H1)⟩
theorem rv_neD {d e : PyData} (hx : Dp K H x d) (hy : Dp K H y e) (s1 : SeqAt.shaped d = true) (s2 : SeqAt.shaped e = true) : RV (rNeD K) x y H (.bl (!PyData.eqv d e)) := fun H1 e1 _ q => ⟨d, e, dp_ex e1 hx, dp_ex e1 hy, s1, s2, q H1 (Ex.refl H1)⟩
theorem rv_ltT {a b : Addr} {ns ms : List Int} (h1 : SqT K H a (ns.map V.int)) (h2 : SqT K H b (ms.map V.int)) : RV (rLtT K) (.ref a) (.ref b) H (.bl (HT.lexLt ns ms)) := fun H1 e1 _ q => ⟨a, b, ns, ms, rfl, rfl, ex_t e1 h1, ex_t e1 h2, q H1 (Ex.refl H1)⟩
/-- len -/
theorem rc_lenL {p : Addr} {xs : List V} (h : SqL K H p xs) : RC (fun xs H Q => ∃ p ys, xs = [.ref p] ∧ (SqL K H p ys ∨ SqT K H p ys) ∧ Q (.int ys.length) H) [.ref p] H (.int (xs.length : Int)) := fun H1 e1 _ q => ⟨p, xs, rfl, .inl (ex_l e1 h), q H1 (Ex.refl H1)⟩
theorem rc_lenT {p : Addr} {xs : List V} (h : SqT K H p xs) : RC (fun xs H Q => ∃ p ys, xs = [.ref p] ∧ (SqL K H p ys ∨ SqT K H p ys) ∧ Q (.int ys.length) H) [.ref p] H (.int (xs.length : Int)) := fun H1 e1 _ q => ⟨p, xs, rfl, .inr (ex_t e1 h), q H1 (Ex.refl H1)⟩
theorem rc_lenS {s : Str} (h : s.length ≤ 100000) : RC (fun xs H Q => ∃ z, xs = [.str z] ∧ z.length ≤ sizeLine ∧ Q (.int z.length) H) [.str s] H (.int (s.length : Int)) := fun H1 e1 _ q => ⟨s, rfl, sz_of h, q H1 (Ex.refl H1)⟩
theorem rc_abs {i : Int} : RC (fun xs H Q => ∃ i, xs = [.int i] ∧ Q (.int (if i < 0 then -i else i)) H) [.int i] H (.int (if i < 0 then -i else i)) := fun H1 _ _ q => ⟨i, rfl, q H1 (Ex.refl H1)⟩
theorem rc_min2 {i j : Int} : RC (fun xs H Q => ∃ i j, xs = [.int i, .int j] ∧ Q (.int (if j < i then j else i)) H) [.int i, .int j] H (.int (if j < i then j else i)) := fun H1 _ _ q => ⟨i, j, rfl, q H1 (Ex.refl H1)⟩
theorem rc_max2 {i j : Int} : RC (fun xs H Q => ∃ i j, xs = [.int i, .int j] ∧ Q (.int (if j > i then j else i)) H) [.int i, .int j] H (.int (if j > i then j else i)) := fun H1 _ _ q => ⟨i, j, rfl, q H1 (Ex.refl H1)⟩
theorem rc_sum {a : Addr} {ns : List Int} (h : SqL K H a (ns.map V.int)) : RC (rSum K) [.ref a] H (.int ns.sum) := fun H1 e1 _ q => ⟨a, ns, rfl, ex_l e1 h, q H1 (Ex.refl H1)⟩
/-- a built-in of a new list -/
theorem ev_cbL {r : List V → Hp → VK → Prop} {xs : List V} (h : EvL te σ H xs) (hr : ∀ p H1, H1 p = some (.lst xs) → Ex H H1 → RC r [.ref p] H1 z) : Ev (tCB r (tCons te tNil)) σ H z := fun H1 e Q q =>
  h H1 e _ fun p H2 hp e2 h2 => hr p H2 h2 (e.trans e2) H2 (Ex.refl H2) Q fun H3 e3 => q H3 (e2.trans e3)
theorem rcl_list {p : Addr} {xs : List V} (h : SqL K H p xs) : RCL (fun xs H Q => ∃ p ys, xs = [.ref p] ∧ (SqL K H p ys ∨ SqT K H p ys) ∧ ∀ l, H l = none → Q (.ref l) (upd H l (.lst ys))) [.ref p] H xs := fun H1 e1 _ q => ⟨p, xs, rfl, .inl (ex_l e1 h), fun l hl => q l _ hl (Ex.new hl) upd_same⟩
/-- isinstance of a built-in class -/
theorem rc_isi {c : String} {ty : String} {b : Bool} (hx : ∀ H1, Ex H H1 → TyX K H1 x (.type ty)) (hk : kitB ty c = some b) : RC (rIsi K) [x, .ty c] H (.bl b) := fun H1 e1 _ q => ⟨x, .ty c, .type ty, .type c, b, rfl, .ty c, hx H1 e1, kit_ty hk, q H1 (Ex.refl H1)⟩
theorem ty_int {i : Int} : TyX K H (.int i) (.type "int") := .base (.int _)
theorem ty_bl {i : Bool} : TyX K H (.bl i) (.type "bool") := .base (.bl _)
theorem ty_str {i : Str} : TyX K H (.str i) (.type "str") := .base (.str _)
/-- a method of a text -/
theorem ev_bmS {r : V → List V → Hp → VK → Prop} {to : TE} {ta : TA} {s : Str} {vs : List V} (ho : Ev to σ H (.str s)) (ha : EvA ta σ H vs) (hr : RC (r (.str s)) vs H z) : Ev (tBM K "str" r to ta) σ H z := fun H1 e Q q =>
  ho H1 e _ fun H2 e2 => ⟨rfl, ha H2 (e.trans e2) _ fun H3 e3 => hr H3 ((e.trans e2).trans e3) Q fun H4 e4 => q H4 ((e2.trans e3).trans e4)⟩
theorem rc_count {a b : Str} : RC (fun xs H Q => ∃ a' b', V.str a = .str a' ∧ xs = [.str b'] ∧ Q (.int (Txt.count a' b')) H) [.str b] H (.int (Txt.count a b)) := fun H1 e1 _ q => ⟨a, b, rfl, rfl, q H1 (Ex.refl H1)⟩
/-- a slice of a text -/
theorem ev_slS {tl th : TO} {s : Str} {lo hi : Option Int} (h : Ev te σ H (.str s)) (h1 : EvO tl σ H lo) (h2 : EvO th σ H hi) (hz : s.length ≤ 100000) : Ev (tSl rSlS te tl th) σ H (.str (cutS s lo hi)) := fun H1 e _ q =>
  h H1 e _ fun H2 e2 => h1 H2 (e.trans e2) _ fun H3 e3 => h2 H3 ((e.trans e2).trans e3) _ fun H4 e4 => ⟨s, rfl, sz_of hz, q H4 ((e2.trans e3).trans e4)⟩
/-- a chain of two comparisons -/
theorem ev_chain {a b : Bool} (ha : Ev ta σ H x) (hb : Ev tb σ H y) (hr : RV r x y H (.bl a)) (hc : a = true → Ev tc σ H z) (hr2 : a = true → RV r' y z H (.bl b)) : Ev (tChain r r' ta tb tc) σ H (.bl (a && b)) := fun H1 e Q q =>
  ha H1 e _ fun H2 e2 => hb H2 (e.trans e2) _ fun H3 e3 => hr H3 ((e.trans e2).trans e3) _ fun H4 e4 => ⟨a, rfl, by
    have e5 := ((e.trans e2).trans e3).trans e4
    cases a with
    | true =>
      show tc σ H4 _
      exact hc rfl H4 e5 _ fun H6 e6 => hr2 rfl H6 (e5.trans e6) Q fun H7 e7 => q H7 ((((e2.trans e3).trans e4).trans e6).trans e7)
    | false =>
      show Q (.bl false) H4
      exact q H4 ((e2.trans e3).trans e4)⟩
/-- data -/
theorem EvD.mono {d : PyData} (e : Ex H H') (h : EvD K te σ H d) : EvD K te σ H' d := fun H1 a Q q => h H1 (e.trans a) Q q
def SpD (K : PySem.W.Frag) (sp : Sp) (vs : List V) (H : Hp) (d : PyData) : Prop := ∀ H1, Ex H H1 → ∀ Q : VK, (∀ v H2, Ex H1 H2 → Dp K H2 v d → Q v H2) → ∀ E : XK, sp vs H1 Q E
theorem ed_call {sp : Sp} {dvs vs : List V} {E : XK} {ta : TA} {d : PyData} (h : EvA ta σ H vs) (hs : SpD K sp (vs ++ dvs) H d) : EvD K (tCall sp dvs E ta) σ H d := fun H1 e Q q =>
  h H1 e _ fun H2 e2 => hs H2 (e.trans e2) Q (fun v H3 e3 => q v H3 (e2.trans e3)) E
end

/-! ### small arithmetic of places -/
theorem at_map {α : Type} {f : α → V} {xs : List α} {i : Int} {y : α} (h0 : 0 ≤ i) (h : xs[i.toNat]? = some y) : atI (xs.map f) i = some (f y) := by
  have e : i = ((i.toNat : Nat) : Int) := by omega
  rw [e]
  exact atI_nat (by rw [List.getElem?_map, h]; rfl)
theorem at_nat {xs : List V} {i : Int} {y : V} (h0 : 0 ≤ i) (h : xs[i.toNat]? = some y) : atI xs i = some y := by
  have e : i = ((i.toNat : Nat) : Int) := by omega
  rw [e]
  exact atI_nat h
section
variable {K : PySem.W.Frag} {H : Hp}
theorem ty_lst {a : Addr} {xs : List V} (h : SqL K H a xs) : TyX K H (.ref a) (.type "list") := by
  rcases h with (h | ⟨o, h⟩) | h
  · exact .base (.lst h)
  · exact .base (.frz h)
  · obtain ⟨o, its, n, h1, h2, _⟩ := h
    exact .kList h1 h2
theorem ty_tup {a : Addr} {xs : List V} (h : SqT K H a xs) : TyX K H (.ref a) (.type "tuple") := by
  rcases h with (h | ⟨o, h⟩) | h
  · exact .base (.tup h)
  · exact .fTuple h
  · obtain ⟨o, its, n, h1, h2, _⟩ := h
    exact .kTuple h1 h2
end
/-! an implication that a walk opens by itself -/
def Imp (p q : Prop) : Prop := p → q
section
variable {K : PySem.W.Frag} {σ : L2.St} {H H' : Hp} {ta tb tc te : TE} {t u : TT} {x y z v : V} {r r' : R2} {a b : Bool}
theorem et_and2 (h1 : EvT t σ H a) (h2 : Imp (a = true) (EvT u σ H b)) : EvT (tAnd t u) σ H (a && b) := et_and h1 h2
theorem et_or2 (h1 : EvT t σ H a) (h2 : Imp (a = false) (EvT u σ H b)) : EvT (tOr t u) σ H (a || b) := et_or h1 h2
theorem ev_andV2 (h1 : Ev ta σ H (.bl a)) (h2 : Imp (a = true) (Ev tb σ H (.bl b))) : Ev (tAndV ta tb) σ H (.bl (a && b)) := ev_andV h1 h2
theorem ev_orV2 (h1 : Ev ta σ H (.bl a)) (h2 : Imp (a = false) (Ev tb σ H (.bl b))) : Ev (tOrV ta tb) σ H (.bl (a || b)) := ev_orV h1 h2
theorem ev_chain2 (ha : Ev ta σ H x) (hb : Ev tb σ H y) (hr : RV r x y H (.bl a)) (hc : Imp (a = true) (Ev tc σ H z)) (hr2 : Imp (a = true) (RV r' y z H (.bl b))) : Ev (tChain r r' ta tb tc) σ H (.bl (a && b)) := ev_chain ha hb hr hc hr2
end
section
variable {K : PySem.W.Frag} {H : Hp}
theorem is_ii {i : Int} : RC (rIsi K) [.int i, .ty "int"] H (.bl true) := rc_isi (fun _ _ => ty_int) (by decide +kernel)
theorem is_ib {i : Int} : RC (rIsi K) [.int i, .ty "bool"] H (.bl false) := rc_isi (fun _ _ => ty_int) (by decide +kernel)
theorem is_is {i : Int} : RC (rIsi K) [.int i, .ty "str"] H (.bl false) := rc_isi (fun _ _ => ty_int) (by decide +kernel)
theorem is_il {i : Int} : RC (rIsi K) [.int i, .ty "list"] H (.bl false) := rc_isi (fun _ _ => ty_int) (by decide +kernel)
theorem is_bb {i : Bool} : RC (rIsi K) [.bl i, .ty "bool"] H (.bl true) := rc_isi (fun _ _ => ty_bl) (by decide +kernel)
theorem is_bi {i : Bool} : RC (rIsi K) [.bl i, .ty "int"] H (.bl true) := rc_isi (fun _ _ => ty_bl) (by decide +kernel)
theorem is_bs {i : Bool} : RC (rIsi K) [.bl i, .ty "str"] H (.bl false) := rc_isi (fun _ _ => ty_bl) (by decide +kernel)
theorem is_ss {i : Str} : RC (rIsi K) [.str i, .ty "str"] H (.bl true) := rc_isi (fun _ _ => ty_str) (by decide +kernel)
theorem is_si {i : Str} : RC (rIsi K) [.str i, .ty "int"] H (.bl false) := rc_isi (fun _ _ => ty_str) (by decide +kernel)
theorem is_sb {i : Str} : RC (rIsi K) [.str i, .ty "bool"] H (.bl false) := rc_isi (fun _ _ => ty_str) (by decide +kernel)
theorem is_sl {i : Str} : RC (rIsi K) [.str i, .ty "list"] H (.bl false) := rc_isi (fun _ _ => ty_str) (by decide +kernel)
theorem is_ll {a : Addr} {xs : List V} (h : SqL K H a xs) : RC (rIsi K) [.ref a, .ty "list"] H (.bl true) := rc_isi (fun _ e => ty_lst (ex_l e h)) (by decide +kernel)
theorem is_ls {a : Addr} {xs : List V} (h : SqL K H a xs) : RC (rIsi K) [.ref a, .ty "str"] H (.bl false) := rc_isi (fun _ e => ty_lst (ex_l e h)) (by decide +kernel)
theorem is_li {a : Addr} {xs : List V} (h : SqL K H a xs) : RC (rIsi K) [.ref a, .ty "int"] H (.bl false) := rc_isi (fun _ e => ty_lst (ex_l e h)) (by decide +kernel)
theorem is_tt {a : Addr} {xs : List V} (h : SqT K H a xs) : RC (rIsi K) [.ref a, .ty "tuple"] H (.bl true) := rc_isi (fun _ e => ty_tup (ex_t e h)) (by decide +kernel)
theorem is_tl {a : Addr} {xs : List V} (h : SqT K H a xs) : RC (rIsi K) [.ref a, .ty "list"] H (.bl false) := rc_isi (fun _ e => ty_tup (ex_t e h)) (by decide +kernel)
theorem is_ts {a : Addr} {xs : List V} (h : SqT K H a xs) : RC (rIsi K) [.ref a, .ty "str"] H (.bl false) := rc_isi (fun _ e => ty_tup (ex_t e h)) (by decide +kernel)
theorem is_nl : RC (rIsi K) [.non, .ty "list"] H (.bl false) := rc_isi (fun _ _ => .base .non) (by decide +kernel)
theorem is_ns : RC (rIsi K) [.non, .ty "str"] H (.bl false) := rc_isi (fun _ _ => .base .non) (by decide +kernel)
theorem is_ni : RC (rIsi K) [.non, .ty "int"] H (.bl false) := rc_isi (fun _ _ => .base .non) (by decide +kernel)
end
section
variable {σ : L2.St} {H : Hp} {te : TE} {t : TT} {v : V} {D : Ends} {tz : TS} {i : Nat}
/-- if c: x = e: the value that x has behind it -/
theorem sx_ifAsg {b : Bool} (h : EvT t σ H b) (h1 : b = true → Ev te σ H v) (h2 : b = false → σ.set i (some v) = σ) (k : Sx H tz D (σ.set i (some v))) : Sx H (tSeq (tIfS t (tAsg te (gName i)) tNext) tz) D σ :=
  sx_when h (fun hb => sx_asg1 (h1 hb) fun H1 e => k.at e) (fun hb => by have := k; rwa [h2 hb] at this)
end
section
variable {K : PySem.W.Frag} {σ : L2.St} {H : Hp} {z : V} {sp : Sp} {vs xs : List V} {E : XK} {ta : TA} {d : PyData}
theorem ev_call0 (h : EvA ta σ H vs) (hs : SpV sp vs H z) : Ev (tCall sp [] E ta) σ H z := ev_call h (by rw [List.append_nil]; exact hs)
theorem el_call0 (h : EvA ta σ H vs) (hs : SpL sp vs H xs) : EvL (tCall sp [] E ta) σ H xs := el_call h (by rw [List.append_nil]; exact hs)
theorem ed_call0 (h : EvA ta σ H vs) (hs : SpD K sp vs H d) : EvD K (tCall sp [] E ta) σ H d := ed_call h (by rw [List.append_nil]; exact hs)
end
section
variable {σ : L2.St} {H : Hp} {t u : TT} {a b : Bool}
/-! an or, an and, whose first test decides; and whose first does not -/
theorem et_ifT (h1 : EvT t σ H a) (h : a = true) : EvT (tOr t u) σ H true := by subst h; exact et_is (et_or (b := true) h1 fun q => nomatch q) rfl
theorem et_ifF (h1 : EvT t σ H a) (h : a = false) (h2 : EvT u σ H b) : EvT (tOr t u) σ H b := by subst h; exact et_is (et_or h1 fun _ => h2) (by simp)
theorem et_anT (h1 : EvT t σ H a) (h : a = true) (h2 : EvT u σ H b) : EvT (tAnd t u) σ H b := by subst h; exact et_is (et_and h1 fun _ => h2) (by simp)
theorem et_anF (h1 : EvT t σ H a) (h : a = false) : EvT (tAnd t u) σ H false := by subst h; exact et_is (et_and (b := false) h1 fun q => nomatch q) rfl
end
/-! ### a heap without the object at p: what does not lean on p stays when p is changed -/
def era (H : Hp) (p : Addr) : Hp := fun a => if a = p then none else H a
theorem era_ne {H : Hp} {p a : Addr} (h : a ≠ p) : era H p a = H a := by unfold era; rw [if_neg h]
theorem era_ex {H : Hp} {p : Addr} : Ex (era H p) H := fun a o h => by
  by_cases e : a = p
  · unfold era at h; rw [if_pos e] at h; cases h
  · rwa [era_ne e] at h
theorem era_mono {H H' : Hp} {p : Addr} (k : Ex H H') : Ex (era H p) (era H' p) := fun a o h => by
  by_cases e : a = p
  · unfold era at h; rw [if_pos e] at h; cases h
  · rw [era_ne e] at h ⊢; exact k a o h
theorem era_upd {H : Hp} {p : Addr} {o : HO} : era (upd H p o) p = era H p := by
  funext a
  by_cases e : a = p
  · unfold era; rw [if_pos e, if_pos e]
  · rw [era_ne e, era_ne e, upd_ne e]
theorem ex_era {H H' : Hp} {p : Addr} (k : Ex H H') (h : H p = none) : Ex H (era H' p) := fun a o e => by
  have ne : a ≠ p := fun q => by rw [q, h] at e; cases e
  rw [era_ne ne]; exact k a o e
/-! data without lists do not lean on a list -/
mutual
def noL : PyData → Bool
  | .list _ => false
  | .dict _ => false
  | .tuple ds => noLs ds
  | _ => true
def noLs : List PyData → Bool
  | [] => true
  | d :: ds => noL d && noLs ds
end
section
variable {K : PySem.W.Frag} {H : Hp} {l : Addr} {zs : List V}
theorem sqT_era (h : H l = some (.lst zs)) {t : Addr} {xs : List V} (k : SqT K H t xs) : SqT K (era H l) t xs := by
  rcases k with (k | ⟨o, k⟩) | k
  · exact .inl (.inl (by rw [era_ne (fun e => by rw [e, h] at k; cases k)]; exact k))
  · exact .inl (.inr ⟨o, by rw [era_ne (fun e => by rw [e, h] at k; cases k)]; exact k⟩)
  · exact .inr k
mutual
theorem dp_era (h : H l = some (.lst zs)) : ∀ {d : PyData} {v : V}, noL d = true → Dp K H v d → Dp K (era H l) v d
  | .none, _, _, k => by cases k; exact .non
  | .bool _, _, _, k => by cases k; exact .bl _
  | .int _, _, _, k => by cases k; exact .int _
  | .str _, _, _, k => by cases k; exact .str _
  | .list ds, _, n, k => by simp [noL] at n
  | .tuple ds, _, n, k => by cases k with | tup hs ha => exact .tup (sqT_era h hs) (dpa_era h (by simpa [noL] using n) ha)
  | .dict _, _, _, k => by cases k
theorem dpa_era (h : H l = some (.lst zs)) : ∀ {ds : List PyData} {vs : List V}, noLs ds = true → DpAll K H vs ds → DpAll K (era H l) vs ds
  | [], _, _, k => by cases k; exact .nil
  | d :: ds, _, n, k => by
    cases k with
    | cons h1 h2 =>
      have n' : noL d = true ∧ noLs ds = true := by simpa [noLs] using n
      exact .cons (dp_era h n'.1 h1) (dpa_era h n'.2 h2)
end
end
theorem noLs_all : ∀ {ds : List PyData}, (∀ d ∈ ds, noL d = true) → noLs ds = true
  | [], _ => rfl
  | d :: ds, h => by
    show (noL d && noLs ds) = true
    rw [h d (by simp), noLs_all fun x hx => h x (by simp [hx])]
    rfl
/-! ### a new list whose items' data are told -/
def EvDs (K : PySem.W.Frag) (te : TE) (σ : L2.St) (H : Hp) (ds : List PyData) : Prop := ∀ H1, Ex H H1 → ∀ Q : VK, (∀ p xs H2, H1 p = none → Ex H1 H2 → H2 p = some (.lst xs) → DpAll K H2 xs ds → Q (.ref p) H2) → te σ H1 Q
def RetDs (K : PySem.W.Frag) (ds : List PyData) (H : Hp) (Q : VK) : Prop := ∀ p xs H2, H p = none → Ex H H2 → H2 p = some (.lst xs) → DpAll K H2 xs ds → Q (.ref p) H2
def SpDs (K : PySem.W.Frag) (sp : Sp) (vs : List V) (H : Hp) (ds : List PyData) : Prop := ∀ H1, Ex H H1 → ∀ Q : VK, RetDs K ds H1 Q → ∀ E : XK, sp vs H1 Q E
section
variable {K : PySem.W.Frag} {σ : L2.St} {H H' : Hp} {te ta : TE} {D : Ends} {tz : TS} {i : Nat} {ds : List PyData} {sp : Sp} {vs : List V} {E : XK} {tb : TA}
theorem es_call0 (h : EvA tb σ H vs) (hs : SpDs K sp vs H ds) : EvDs K (tCall sp [] E tb) σ H ds := fun H1 e Q q =>
  h H1 e _ fun H2 e2 => by
    rw [List.append_nil]
    exact hs H2 (e.trans e2) Q (fun p xs H3 hp e3 h3 hd => q p xs H3 (fresh_back e2 hp) (e2.trans e3) h3 hd) E
theorem RetDs.go {Q : VK} (k : RetDs K ds H Q) (e : Ex H H') : RetDs K ds H' Q := fun p xs H2 hp e2 h2 hd => k p xs H2 (fresh_back e hp) (e.trans e2) h2 hd
theorem sx_asgDs (h : EvDs K te σ H ds) (k : ∀ p xs H1, H p = none → Ex H H1 → H1 p = some (.lst xs) → DpAll K H1 xs ds → Sx H1 tz D (σ.set i (some (.ref p)))) : Sx H (tSeq (tAsg te (gName i)) tz) D σ := fun H1 e =>
  h H1 e _ fun p xs H2 hp e2 h2 hd => k p xs H2 (fresh_back e hp) (e.trans e2) h2 hd H2 (Ex.refl H2)
/-- l.extend(a new list) -/
theorem sx_extDs1 {l : Addr} {xs : List V} (hl : H l = some (.lst xs)) (ha : Ev ta σ H (.ref l)) (h : EvDs K te σ H ds) (hz : xs.length + ds.length ≤ 100000)
    (k : ∀ p ys H1, H p = none → Ex H H1 → H1 p = some (.lst ys) → DpAll K H1 ys ds → D.nx σ (upd H1 l (.lst (xs ++ ys)))) :
    Sx H (tDrop (tBM K "list" rExtend ta (tCons te tNil))) D σ := fun H1 e => ha H1 e _ fun H2 e2 =>
  ⟨.inl ⟨rfl, xs, sq_of ((e.trans e2) l _ hl)⟩, h H2 (e.trans e2) _ fun p ys H3 hp e3 h3 hd => ⟨l, p, xs, ys, rfl, rfl, ((e.trans e2).trans e3) l _ hl, h3, sz_of (by rw [dpa_len hd]; exact hz), k p ys H3 (fresh_back (e.trans e2) hp) ((e.trans e2).trans e3) h3 hd⟩⟩
end
section
variable {K : PySem.W.Frag} {σ : L2.St} {H : Hp} {ta tb : TE} {a b : Addr} {x y u v : Int}
/-! pairs of whole numbers compared -/
theorem ev_lt2U (ha : Ev ta σ H (.ref a)) (hs : SqT K H a [.int x, .int y]) (hb : EvU tb σ H [.int u, .int v]) : Ev (tOp (rLtT K) ta tb) σ H (.bl (HT.lexLt [x, y] [u, v])) :=
  ev_opU ha hb fun p H1 hp e => rv_ltT (ns := [x, y]) (ms := [u, v]) (ex_t e hs) (st_of hp)
theorem rv_lt2 (h1 : SqT K H a [.int x, .int y]) (h2 : SqT K H b [.int u, .int v]) : RV (rLtT K) (.ref a) (.ref b) H (.bl (HT.lexLt [x, y] [u, v])) := rv_ltT (ns := [x, y]) (ms := [u, v]) h1 h2
theorem lex2 : HT.lexLt [x, y] [u, v] = decide (x < u ∨ (x = u ∧ y < v)) := by
  rw [HT.lexLt_cons]
  by_cases e : x = u
  · rw [if_pos e, HT.lexLt_cons]
    by_cases e2 : y = v
    · rw [if_pos e2, HT.lexLt_nil_nil]
      symm
      apply decide_eq_false
      omega
    · rw [if_neg e2]
      exact decide_eq_decide.mpr (by omega)
  · rw [if_neg e]
    exact decide_eq_decide.mpr (by omega)
end
section
variable {K : PySem.W.Frag} {σ : L2.St} {H : Hp} {ta tb te : TE} {tr : TA} {z v : V} {xs vs : List V} {i : Int} {sp : Sp} {E : XK} {f : Nat → V} {wi : TI}
/-- a new list's item -/
theorem ev_ixNL (ha : EvL ta σ H xs) (hb : Ev tb σ H (.int i)) (h : atI xs i = some z) : Ev (tOp (rIxL K) ta tb) σ H z := ev_opL1 ha (fun H1 e => hb.mono e) fun p H1 hp e => rv_ixL (sq_of hp) h
theorem at_two {x y : V} {c : Int} (h : c = 0 ∨ c = 1) : atI [x, y] c = some (if c = 0 then x else y) := by
  rcases h with rfl | rfl
  · rfl
  · rfl
/-- a call whose first argument is a new list -/
theorem ev_callL (ha : EvL ta σ H xs) (hr : EvA tr σ H vs) (hs : ∀ p H1, SqL K H1 p xs → Ex H H1 → SpV sp (.ref p :: vs) H1 z) : Ev (tCall sp [] E (tCons ta tr)) σ H z := fun H1 e Q q =>
  ha H1 e _ fun p H2 hp e2 h2 => hr H2 (e.trans e2) _ fun H3 e3 => by
    show sp ((.ref p :: vs) ++ []) H3 Q E
    rw [List.append_nil]
    exact hs p H3 (sq_of (e3 _ _ h2)) ((e.trans e2).trans e3) H3 (Ex.refl H3) Q (fun H4 e4 => q H4 ((e2.trans e3).trans e4)) E
theorem et_yes : EvT tYes σ H true := fun H1 _ _ q => q H1 (Ex.refl H1)
theorem given_all (n : Nat) : given n (fun _ => true) f = (List.range n).map f := by
  unfold given
  rw [List.filter_eq_self.mpr (by simp)]
/-- [e for x in xs], xs a list -/
theorem el_map {a : Addr} {tl : TE} {j : Nat} {ws : List Nat} {α : Type} {us : List α} {g h : α → V} (hl : Ev tl σ H (.ref a)) (hx : SqL K H a (us.map g)) (hz : us.length ≤ 40000) (hw : ∀ x, wipe ((wipe σ ws).set j (some x)) ws = wipe σ ws)
    (he : ∀ (u : α) H1, Ex H H1 → u ∈ us → Ev te ((wipe σ ws).set j (some (g u))) H1 (h u)) : EvL (tLc (iList K tl) (gName j) tYes te ws) σ H (us.map h) := by
  have k := el_lcL (K := K) (a := a) (xs := us.map g) (te := te) (t := tYes) (j := j) (vs := ws) (fun _ => true) (fun i => (us[i]?.map h).getD .non) hl hx (by simpa using hz) hw (fun _ _ _ _ _ => et_yes) fun i x H1 e hi _ => by
    rw [List.getElem?_map] at hi
    obtain ⟨u, hu, rfl⟩ := Option.map_eq_some_iff.mp hi
    rw [hu]
    exact he u H1 e (List.mem_of_getElem? hu)
  rw [given_all] at k
  have e : (List.range (us.map g).length).map (fun i => (us[i]?.map h).getD .non) = us.map h := by
    apply List.ext_getElem?
    intro i
    rw [List.getElem?_map, List.getElem?_map]
    by_cases hi : i < us.length
    · rw [List.getElem?_range (by simpa using hi), List.getElem?_eq_getElem hi]
      simp [List.getElem?_eq_getElem hi]
    · rw [List.getElem?_eq_none (by simpa using hi), List.getElem?_eq_none (by omega)]
      rfl
  rw [e] at k
  exact k
end
/-! equal texts in a list -/
theorem shaped_strs {xs : List Str} (h : ∀ s ∈ xs, PyData.strOk s = true) : SeqAt.shaped (.list (xs.map PyData.str)) = true := by
  have h1 : ∀ xs : List Str, (∀ s ∈ xs, PyData.strOk s = true) → PyData.canLayAll0 (xs.map PyData.str) = true := by
    intro xs
    induction xs with
    | nil => intro _; rfl
    | cons x xs ih =>
      intro h
      show (PyData.strOk x && PyData.canLayAll0 (xs.map PyData.str)) = true
      rw [h x (by simp), ih fun s hs => h s (by simp [hs])]
      rfl
  have h2 : ∀ xs : List Str, PyData.depthAll (xs.map PyData.str) = 0 := by
    intro xs
    induction xs with
    | nil => rfl
    | cons x xs ih =>
      show max 0 (PyData.depthAll (xs.map PyData.str)) = 0
      rw [ih]
      rfl
  unfold SeqAt.shaped
  rw [Bool.and_eq_true]
  refine ⟨h1 xs h, decide_eq_true ?_⟩
  show PyData.depthAll (xs.map PyData.str) + 1 ≤ 64
  rw [h2]
  decide
theorem eqv_same {d : PyData} (h : SeqAt.shaped d = true) : PyData.eqv d d = true := SeqAt.eqv_refl d (SeqAt.canLay_of_shaped h)
section
variable {σ : L2.St} {H : Hp} {to te : TE} {r : V → List V → Hp → VK → Prop} {s : Str} {v z : V}
theorem ev_m1 (ho : Ev to σ H (.str s)) (he : Ev te σ H v) (hr : RC (r (.str s)) [v] H z) : Ev (tM1 r to te) σ H z := fun H1 e Q q =>
  ho H1 e _ fun H2 e2 => ⟨⟨s, rfl⟩, he H2 (e.trans e2) _ fun H3 e3 => hr H3 ((e.trans e2).trans e3) Q fun H4 e4 => q H4 ((e2.trans e3).trans e4)⟩
theorem ev_m0 (ho : Ev to σ H (.str s)) (hr : RC (r (.str s)) [] H z) : Ev (tM0 r to) σ H z := fun H1 e Q q =>
  ho H1 e _ fun H2 e2 => ⟨⟨s, rfl⟩, hr H2 (e.trans e2) Q fun H4 e4 => q H4 (e2.trans e4)⟩
end
theorem at_twoI {x y c : Int} (h : c = 0 ∨ c = 1) : atI [V.int x, V.int y] c = some (.int (if c = 0 then x else y)) := by
  rcases h with rfl | rfl
  · rfl
  · rfl
end Xb

namespace Dl
open PySem PySem.Spec PyProof.Rows L2 Evl Xb
/-! ### pure data -/
inductive D where
  | non | bl (b : Bool) | int (i : Int) | str (s : Str) | ty (n : String) | ref (a : Addr)
  | lst (ds : List D) | tup (ds : List D)
  | dK (ks : List Key) (ds : List D) | dT (ks : List (List Key)) (ds : List D)
  | ins (C : Addr) (ks : List Str) (ds : List D)
  | scr (ns : List Int)
mutual
/-- v stands for the data d, all of it in F -/
inductive Rp (F : Hp) : V → D → Prop
  | non : Rp F .non .non
  | bl (b : Bool) : Rp F (.bl b) (.bl b)
  | int (i : Int) : Rp F (.int i) (.int i)
  | str (s : Str) : Rp F (.str s) (.str s)
  | ty (n : String) : Rp F (.ty n) (.ty n)
  | ref (a : Addr) : Rp F (.ref a) (.ref a)
  | lst {a : Addr} {vs : List V} {ds : List D} (h : F a = some (.lst vs)) (r : RpA F vs ds) : Rp F (.ref a) (.lst ds)
  | tup {a : Addr} {vs : List V} {ds : List D} (h : F a = some (.tup vs)) (r : RpA F vs ds) : Rp F (.ref a) (.tup ds)
  | dK {a : Addr} {kvs : List (Key × V)} {ks : List Key} {ds : List D} (h : F a = some (.dK kvs)) (k : kvs.map (·.1) = ks) (r : RpA F (kvs.map (·.2)) ds) : Rp F (.ref a) (.dK ks ds)
  | dT {a : Addr} {kvs : List (List Key × V)} {ks : List (List Key)} {ds : List D} (h : F a = some (.dT kvs)) (k : kvs.map (·.1) = ks) (r : RpA F (kvs.map (·.2)) ds) : Rp F (.ref a) (.dT ks ds)
  | ins {a C dx : Addr} {fs : List (Str × V)} {ks : List Str} {ds : List D} (h : F a = some (.ins C dx fs)) (k : fs.map (·.1) = ks) (r : RpA F (fs.map (·.2)) ds) : Rp F (.ref a) (.ins C ks ds)
inductive RpA (F : Hp) : List V → List D → Prop
  | nil : RpA F [] []
  | cons {v : V} {d : D} {vs : List V} {ds : List D} (h : Rp F v d) (r : RpA F vs ds) : RpA F (v :: vs) (d :: ds)
end
section
variable {F F' : Hp}
mutual
theorem Rp.mono (e : Ex F F') : ∀ {v : V} {d : D}, Rp F v d → Rp F' v d
  | _, _, .non => .non
  | _, _, .bl b => .bl b
  | _, _, .int i => .int i
  | _, _, .str s => .str s
  | _, _, .ty n => .ty n
  | _, _, .ref a => .ref a
  | _, _, .lst h r => .lst (e _ _ h) (RpA.mono e r)
  | _, _, .tup h r => .tup (e _ _ h) (RpA.mono e r)
  | _, _, .dK h k r => .dK (e _ _ h) k (RpA.mono e r)
  | _, _, .dT h k r => .dT (e _ _ h) k (RpA.mono e r)
  | _, _, .ins h k r => .ins (e _ _ h) k (RpA.mono e r)
theorem RpA.mono (e : Ex F F') : ∀ {vs : List V} {ds : List D}, RpA F vs ds → RpA F' vs ds
  | _, _, .nil => .nil
  | _, _, .cons h r => .cons (Rp.mono e h) (RpA.mono e r)
end
theorem RpA.len : ∀ {vs : List V} {ds : List D}, RpA F vs ds → vs.length = ds.length
  | _, _, .nil => rfl
  | _, _, .cons _ r => by simp [RpA.len r]
theorem RpA.app : ∀ {vs ws : List V} {ds es : List D}, RpA F vs ds → RpA F ws es → RpA F (vs ++ ws) (ds ++ es)
  | _, _, _, _, .nil, k => k
  | _, _, _, _, .cons h r, k => .cons h (RpA.app r k)
theorem RpA.get : ∀ {vs : List V} {ds : List D} {i : Nat} {v : V}, RpA F vs ds → vs[i]? = some v → ∃ d, ds[i]? = some d ∧ Rp F v d
  | _, _, _, _, .nil, q => by simp at q
  | _, _, 0, _, .cons h r, q => by simp at q; subst q; exact ⟨_, rfl, h⟩
  | _, _, i + 1, _, .cons h r, q => by
    obtain ⟨d, h1, h2⟩ := RpA.get (i := i) r (by simpa using q)
    exact ⟨d, by simpa using h1, h2⟩
theorem RpA.at : ∀ {vs : List V} {ds : List D} {i : Nat} {d : D}, RpA F vs ds → ds[i]? = some d → ∃ v, vs[i]? = some v ∧ Rp F v d
  | _, _, _, _, .nil, q => by simp at q
  | _, _, 0, _, .cons h r, q => by simp at q; subst q; exact ⟨_, rfl, h⟩
  | _, _, i + 1, _, .cons h r, q => by
    obtain ⟨d, h1, h2⟩ := RpA.at (i := i) r (by simpa using q)
    exact ⟨d, by simpa using h1, h2⟩
theorem RpA.drop : ∀ {vs : List V} {ds : List D} (n : Nat), RpA F vs ds → RpA F (vs.drop n) (ds.drop n)
  | _, _, 0, r => r
  | _, _, _ + 1, .nil => .nil
  | _, _, n + 1, .cons _ r => RpA.drop n r
theorem RpA.take : ∀ {vs : List V} {ds : List D} (n : Nat), RpA F vs ds → RpA F (vs.take n) (ds.take n)
  | _, _, 0, _ => .nil
  | _, _, _ + 1, .nil => .nil
  | _, _, n + 1, .cons h r => .cons h (RpA.take n r)
theorem RpA.set {v : V} {d : D} (h : Rp F v d) : ∀ {vs : List V} {ds : List D} (i : Nat), RpA F vs ds → RpA F (vs.set i v) (ds.set i d)
  | _, _, _, .nil => .nil
  | _, _, 0, .cons _ r => .cons h r
  | _, _, i + 1, .cons k r => .cons k (RpA.set h i r)
theorem RpA.snoc {vs : List V} {ds : List D} {v : V} {d : D} (r : RpA F vs ds) (h : Rp F v d) : RpA F (vs ++ [v]) (ds ++ [d]) := r.app (.cons h .nil)
theorem RpA.ints : ∀ {vs : List V} {ns : List Int}, RpA F vs (ns.map D.int) → vs = ns.map V.int
  | _, [], .nil => rfl
  | _, n :: ns, .cons h r => by
    cases h
    rw [List.map_cons, ← RpA.ints r]
theorem RpA.bls : ∀ {vs : List V} {ns : List Bool}, RpA F vs (ns.map D.bl) → vs = ns.map V.bl
  | _, [], .nil => rfl
  | _, n :: ns, .cons h r => by
    cases h
    rw [List.map_cons, ← RpA.bls r]
theorem RpA.strs : ∀ {vs : List V} {ns : List Str}, RpA F vs (ns.map D.str) → vs = ns.map V.str
  | _, [], .nil => rfl
  | _, n :: ns, .cons h r => by
    cases h
    rw [List.map_cons, ← RpA.strs r]
theorem RpA.ofInts : ∀ (ns : List Int), RpA F (ns.map V.int) (ns.map D.int)
  | [] => .nil
  | n :: ns => .cons (.int n) (RpA.ofInts ns)
theorem RpA.ofStrs : ∀ (ns : List Str), RpA F (ns.map V.str) (ns.map D.str)
  | [] => .nil
  | n :: ns => .cons (.str n) (RpA.ofStrs ns)
theorem RpA.one {v : V} {d : D} (h : Rp F v d) : RpA F [v] [d] := .cons h .nil
end
/-! ### the object at a stands in H, what it holds in F -/
def Ow (K : PySem.W.Frag) (F H : Hp) (a : Addr) : D → Prop
  | .lst ds => ∃ vs, H a = some (.lst vs) ∧ RpA F vs ds
  | .dK ks ds => ∃ kvs : List (Key × V), H a = some (.dK kvs) ∧ kvs.map (·.1) = ks ∧ RpA F (kvs.map (·.2)) ds
  | .dT ks ds => ∃ kvs : List (List Key × V), H a = some (.dT kvs) ∧ kvs.map (·.1) = ks ∧ RpA F (kvs.map (·.2)) ds
  | .ins C ks ds => ∃ (dx : Addr) (fs : List (Str × V)), H a = some (.ins C dx fs) ∧ fs.map (·.1) = ks ∧ RpA F (fs.map (·.2)) ds
  | .scr ns => SqL K H a (ns.map V.int)
  | _ => False
theorem Ow.mono {K : PySem.W.Frag} {F F' H H' : Hp} {a : Addr} {d : D} (e : Ex F F') (k : Ex H H') (h : Ow K F H a d) : Ow K F' H' a d := by
  cases d with
  | lst ds => obtain ⟨vs, h1, h2⟩ := h; exact ⟨vs, k _ _ h1, h2.mono e⟩
  | dK ks ds => obtain ⟨vs, h1, h2, h3⟩ := h; exact ⟨vs, k _ _ h1, h2, h3.mono e⟩
  | dT ks ds => obtain ⟨vs, h1, h2, h3⟩ := h; exact ⟨vs, k _ _ h1, h2, h3.mono e⟩
  | ins C ks ds => obtain ⟨dx, fs, h1, h2, h3⟩ := h; exact ⟨dx, fs, k _ _ h1, h2, h3.mono e⟩
  | scr ns => exact ex_l k h
  | non => exact h.elim
  | bl b => exact h.elim
  | int b => exact h.elim
  | str b => exact h.elim
  | ty b => exact h.elim
  | ref b => exact h.elim
  | tup b => exact h.elim
/-- the same where only the object at a is known to stay -/
theorem Ow.keep {K : PySem.W.Frag} {F F' H H' : Hp} {a : Addr} {d : D} (e : Ex F F') (k : ∀ o, H a = some o → H' a = some o) (h : Ow K F H a d) : Ow K F' H' a d := by
  cases d with
  | lst ds => obtain ⟨vs, h1, h2⟩ := h; exact ⟨vs, k _ h1, h2.mono e⟩
  | dK ks ds => obtain ⟨vs, h1, h2, h3⟩ := h; exact ⟨vs, k _ h1, h2, h3.mono e⟩
  | dT ks ds => obtain ⟨vs, h1, h2, h3⟩ := h; exact ⟨vs, k _ h1, h2, h3.mono e⟩
  | ins C ks ds => obtain ⟨dx, fs, h1, h2, h3⟩ := h; exact ⟨dx, fs, k _ h1, h2, h3.mono e⟩
  | scr ns =>
    rcases h with (h | ⟨o, h⟩) | h
    · exact .inl (.inl (k _ h))
    · exact .inl (.inr ⟨o, k _ h⟩)
    · exact .inr h
  | non => exact h.elim
  | bl b => exact h.elim
  | int b => exact h.elim
  | str b => exact h.elim
  | ty b => exact h.elim
  | ref b => exact h.elim
  | tup b => exact h.elim
theorem Ow.there {K : PySem.W.Frag} {F H : Hp} {a : Addr} {d : D} (h : Ow K F H a d) (hs : ∀ ns, d ≠ .scr ns) : H a ≠ none := by
  cases d with
  | lst ds => obtain ⟨vs, h1, h2⟩ := h; rw [h1]; exact fun q => nomatch q
  | dK ks ds => obtain ⟨vs, h1, h2, h3⟩ := h; rw [h1]; exact fun q => nomatch q
  | dT ks ds => obtain ⟨vs, h1, h2, h3⟩ := h; rw [h1]; exact fun q => nomatch q
  | ins C ks ds => obtain ⟨dx, fs, h1, h2, h3⟩ := h; rw [h1]; exact fun q => nomatch q
  | scr ns => exact absurd rfl (hs ns)
  | non => exact h.elim
  | bl b => exact h.elim
  | int b => exact h.elim
  | str b => exact h.elim
  | ty b => exact h.elim
  | ref b => exact h.elim
  | tup b => exact h.elim
/-- frozen is owned by itself -/
theorem Ow.rp {K : PySem.W.Frag} {F H : Hp} {a : Addr} {d : D} (h : Ow K F H a d) (hs : ∀ ns, d ≠ .scr ns) (k : ∀ o, H a = some o → F a = some o) : Rp F (.ref a) d := by
  cases d with
  | lst ds => obtain ⟨vs, h1, h2⟩ := h; exact .lst (k _ h1) h2
  | dK ks ds => obtain ⟨vs, h1, h2, h3⟩ := h; exact .dK (k _ h1) h2 h3
  | dT ks ds => obtain ⟨vs, h1, h2, h3⟩ := h; exact .dT (k _ h1) h2 h3
  | ins C ks ds => obtain ⟨dx, fs, h1, h2, h3⟩ := h; exact .ins (k _ h1) h2 h3
  | scr ns => exact absurd rfl (hs ns)
  | non => exact h.elim
  | bl b => exact h.elim
  | int b => exact h.elim
  | str b => exact h.elim
  | ty b => exact h.elim
  | ref b => exact h.elim
  | tup b => exact h.elim
/-- read: in F as a whole, or an object that stands in H -/
def Shl (K : PySem.W.Frag) (F H : Hp) (v : V) (d : D) : Prop := Rp F v d ∨ ∃ a, v = .ref a ∧ Ow K F H a d
theorem Shl.lst {K : PySem.W.Frag} {F H : Hp} {v : V} {ds : List D} (e : Ex F H) (h : Shl K F H v (.lst ds)) : ∃ a vs, v = .ref a ∧ H a = some (.lst vs) ∧ RpA F vs ds := by
  rcases h with h | ⟨a, rfl, vs, h1, h2⟩
  · cases h with | lst h r => exact ⟨_, _, rfl, e _ _ h, r⟩
  · exact ⟨a, vs, rfl, h1, h2⟩
theorem Shl.tup {K : PySem.W.Frag} {F H : Hp} {v : V} {ds : List D} (h : Shl K F H v (.tup ds)) : ∃ a vs, v = .ref a ∧ F a = some (.tup vs) ∧ RpA F vs ds := by
  rcases h with h | ⟨a, rfl, h⟩
  · cases h with | tup h r => exact ⟨_, _, rfl, h, r⟩
  · exact h.elim
theorem Shl.dK {K : PySem.W.Frag} {F H : Hp} {v : V} {ks : List Key} {ds : List D} (e : Ex F H) (h : Shl K F H v (.dK ks ds)) : ∃ a kvs, v = .ref a ∧ H a = some (.dK kvs) ∧ kvs.map (·.1) = ks ∧ RpA F (kvs.map (·.2)) ds := by
  rcases h with h | ⟨a, rfl, vs, h1, h2, h3⟩
  · cases h with | dK h k r => exact ⟨_, _, rfl, e _ _ h, k, r⟩
  · exact ⟨a, vs, rfl, h1, h2, h3⟩
theorem Shl.dT {K : PySem.W.Frag} {F H : Hp} {v : V} {ks : List (List Key)} {ds : List D} (e : Ex F H) (h : Shl K F H v (.dT ks ds)) : ∃ a kvs, v = .ref a ∧ H a = some (.dT kvs) ∧ kvs.map (·.1) = ks ∧ RpA F (kvs.map (·.2)) ds := by
  rcases h with h | ⟨a, rfl, vs, h1, h2, h3⟩
  · cases h with | dT h k r => exact ⟨_, _, rfl, e _ _ h, k, r⟩
  · exact ⟨a, vs, rfl, h1, h2, h3⟩
theorem Shl.ins {K : PySem.W.Frag} {F H : Hp} {v : V} {C : Addr} {ks : List Str} {ds : List D} (e : Ex F H) (h : Shl K F H v (.ins C ks ds)) : ∃ a dx fs, v = .ref a ∧ H a = some (.ins C dx fs) ∧ fs.map (·.1) = ks ∧ RpA F (fs.map (·.2)) ds := by
  rcases h with h | ⟨a, rfl, dx, fs, h1, h2, h3⟩
  · cases h with | ins h k r => exact ⟨_, _, _, rfl, e _ _ h, k, r⟩
  · exact ⟨a, dx, fs, rfl, h1, h2, h3⟩
theorem Shl.scr {K : PySem.W.Frag} {F H : Hp} {v : V} {ns : List Int} (h : Shl K F H v (.scr ns)) : ∃ a, v = .ref a ∧ SqL K H a (ns.map V.int) := by
  rcases h with h | ⟨a, rfl, h1⟩
  · cases h
  · exact ⟨a, rfl, h1⟩
/-! ### on: nothing that stood is changed, what stood outside F stays outside -/
structure Go (F H F' H' : Hp) : Prop where
  h : Ex H H'
  f : Ex F F'
  s : Ex F' H'
  n : ∀ p, H p ≠ none → F' p = F p
theorem Go.refl {F H : Hp} (s : Ex F H) : Go F H F H := ⟨Ex.refl H, Ex.refl F, s, fun _ _ => rfl⟩
theorem Ex.ne {H H' : Hp} (e : Ex H H') {p : Addr} (h : H p ≠ none) : H' p ≠ none := by
  cases q : H p with
  | none => exact absurd q h
  | some o => rw [e _ _ q]; exact fun q => nomatch q
theorem Go.trans {F H F1 H1 F2 H2 : Hp} (a : Go F H F1 H1) (b : Go F1 H1 F2 H2) : Go F H F2 H2 :=
  ⟨a.h.trans b.h, a.f.trans b.f, b.s, fun p hp => (b.n p (Ex.ne a.h hp)).trans (a.n p hp)⟩
theorem Go.out {F H F' H' : Hp} (a : Go F H F' H') {p : Addr} (h : H p ≠ none) (hf : F p = none) : F' p = none := (a.n p h).trans hf
/-- a new object, put into F -/
theorem Go.newF {F H : Hp} (s : Ex F H) {p : Addr} {o : HO} (h : H p = none) : Go F H (upd F p o) (upd H p o) :=
  ⟨Ex.new h, Ex.new (fresh_back s h), fun a u q => by
    by_cases e : a = p
    · subst e; rw [upd_same] at q ⊢; exact q
    · rw [upd_ne e] at q ⊢; exact s a u q, fun a ha => upd_ne fun e => ha (by rw [e]; exact h)⟩
/-- a new object, left out of F -/
theorem Go.newH {F H : Hp} (s : Ex F H) {p : Addr} {o : HO} (h : H p = none) : Go F H F (upd H p o) :=
  ⟨Ex.new h, Ex.refl F, s.trans (Ex.new h), fun _ _ => rfl⟩
/-! ### the state of a def: what its slots stand for, and the objects that it may change -/
abbrev Res := List (Addr × D)
abbrev En := List (Option D)
structure Ct where
  K : PySem.W.Frag
  B : Hp
  F0 : Hp
  S : Res
abbrev Ct.pin (c : Ct) (a : Addr) (d : D) : Ct := { c with S := (a, d) :: c.S }
def Slots (F : Hp) (ρ : En) (σ : L2.St) : Prop := ρ.length = σ.length ∧ ∀ (i : Nat) d, ρ[i]? = some (some d) → ∃ v, σ[i]? = some (some v) ∧ Rp F v d
structure At (c : Ct) (G : Res) (ρ : En) (F : Hp) (σ : L2.St) (H : Hp) : Prop where
  go : Go c.F0 c.B F H
  sl : Slots F ρ σ
  sh : ∀ x ∈ c.S, Shl c.K F c.B (.ref x.1) x.2
  ow : ∀ x ∈ G, Ow c.K F H x.1 x.2 ∧ F x.1 = none ∧ c.B x.1 = none
  nd : (G.map (·.1)).Nodup
  ns : ∀ x ∈ G, ∀ ns, x.2 ≠ .scr ns
theorem Slots.mono {F F' : Hp} {ρ : En} {σ : L2.St} (e : Ex F F') (h : Slots F ρ σ) : Slots F' ρ σ := ⟨h.1, fun i d q => let ⟨v, h1, h2⟩ := h.2 i d q; ⟨v, h1, h2.mono e⟩⟩
theorem Slots.set {F : Hp} {ρ : En} {σ : L2.St} {i : Nat} {d : D} {v : V} (h : Slots F ρ σ) (r : Rp F v d) : Slots F (ρ.set i (some d)) (σ.set i (some v)) := by
  refine ⟨by simp [h.1], fun j e q => ?_⟩
  by_cases hj : i = j
  · subst hj
    have hl : i < ρ.length := by
      have := (List.getElem?_eq_some_iff.mp q).1
      simpa using this
    rw [List.getElem?_set_self hl] at q
    have hl2 : i < σ.length := by rw [← h.1]; exact hl
    rw [List.getElem?_set_self hl2]
    have q' := Option.some.inj (Option.some.inj q)
    subst q'
    exact ⟨v, rfl, r⟩
  · rw [List.getElem?_set_ne hj] at q ⊢
    exact h.2 j e q
/-- fewer slots told -/
def Le : En → En → Prop
  | [], [] => True
  | none :: r, _ :: s => Le r s
  | some d :: r, some e :: s => d = e ∧ Le r s
  | _, _ => False
theorem Le.ix : ∀ {r s : En}, Le r s → r.length = s.length ∧ ∀ (i : Nat) d, r[i]? = some (some d) → s[i]? = some (some d)
  | [], [], _ => ⟨rfl, fun i d q => by simp at q⟩
  | none :: r, x :: s, h => by
    obtain ⟨h1, h2⟩ := Le.ix (r := r) (s := s) h
    refine ⟨by simp [h1], fun i d q => ?_⟩
    cases i with
    | zero => simp at q
    | succ i => simpa using h2 i d (by simpa using q)
  | some d :: r, some e :: s, h => by
    obtain ⟨h1, h2⟩ := Le.ix (r := r) (s := s) h.2
    refine ⟨by simp [h1], fun i x q => ?_⟩
    cases i with
    | zero => have := h.1; subst this; simpa using q
    | succ i => simpa using h2 i x (by simpa using q)
  | some d :: r, none :: s, h => by cases h
  | [], _ :: _, h => by cases h
  | none :: _, [], h => by cases h
  | some _ :: _, [], h => by cases h
theorem Le.refl : ∀ r : En, Le r r
  | [] => trivial
  | none :: r => Le.refl r
  | some _ :: r => ⟨rfl, Le.refl r⟩
theorem Slots.le {F : Hp} {r s : En} {σ : L2.St} (l : Le r s) (h : Slots F s σ) : Slots F r σ := ⟨l.ix.1.trans h.1, fun i d q => h.2 i d (l.ix.2 i d q)⟩
section
variable {c : Ct} {G G' : Res} {ρ ρ' : En} {F F' H H' : Hp} {σ σ' : L2.St}
theorem At.ex (A : At c G ρ F σ H) : Ex F H := A.go.s
theorem At.on (A : At c G ρ F σ H) (g : Go F H F' H') : At c G ρ F' σ H' :=
  ⟨A.go.trans g, A.sl.mono g.f, fun x hx => by
    rcases A.sh x hx with h | ⟨a, h1, h2⟩
    · exact .inl (h.mono g.f)
    · exact .inr ⟨a, h1, h2.mono g.f (Ex.refl _)⟩, fun x hx => by
    obtain ⟨h1, h2, h3⟩ := A.ow x hx
    exact ⟨h1.mono g.f g.h, g.out (h1.there (A.ns x hx)) h2, h3⟩, A.nd, A.ns⟩
theorem At.set {i : Nat} {d : D} {v : V} (A : At c G ρ F σ H) (r : Rp F v d) : At c G (ρ.set i (some d)) F (σ.set i (some v)) H := ⟨A.go, A.sl.set r, A.sh, A.ow, A.nd, A.ns⟩
theorem At.le (A : At c G ρ F σ H) (l : Le ρ' ρ) : At c G ρ' F σ H := ⟨A.go, A.sl.le l, A.sh, A.ow, A.nd, A.ns⟩
theorem At.unpin {a : Addr} {d : D} (A : At (c.pin a d) G ρ F σ H) : At c G ρ F σ H := ⟨A.go, A.sl, fun x hx => A.sh x (List.mem_cons_of_mem _ hx), A.ow, A.nd, A.ns⟩
theorem At.pin {a : Addr} {d : D} (A : At c G ρ F σ H) (h : Shl c.K F c.B (.ref a) d) : At (c.pin a d) G ρ F σ H := ⟨A.go, A.sl, fun x hx => by
    rcases List.mem_cons.mp hx with e | e
    · rw [e]; exact h
    · exact A.sh x e, A.ow, A.nd, A.ns⟩
/-- an own object of the def stands in no frame but its own -/
theorem At.get {p : Addr} {d : D} (A : At c G ρ F σ H) (h : (p, d) ∈ G) : Ow c.K F H p d := (A.ow _ h).1
theorem At.read {p : Addr} {d : D} (A : At c G ρ F σ H) (h : (p, d) ∈ c.S ∨ (p, d) ∈ G) : Shl c.K F H (.ref p) d := by
  rcases h with h | h
  · rcases A.sh _ h with k | ⟨a, k1, k2⟩
    · exact .inl k
    · exact .inr ⟨a, k1, k2.mono (Ex.refl _) A.go.h⟩
  · exact .inr ⟨p, rfl, A.get h⟩
end
end Dl

namespace Dl
open PySem PySem.Spec PyProof.Rows L2 Evl Xb
/-! ### what is asked: an expression gives data (all in F), is read, is a new object, gives a test's answer -/
def EvP (c : Ct) (G : Res) (ρ : En) (te : TE) (d : D) : Prop := ∀ F σ H, At c G ρ F σ H → ∀ Q : VK, (∀ v F' H', Go F H F' H' → Rp F' v d → Q v H') → te σ H Q
def EvS (c : Ct) (G : Res) (ρ : En) (te : TE) (d : D) : Prop := ∀ F σ H, At c G ρ F σ H → ∀ Q : VK, (∀ v F' H', Go F H F' H' → Shl c.K F' H' v d → Q v H') → te σ H Q
def EvN (c : Ct) (G : Res) (ρ : En) (te : TE) (d : D) : Prop := ∀ F σ H, At c G ρ F σ H → ∀ Q : VK, (∀ p F' H', Go F H F' H' → H p = none → F' p = none → Ow c.K F' H' p d → (∀ ns, d ≠ .scr ns) → Q (.ref p) H') → te σ H Q
def EvT (c : Ct) (G : Res) (ρ : En) (tt : TT) (b : Bool) : Prop := ∀ F σ H, At c G ρ F σ H → ∀ Q : Bool → Hp → Prop, (∀ F' H', Go F H F' H' → Q b H') → tt σ H Q
def EvA (c : Ct) (G : Res) (ρ : En) (ta : TA) (ds : List D) : Prop := ∀ F σ H, At c G ρ F σ H → ∀ Q : List V → Hp → Prop, (∀ vs F' H', Go F H F' H' → RpA F' vs ds → Q vs H') → ta σ H Q
def EvO (c : Ct) (G : Res) (ρ : En) (to : TO) (o : Option Int) : Prop := ∀ F σ H, At c G ρ F σ H → ∀ Q : Option Int → Hp → Prop, (∀ F' H', Go F H F' H' → Q o H') → to σ H Q
/-- two things side by side, one behind the other -/
def Imp (p q : Prop) : Prop := p → q
section
variable {c : Ct} {G : Res} {ρ : En} {ta tb tc te : TE} {t u : TT} {d e : D}
theorem EvN.toP (h : EvN c G ρ te d) : EvP c G ρ te d := fun F σ H A Q q => h F σ H A Q fun p F' H' g hp hf ho hs => by
  have hF : F p = none := fresh_back A.ex hp
  obtain ⟨o, hH⟩ : ∃ o, H' p = some o := by
    cases e : H' p with
    | none => exact absurd e (ho.there hs)
    | some o => exact ⟨o, rfl⟩
  refine q _ (upd F' p o) H' ⟨g.h, g.f.trans (Ex.new hf), fun a u ha => ?_, fun a ha => ?_⟩ ((ho.mono (Ex.new hf) (Ex.refl _)).rp hs fun u hu => ?_)
  · by_cases e : a = p
    · subst e; rw [upd_same] at ha; rw [hH]; exact ha
    · rw [upd_ne e] at ha; exact g.s a u ha
  · rw [upd_ne fun e => ha (by rw [e]; exact hp)]
    exact g.n a ha
  · rw [upd_same, ← hu, hH]
theorem EvP.toS (h : EvP c G ρ te d) : EvS c G ρ te d := fun F σ H A Q q => h F σ H A Q fun v F' H' g r => q v F' H' g (.inl r)
theorem EvS.res {p : Addr} (h : EvP c G ρ te (.ref p)) (m : (p, d) ∈ c.S ∨ (p, d) ∈ G) : EvS c G ρ te d := fun F σ H A Q q => h F σ H A Q fun v F' H' g r => by
  cases r
  exact q _ F' H' g ((A.on g).read m)
theorem EvP.is (h : EvP c G ρ te d) (k : d = e) : EvP c G ρ te e := k ▸ h
theorem EvN.is (h : EvN c G ρ te d) (k : d = e) : EvN c G ρ te e := k ▸ h
theorem EvT.is {a b : Bool} (h : EvT c G ρ t a) (e : a = b) : EvT c G ρ t b := e ▸ h
theorem EvS.int {i : Int} (h : EvS c G ρ te (.int i)) : EvP c G ρ te (.int i) := fun F σ H A Q q => h F σ H A Q fun v F' H' g r => by
  rcases r with r | ⟨a, _, k⟩
  · exact q v F' H' g r
  · exact k.elim
/-! names, constants -/
theorem p_var {i : Nat} (h : ρ[i]? = some (some d)) : EvP c G ρ (tVar i) d := fun F σ H A Q q => by
  obtain ⟨v, h1, h2⟩ := A.sl.2 i d h
  exact ⟨v, h1, q v F H (Go.refl A.ex) h2⟩
theorem p_int {i : Int} : EvP c G ρ (tC (.int i)) (.int i) := fun F σ H A Q q => q _ F H (Go.refl A.ex) (.int i)
theorem p_str {i : Str} : EvP c G ρ (tC (.str i)) (.str i) := fun F σ H A Q q => q _ F H (Go.refl A.ex) (.str i)
theorem p_bl {i : Bool} : EvP c G ρ (tC (.bl i)) (.bl i) := fun F σ H A Q q => q _ F H (Go.refl A.ex) (.bl i)
theorem p_non : EvP c G ρ (tC .non) .non := fun F σ H A Q q => q _ F H (Go.refl A.ex) .non
theorem p_ty {n : String} : EvP c G ρ (tC (.ty n)) (.ty n) := fun F σ H A Q q => q _ F H (Go.refl A.ex) (.ty n)
/-! two operands -/
theorem p_two {P : VK → V → V → Hp → Prop} {x y : D} (ha : EvP c G ρ ta x) (hb : EvP c G ρ tb y) (F : Hp) (σ : L2.St) (H : Hp) (A : At c G ρ F σ H) (Q : VK)
    (q : ∀ v w F' H', Go F H F' H' → Rp F' v x → Rp F' w y → P Q v w H') : ta σ H fun v H1 => tb σ H1 fun w H2 => P Q v w H2 :=
  ha F σ H A _ fun v F1 H1 g1 r1 => hb F1 σ H1 (A.on g1) _ fun w F2 H2 g2 r2 => q v w F2 H2 (g1.trans g2) (r1.mono g2.f) r2
theorem p_opI {f : Int → Int → Int} {i j : Int} (ha : EvP c G ρ ta (.int i)) (hb : EvP c G ρ tb (.int j)) : EvP c G ρ (tOp (rI0 fun i j => .int (f i j)) ta tb) (.int (f i j)) := fun F σ H A Q q =>
  ha F σ H A _ fun v F1 H1 g1 r1 => hb F1 σ H1 (A.on g1) _ fun w F2 H2 g2 r2 => by cases r1; cases r2; exact ⟨i, j, rfl, rfl, q _ F2 H2 (g1.trans g2) (.int _)⟩
theorem p_opB {f : Int → Int → Bool} {i j : Int} (ha : EvP c G ρ ta (.int i)) (hb : EvP c G ρ tb (.int j)) : EvP c G ρ (tOp (rI0 fun i j => .bl (f i j)) ta tb) (.bl (f i j)) := fun F σ H A Q q =>
  ha F σ H A _ fun v F1 H1 g1 r1 => hb F1 σ H1 (A.on g1) _ fun w F2 H2 g2 r2 => by cases r1; cases r2; exact ⟨i, j, rfl, rfl, q _ F2 H2 (g1.trans g2) (.bl _)⟩
theorem p_opC {C : Int → Int → Prop} {f : Int → Int → Int} {i j : Int} (ha : EvP c G ρ ta (.int i)) (hb : EvP c G ρ tb (.int j)) (hc : C i j) : EvP c G ρ (tOp (rI C fun i j => .int (f i j)) ta tb) (.int (f i j)) := fun F σ H A Q q =>
  ha F σ H A _ fun v F1 H1 g1 r1 => hb F1 σ H1 (A.on g1) _ fun w F2 H2 g2 r2 => by cases r1; cases r2; exact ⟨i, j, rfl, rfl, hc, q _ F2 H2 (g1.trans g2) (.int _)⟩
theorem p_neg {i : Int} (ha : EvP c G ρ ta (.int i)) : EvP c G ρ (tUn (rU fun i => .int (-i)) ta) (.int (-i)) := fun F σ H A Q q => ha F σ H A _ fun v F1 H1 g1 r1 => by cases r1; exact ⟨i, rfl, q _ F1 H1 g1 (.int _)⟩
theorem p_eqI {i j : Int} (ha : EvP c G ρ ta (.int i)) (hb : EvP c G ρ tb (.int j)) : EvP c G ρ (tOp rEq ta tb) (.bl (decide (i = j))) := fun F σ H A Q q =>
  ha F σ H A _ fun v F1 H1 g1 r1 => hb F1 σ H1 (A.on g1) _ fun w F2 H2 g2 r2 => by
    cases r1; cases r2
    refine ⟨rfl, ?_⟩
    rw [show decide (V.int i = V.int j) = decide (i = j) by simp]
    exact q _ F2 H2 (g1.trans g2) (.bl _)
theorem p_neI {i j : Int} (ha : EvP c G ρ ta (.int i)) (hb : EvP c G ρ tb (.int j)) : EvP c G ρ (tOp rNe ta tb) (.bl (!decide (i = j))) := fun F σ H A Q q =>
  ha F σ H A _ fun v F1 H1 g1 r1 => hb F1 σ H1 (A.on g1) _ fun w F2 H2 g2 r2 => by
    cases r1; cases r2
    refine ⟨rfl, ?_⟩
    rw [show decide (V.int i = V.int j) = decide (i = j) by simp]
    exact q _ F2 H2 (g1.trans g2) (.bl _)
theorem p_eqS {i j : Str} (ha : EvP c G ρ ta (.str i)) (hb : EvP c G ρ tb (.str j)) : EvP c G ρ (tOp rEq ta tb) (.bl (decide (i = j))) := fun F σ H A Q q =>
  ha F σ H A _ fun v F1 H1 g1 r1 => hb F1 σ H1 (A.on g1) _ fun w F2 H2 g2 r2 => by
    cases r1; cases r2
    refine ⟨rfl, ?_⟩
    rw [show decide (V.str i = V.str j) = decide (i = j) by simp]
    exact q _ F2 H2 (g1.trans g2) (.bl _)
theorem p_neS {i j : Str} (ha : EvP c G ρ ta (.str i)) (hb : EvP c G ρ tb (.str j)) : EvP c G ρ (tOp rNe ta tb) (.bl (!decide (i = j))) := fun F σ H A Q q =>
  ha F σ H A _ fun v F1 H1 g1 r1 => hb F1 σ H1 (A.on g1) _ fun w F2 H2 g2 r2 => by
    cases r1; cases r2
    refine ⟨rfl, ?_⟩
    rw [show decide (V.str i = V.str j) = decide (i = j) by simp]
    exact q _ F2 H2 (g1.trans g2) (.bl _)
theorem p_eqB {i j : Bool} (ha : EvP c G ρ ta (.bl i)) (hb : EvP c G ρ tb (.bl j)) : EvP c G ρ (tOp rEq ta tb) (.bl (decide (i = j))) := fun F σ H A Q q =>
  ha F σ H A _ fun v F1 H1 g1 r1 => hb F1 σ H1 (A.on g1) _ fun w F2 H2 g2 r2 => by
    cases r1; cases r2
    refine ⟨rfl, ?_⟩
    rw [show decide (V.bl i = V.bl j) = decide (i = j) by simp]
    exact q _ F2 H2 (g1.trans g2) (.bl _)
theorem p_neB {i j : Bool} (ha : EvP c G ρ ta (.bl i)) (hb : EvP c G ρ tb (.bl j)) : EvP c G ρ (tOp rNe ta tb) (.bl (!decide (i = j))) := fun F σ H A Q q =>
  ha F σ H A _ fun v F1 H1 g1 r1 => hb F1 σ H1 (A.on g1) _ fun w F2 H2 g2 r2 => by
    cases r1; cases r2
    refine ⟨rfl, ?_⟩
    rw [show decide (V.bl i = V.bl j) = decide (i = j) by simp]
    exact q _ F2 H2 (g1.trans g2) (.bl _)
/-- text + text -/
theorem p_cat {i j : Str} (ha : EvP c G ρ ta (.str i)) (hb : EvP c G ρ tb (.str j)) (hz : i.length + j.length ≤ 100000) :
    EvP c G ρ (tOp (fun x y H Q => ∃ i j, x = .str i ∧ y = .str j ∧ i.length + j.length ≤ sizeLine ∧ Q (.str (i ++ j)) H) ta tb) (.str (i ++ j)) := fun F σ H A Q q =>
  ha F σ H A _ fun v F1 H1 g1 r1 => hb F1 σ H1 (A.on g1) _ fun w F2 H2 g2 r2 => by cases r1; cases r2; exact ⟨i, j, rfl, rfl, sz_of hz, q _ F2 H2 (g1.trans g2) (.str _)⟩
/-- is None -/
def D.isN : D → Bool
  | .non => true
  | _ => false
theorem rp_isN {F : Hp} {v : V} {d : D} (r : Rp F v d) : decide (v = V.non) = d.isN := by cases r <;> simp [D.isN]
theorem p_isN (ha : EvP c G ρ ta d) (hb : EvP c G ρ tb .non) : EvP c G ρ (tOp (fun x y H Q => y = .non ∧ Q (.bl (decide (x = .non))) H) ta tb) (.bl d.isN) := fun F σ H A Q q =>
  ha F σ H A _ fun v F1 H1 g1 r1 => hb F1 σ H1 (A.on g1) _ fun w F2 H2 g2 r2 => by
    cases r2
    refine ⟨rfl, ?_⟩
    rw [rp_isN r1]
    exact q _ F2 H2 (g1.trans g2) (.bl _)
theorem p_notN (ha : EvP c G ρ ta d) (hb : EvP c G ρ tb .non) : EvP c G ρ (tOp (fun x y H Q => y = .non ∧ Q (.bl (!decide (x = .non))) H) ta tb) (.bl (!d.isN)) := fun F σ H A Q q =>
  ha F σ H A _ fun v F1 H1 g1 r1 => hb F1 σ H1 (A.on g1) _ fun w F2 H2 g2 r2 => by
    cases r2
    refine ⟨rfl, ?_⟩
    rw [rp_isN r1]
    exact q _ F2 H2 (g1.trans g2) (.bl _)
/-! subscripts -/
theorem atI_rp {F : Hp} {vs : List V} {ds : List D} (r : RpA F vs ds) {i : Int} (h : atI ds i = some d) : ∃ v, atI vs i = some v ∧ Rp F v d := by
  unfold atI at h ⊢
  rw [r.len]
  cases e : ixN ds.length i with
  | none => rw [e] at h; cases h
  | some j =>
    rw [e] at h
    exact r.at (i := j) h
theorem p_ixL {ds : List D} {i : Int} (ha : EvS c G ρ ta (.lst ds)) (hb : EvP c G ρ tb (.int i)) (h : atI ds i = some d) : EvP c G ρ (tOp (rIxL c.K) ta tb) d := fun F σ H A Q q =>
  ha F σ H A _ fun v F1 H1 g1 r1 => hb F1 σ H1 (A.on g1) _ fun w F2 H2 g2 r2 => by
    cases r2
    obtain ⟨a, vs, rfl, h1, h2⟩ := r1.lst g1.s
    obtain ⟨v, hv, rv⟩ := atI_rp h2 h
    exact ⟨a, vs, i, v, rfl, rfl, sq_of (g2.h _ _ h1), hv, q _ F2 H2 (g1.trans g2) (rv.mono g2.f)⟩
theorem p_ixScr {ns : List Int} {i k : Int} (ha : EvS c G ρ ta (.scr ns)) (hb : EvP c G ρ tb (.int i)) (h : atI ns i = some k) : EvP c G ρ (tOp (rIxL c.K) ta tb) (.int k) := fun F σ H A Q q =>
  ha F σ H A _ fun v F1 H1 g1 r1 => hb F1 σ H1 (A.on g1) _ fun w F2 H2 g2 r2 => by
    cases r2
    obtain ⟨a, rfl, h1⟩ := r1.scr
    refine ⟨a, _, i, .int k, rfl, rfl, ex_l g2.h h1, ?_, q _ F2 H2 (g1.trans g2) (.int _)⟩
    unfold atI at h ⊢
    rw [List.length_map]
    cases e : ixN ns.length i with
    | none => rw [e] at h; cases h
    | some j =>
      rw [e] at h
      have h' : ns[j]? = some k := h
      show (ns.map V.int)[j]? = _
      rw [List.getElem?_map, h']
      rfl
theorem p_ixT {ds : List D} {i : Int} (ha : EvP c G ρ ta (.tup ds)) (hb : EvP c G ρ tb (.int i)) (h : atI ds i = some d) : EvP c G ρ (tOp (rIxT c.K) ta tb) d := fun F σ H A Q q =>
  ha F σ H A _ fun v F1 H1 g1 r1 => hb F1 σ H1 (A.on g1) _ fun w F2 H2 g2 r2 => by
    cases r2
    cases r1 with
    | tup h1 h2 =>
      obtain ⟨v, hv, rv⟩ := atI_rp h2 h
      exact ⟨_, _, i, v, rfl, rfl, st_of (g2.h _ _ (g1.s _ _ h1)), hv, q _ F2 H2 (g1.trans g2) (rv.mono g2.f)⟩
theorem p_ixS {s : Str} {i : Int} {k : Nat} (ha : EvP c G ρ ta (.str s)) (hb : EvP c G ρ tb (.int i)) (hz : s.length ≤ 100000) (h : atI s.cps.toList i = some k) : EvP c G ρ (tOp rIxS ta tb) (.str ⟨#[k]⟩) := fun F σ H A Q q =>
  ha F σ H A _ fun v F1 H1 g1 r1 => hb F1 σ H1 (A.on g1) _ fun w F2 H2 g2 r2 => by
    cases r1; cases r2
    exact ⟨s, i, k, rfl, rfl, sz_of hz, h, q _ F2 H2 (g1.trans g2) (.str _)⟩
/-! tests -/
theorem t_test {b : Bool} (h : EvP c G ρ te (.bl b)) : EvT c G ρ (tTest te) b := fun F σ H A Q q => h F σ H A _ fun v F1 H1 g1 r1 => by cases r1; exact ⟨b, rfl, q F1 H1 g1⟩
theorem t_B {b : Bool} (h : EvP c G ρ te (.bl b)) : EvT c G ρ (tB te) b := fun F σ H A Q q => h F σ H A _ fun v F1 H1 g1 r1 => by cases r1; exact ⟨b, rfl, q F1 H1 g1⟩
theorem t_yes : EvT c G ρ tYes true := fun F σ H A Q q => q F H (Go.refl A.ex)
theorem t_not {a : Bool} (h : EvT c G ρ t a) : EvT c G ρ (tNot t) (!a) := fun F σ H A Q q => h F σ H A _ fun F1 H1 g1 => q F1 H1 g1
theorem t_and {a b : Bool} (h1 : EvT c G ρ t a) (h2 : Imp (a = true) (EvT c G ρ u b)) : EvT c G ρ (tAnd t u) (a && b) := fun F σ H A Q q => h1 F σ H A _ fun F1 H1 g1 => by
  cases a with
  | true =>
    show u σ H1 Q
    exact h2 rfl F1 σ H1 (A.on g1) Q fun F2 H2 g2 => q F2 H2 (g1.trans g2)
  | false =>
    show Q false H1
    exact q F1 H1 g1
theorem t_or {a b : Bool} (h1 : EvT c G ρ t a) (h2 : Imp (a = false) (EvT c G ρ u b)) : EvT c G ρ (tOr t u) (a || b) := fun F σ H A Q q => h1 F σ H A _ fun F1 H1 g1 => by
  cases a with
  | true =>
    show Q true H1
    exact q F1 H1 g1
  | false =>
    show u σ H1 Q
    exact h2 rfl F1 σ H1 (A.on g1) Q fun F2 H2 g2 => q F2 H2 (g1.trans g2)
theorem p_andV {a b : Bool} (h1 : EvP c G ρ ta (.bl a)) (h2 : Imp (a = true) (EvP c G ρ tb (.bl b))) : EvP c G ρ (tAndV ta tb) (.bl (a && b)) := fun F σ H A Q q => h1 F σ H A _ fun v F1 H1 g1 r1 => by
  cases r1
  refine ⟨a, rfl, ?_⟩
  cases a with
  | true =>
    show tb σ H1 Q
    exact h2 rfl F1 σ H1 (A.on g1) Q fun v F2 H2 g2 r2 => q v F2 H2 (g1.trans g2) r2
  | false =>
    show Q (.bl false) H1
    exact q _ F1 H1 g1 (.bl _)
theorem p_orV {a b : Bool} (h1 : EvP c G ρ ta (.bl a)) (h2 : Imp (a = false) (EvP c G ρ tb (.bl b))) : EvP c G ρ (tOrV ta tb) (.bl (a || b)) := fun F σ H A Q q => h1 F σ H A _ fun v F1 H1 g1 r1 => by
  cases r1
  refine ⟨a, rfl, ?_⟩
  cases a with
  | true =>
    show Q (.bl true) H1
    exact q _ F1 H1 g1 (.bl _)
  | false =>
    show tb σ H1 Q
    exact h2 rfl F1 σ H1 (A.on g1) Q fun v F2 H2 g2 r2 => q v F2 H2 (g1.trans g2) r2
theorem p_notV {a : Bool} (h1 : EvP c G ρ ta (.bl a)) : EvP c G ρ (tNotV ta) (.bl (!a)) := fun F σ H A Q q => h1 F σ H A _ fun v F1 H1 g1 r1 => by cases r1; exact ⟨a, rfl, q _ F1 H1 g1 (.bl _)⟩
theorem p_if {b : Bool} (h : EvT c G ρ t b) (h1 : Imp (b = true) (EvP c G ρ ta d)) (h2 : Imp (b = false) (EvP c G ρ tb d)) : EvP c G ρ (tIf t ta tb) d := fun F σ H A Q q => h F σ H A _ fun F1 H1 g1 => by
  cases b with
  | true =>
    show ta σ H1 Q
    exact h1 rfl F1 σ H1 (A.on g1) Q fun v F2 H2 g2 r2 => q v F2 H2 (g1.trans g2) r2
  | false =>
    show tb σ H1 Q
    exact h2 rfl F1 σ H1 (A.on g1) Q fun v F2 H2 g2 r2 => q v F2 H2 (g1.trans g2) r2
theorem p_ifI {b : Bool} {i j : Int} (h : EvT c G ρ t b) (h1 : Imp (b = true) (EvP c G ρ ta (.int i))) (h2 : Imp (b = false) (EvP c G ρ tb (.int j))) : EvP c G ρ (tIf t ta tb) (.int (if b then i else j)) :=
  p_if h (fun e => by subst e; exact h1 rfl) (fun e => by subst e; exact h2 rfl)
/-- a < b < c -/
theorem p_chain {r r' : R2} {x y z : D} {a b : Bool} (h1 : EvP c G ρ (tOp r ta tb) (.bl a)) (hb : EvP c G ρ ta x) (hy : EvP c G ρ tb y) (hr : ∀ F v w H, Ex F H → Rp F v x → Rp F w y → ∀ Q : VK, (∀ u F' H', Go F H F' H' → Rp F' u (.bl a) → Q u H') → r v w H Q)
    (hc : Imp (a = true) (EvP c G ρ tc z)) (hr2 : a = true → ∀ F v w H, Ex F H → Rp F v y → Rp F w z → ∀ Q : VK, (∀ u F' H', Go F H F' H' → Rp F' u (.bl b) → Q u H') → r' v w H Q) : EvP c G ρ (tChain r r' ta tb tc) (.bl (a && b)) := fun F σ H A Q q =>
  hb F σ H A _ fun v F1 H1 g1 r1 => hy F1 σ H1 (A.on g1) _ fun w F2 H2 g2 r2 => hr F2 v w H2 g2.s (r1.mono g2.f) r2 _ fun u F3 H3 g3 r3 => by
    cases r3
    refine ⟨a, rfl, ?_⟩
    have g := (g1.trans g2).trans g3
    cases a with
    | true =>
      show tc σ H3 _
      exact hc rfl F3 σ H3 (A.on g) _ fun z' F4 H4 g4 r4 => hr2 rfl F4 w z' H4 g4.s ((r2.mono g3.f).mono g4.f) r4 Q fun u F5 H5 g5 r5 => q u F5 H5 ((g.trans g4).trans g5) r5
    | false =>
      show Q (.bl false) H3
      exact q _ F3 H3 g (.bl _)
theorem p_chainI {f f' : Int → Int → Bool} {i j k : Int} (hb : EvP c G ρ ta (.int i)) (hy : EvP c G ρ tb (.int j)) (hc : Imp (f i j = true) (EvP c G ρ tc (.int k))) :
    EvP c G ρ (tChain (rI0 fun i j => .bl (f i j)) (rI0 fun i j => .bl (f' i j)) ta tb tc) (.bl (f i j && f' j k)) := by
  refine p_chain (x := .int i) (y := .int j) (z := .int k) (p_opB hb hy) hb hy (fun F v w H e r1 r2 Q q => ?_) hc fun h F v w H e r1 r2 Q q => ?_
  · cases r1; cases r2; exact ⟨i, j, rfl, rfl, q _ F H (Go.refl e) (.bl _)⟩
  · cases r1; cases r2; exact ⟨j, k, rfl, rfl, q _ F H (Go.refl e) (.bl _)⟩
/-! arguments, displays -/
theorem a_nil : EvA c G ρ tNil [] := fun F σ H A Q q => q _ F H (Go.refl A.ex) .nil
theorem a_cons {tr : TA} {ds : List D} (h : EvP c G ρ ta d) (hr : EvA c G ρ tr ds) : EvA c G ρ (tCons ta tr) (d :: ds) := fun F σ H A Q q =>
  h F σ H A _ fun v F1 H1 g1 r1 => hr F1 σ H1 (A.on g1) _ fun vs F2 H2 g2 r2 => q _ F2 H2 (g1.trans g2) (.cons (r1.mono g2.f) r2)
theorem p_tup {tr : TA} {ds : List D} (h : EvA c G ρ tr ds) (hz : ds.length ≤ 100000) : EvP c G ρ (tTup tr) (.tup ds) := fun F σ H A Q q =>
  h F σ H A _ fun vs F1 H1 g1 r1 => ⟨sz_of (by rw [r1.len]; exact hz), fun p hp => q _ _ _ (g1.trans (Go.newF g1.s hp)) (.tup upd_same (r1.mono (Ex.new (fresh_back g1.s hp))))⟩
theorem n_lst {tr : TA} {ds : List D} (h : EvA c G ρ tr ds) (hz : ds.length ≤ 100000) : EvN c G ρ (tLst tr) (.lst ds) := fun F σ H A Q q =>
  h F σ H A _ fun vs F1 H1 g1 r1 => ⟨sz_of (by rw [r1.len]; exact hz), fun p hp => q _ F1 _ (g1.trans (Go.newH g1.s hp)) (fresh_back g1.h hp) (fresh_back g1.s hp) ⟨vs, upd_same, r1⟩ fun _ e => nomatch e⟩
theorem o_none : EvO c G ρ tNoPart none := fun F σ H A Q q => q F H (Go.refl A.ex)
end
end Dl

namespace Dl
open PySem PySem.Spec PyProof.Rows L2 Evl Xb
/-! ### what is walked -/
/-- J gives the data ds one by one while what pins tells stands -/
structure ItOk (K : PySem.W.Frag) (J : It) (ds : List D) (pins : Res) : Prop where
  goes : ∀ i F H, i < ds.length → Ex F H → (∀ x ∈ pins, Shl K F H (.ref x.1) x.2) → J.go i H
  stops : ∀ F H, Ex F H → (∀ x ∈ pins, Shl K F H (.ref x.1) x.2) → J.stop ds.length H
  yields : ∀ i F H v H', i < ds.length → Ex F H → (∀ x ∈ pins, Shl K F H (.ref x.1) x.2) → J.yld i H v H' → ∃ F' d, Go F H F' H' ∧ ds[i]? = some d ∧ Rp F' v d
/-- wi walks over the data ds; g: the objects of G that it leans on -/
def EvI (c : Ct) (G : Res) (ρ : En) (wi : TI) (ds : List D) (g : Res) : Prop := ∀ F σ H, At c G ρ F σ H → ∀ R : It → Hp → Prop,
  (∀ J F' H' pins, Go F H F' H' → (∀ x ∈ pins, Shl c.K F' c.B (.ref x.1) x.2 ∨ x ∈ g) → ItOk c.K J ds pins → R J H') → wi σ H R
section
variable {c : Ct} {G : Res} {ρ : En} {ta tb tc te tl : TE} {t u : TT} {d e : D}
theorem itok_list {K : PySem.W.Frag} {a : Addr} {ds : List D} : ItOk K (Itl K a) ds [(a, .lst ds)] := by
  have h : ∀ F H, Ex F H → (∀ x ∈ [(a, D.lst ds)], Shl K F H (.ref x.1) x.2) → ∃ vs, H a = some (.lst vs) ∧ RpA F vs ds := fun F H e k => by
    obtain ⟨a', vs, e1, h1, h2⟩ := (k (a, .lst ds) List.mem_cons_self).lst e
    cases e1
    exact ⟨vs, h1, h2⟩
  refine ⟨fun i F H hi e k => ?_, fun F H e k => ?_, fun i F H v H' hi e k y => ?_⟩
  · obtain ⟨vs, h1, h2⟩ := h F H e k
    have hi' : i < vs.length := by rw [h2.len]; exact hi
    exact ⟨vs, vs[i], sq_of h1, by simp [hi']⟩
  · obtain ⟨vs, h1, h2⟩ := h F H e k
    exact ⟨vs, sq_of h1, by rw [h2.len]; exact Nat.le_refl _⟩
  · obtain ⟨vs, h1, h2⟩ := h F H e k
    obtain ⟨e1, y⟩ := y
    subst e1
    obtain ⟨d, hd, rd⟩ := h2.get (y vs (sq_of h1))
    exact ⟨F, d, Go.refl e, hd, rd⟩
theorem i_list {ds : List D} (h : EvP c G ρ tl (.lst ds)) : EvI c G ρ (iList c.K tl) ds [] := fun F σ H A R r => h F σ H A _ fun v F1 H1 g1 r1 => by
  cases r1 with
  | @lst a vs _ h1 h2 =>
    exact ⟨_, rfl, ⟨vs, sq_of (g1.s _ _ h1)⟩, r _ F1 H1 [(_, .lst ds)] g1 (fun x hx => by
      rcases List.mem_singleton.mp hx with rfl
      exact .inl (.inl (.lst h1 h2))) itok_list⟩
theorem i_listS {ds : List D} {a : Addr} (h : EvP c G ρ tl (.ref a)) (m : (a, .lst ds) ∈ c.S) : EvI c G ρ (iList c.K tl) ds [] := fun F σ H A R r => h F σ H A _ fun v F1 H1 g1 r1 => by
  cases r1
  have A1 := A.on g1
  obtain ⟨b, vs, e1, h1, h2⟩ := (A1.read (.inl m)).lst g1.s
  cases e1
  exact ⟨_, rfl, ⟨vs, sq_of h1⟩, r _ F1 H1 [(_, .lst ds)] g1 (fun x hx => by
    rcases List.mem_singleton.mp hx with rfl
    exact .inl (A1.sh _ m)) itok_list⟩
theorem i_listG {ds : List D} {a : Addr} (h : EvP c G ρ tl (.ref a)) (m : (a, .lst ds) ∈ G) : EvI c G ρ (iList c.K tl) ds [(a, .lst ds)] := fun F σ H A R r => h F σ H A _ fun v F1 H1 g1 r1 => by
  cases r1
  have A1 := A.on g1
  obtain ⟨b, vs, e1, h1, h2⟩ := (A1.read (.inr m)).lst g1.s
  cases e1
  exact ⟨_, rfl, ⟨vs, sq_of h1⟩, r _ F1 H1 [(_, .lst ds)] g1 (fun x hx => .inr hx) itok_list⟩
/-- ranges -/
def rangeD (lo : Int) (n : Nat) : List D := (List.range n).map fun (i : Nat) => D.int (lo + (i : Int))
theorem itok_range {K : PySem.W.Frag} {lo : Int} {n : Nat} : ItOk K (Itr lo n) (rangeD lo n) [] := by
  have hl : (rangeD lo n).length = n := by simp [rangeD]
  refine ⟨fun i F H hi e k => by rw [hl] at hi; exact hi, fun F H e k => by rw [hl]; exact Nat.le_refl n, fun i F H v H' hi e k y => ?_⟩
  obtain ⟨e1, e2⟩ := y
  subst e1 e2
  rw [hl] at hi
  exact ⟨F, .int (lo + (i : Int)), Go.refl e, by simp [rangeD, hi], .int _⟩
theorem i_range1 {ta : TA} {n : Int} (h : EvA c G ρ ta [.int n]) (hn : -100000 ≤ n ∧ n ≤ 100000) : EvI c G ρ (iRng1 ta) (rangeD 0 n.toNat) [] := fun F σ H A R r => h F σ H A _ fun vs F1 H1 g1 r1 => by
  cases r1 with
  | cons h1 h2 =>
    cases h1; cases h2
    exact ⟨n, rfl, by omega, by omega, r _ F1 H1 [] g1 (fun x hx => by simp at hx) itok_range⟩
theorem i_range2 {ta : TA} {lo n : Int} (h : EvA c G ρ ta [.int lo, .int n]) (hn : -(2 ^ 61) ≤ lo ∧ lo ≤ 2 ^ 61 ∧ -(2 ^ 61) ≤ n ∧ n ≤ 2 ^ 61) : EvI c G ρ (iRng2 ta) (rangeD lo (n - lo).toNat) [] := fun F σ H A R r => h F σ H A _ fun vs F1 H1 g1 r1 => by
  cases r1 with
  | cons h1 h2 =>
    cases h1
    cases h2 with
    | cons h3 h4 =>
      cases h3; cases h4
      exact ⟨lo, n, rfl, by omega, r _ F1 H1 [] g1 (fun x hx => by simp at hx) itok_range⟩
theorem i_range1m {ta : TA} {n : Int} (h : EvA c G ρ ta [.int n]) (hn : -100000 ≤ n ∧ n ≤ 100000) : EvI c G ρ (iRng1 ta) ((List.range n.toNat).map fun (i : Nat) => D.int (i : Int)) [] := by
  have := i_range1 h hn
  unfold rangeD at this
  simpa using this
theorem i_range2m {ta : TA} {lo n : Int} (h : EvA c G ρ ta [.int lo, .int n]) (hn : -(2 ^ 61) ≤ lo ∧ lo ≤ 2 ^ 61 ∧ -(2 ^ 61) ≤ n ∧ n ≤ 2 ^ 61) : EvI c G ρ (iRng2 ta) ((List.range (n - lo).toNat).map fun (i : Nat) => D.int (lo + (i : Int))) [] := i_range2 h hn
/-- a text, sign by sign -/
def signsD (s : Str) : List D := s.cps.toList.map fun k => D.str ⟨#[k]⟩
theorem i_str {s : Str} (h : EvP c G ρ tl (.str s)) : EvI c G ρ (iStr tl) (signsD s) [] := fun F σ H A R r => h F σ H A _ fun v F1 H1 g1 r1 => by
  cases r1
  have hl : (signsD s).length = s.cps.size := by simp [signsD]
  refine ⟨s, rfl, r _ F1 H1 [] g1 (fun x hx => by simp at hx) ⟨fun i F H hi e k => by rw [hl] at hi; exact hi, fun F H e k => by rw [hl]; exact Nat.le_refl _, fun i F H v H' hi e k y => ?_⟩⟩
  obtain ⟨e1, kc, hk, rfl⟩ := y
  subst e1
  refine ⟨F, .str ⟨#[kc]⟩, Go.refl e, ?_, .str _⟩
  simp [signsD, hk]
/-- enumerate(list), enumerate(text): new pairs -/
def enumD (ds : List D) : List D := ds.zipIdx.map fun p => D.tup [.int ((p.2 : Nat) : Int), p.1]
theorem enumD_at {ds : List D} {i : Nat} {d : D} (h : ds[i]? = some d) : (enumD ds)[i]? = some (.tup [.int (i : Int), d]) := by
  unfold enumD
  rw [List.getElem?_map, List.getElem?_zipIdx, h]
  simp
theorem enumD_len {ds : List D} : (enumD ds).length = ds.length := by simp [enumD]
theorem itok_enum {K : PySem.W.Frag} {a : Addr} {ds : List D} : ItOk K (Ite K a) (enumD ds) [(a, .lst ds)] := by
  have h : ∀ F H, Ex F H → (∀ x ∈ [(a, D.lst ds)], Shl K F H (.ref x.1) x.2) → ∃ vs, H a = some (.lst vs) ∧ RpA F vs ds := fun F H e k => by
    obtain ⟨a', vs, e1, h1, h2⟩ := (k (a, .lst ds) List.mem_cons_self).lst e
    cases e1
    exact ⟨vs, h1, h2⟩
  refine ⟨fun i F H hi e k => ?_, fun F H e k => ?_, fun i F H v H' hi e k y => ?_⟩
  · obtain ⟨vs, h1, h2⟩ := h F H e k
    rw [enumD_len] at hi
    have hi' : i < vs.length := by rw [h2.len]; exact hi
    exact ⟨vs, vs[i], sq_of h1, by simp [hi']⟩
  · obtain ⟨vs, h1, h2⟩ := h F H e k
    exact ⟨vs, sq_of h1, by rw [h2.len, enumD_len]; exact Nat.le_refl _⟩
  · obtain ⟨vs, h1, h2⟩ := h F H e k
    obtain ⟨T, x, rfl, hT, rfl, hx⟩ := y
    obtain ⟨d, hd, rd⟩ := h2.get (hx vs (sq_of h1))
    refine ⟨_, _, Go.newF e hT, enumD_at hd, .tup upd_same (.cons (.int _) (.cons (rd.mono (Ex.new (fresh_back e hT))) .nil))⟩
theorem i_enum {ds : List D} {ta : TA} (h : EvA c G ρ ta [.lst ds]) : EvI c G ρ (iEnum c.K ta) (enumD ds) [] := fun F σ H A R r => h F σ H A _ fun vs F1 H1 g1 r1 => by
  cases r1 with
  | cons r1 r2 =>
    cases r2
    cases r1 with
    | @lst a vs _ h1 h2 =>
      exact ⟨_, vs, rfl, sq_of (g1.s _ _ h1), r _ F1 H1 [(_, .lst ds)] g1 (fun x hx => by
        rcases List.mem_singleton.mp hx with rfl
        exact .inl (.inl (.lst h1 h2))) itok_enum⟩
theorem i_enumS {s : Str} {ta : TA} (h : EvA c G ρ ta [.str s]) : EvI c G ρ (iEnumS ta) (enumD (signsD s)) [] := fun F σ H A R r => h F σ H A _ fun vs F1 H1 g1 r1 => by
  cases r1 with
  | cons r1 r2 =>
    cases r2
    cases r1
    have hl : (signsD s).length = s.cps.size := by simp [signsD]
    refine ⟨s, rfl, r _ F1 H1 [] g1 (fun x hx => by simp at hx) ⟨fun i F H hi e k => by rw [enumD_len, hl] at hi; exact hi, fun F H e k => by rw [enumD_len, hl]; exact Nat.le_refl _, fun i F H v H' hi e k y => ?_⟩⟩
    obtain ⟨T, kc, rfl, hT, rfl, hk⟩ := y
    refine ⟨_, _, Go.newF e hT, enumD_at (d := .str ⟨#[kc]⟩) ?_, .tup upd_same (.cons (.int _) (.cons (.str _) .nil))⟩
    simp [signsD, hk]
/-! ### a target takes a datum -/
def EvG (c : Ct) (G : Res) (ρ : En) (g : TG) (d : D) (ρ' : En) (js : List Nat) : Prop := ∀ F σ H v, At c G ρ F σ H → Rp F v d → ∀ Q : L2.St → Hp → Prop,
  (∀ σ', At c G ρ' F σ' H → σ'.length = σ.length → (∀ i : Nat, i ∉ js → σ'[i]? = σ[i]?) → Q σ' H) → g v σ H Q
def EvGs (c : Ct) (G : Res) (ρ : En) (g : TGs) (ds : List D) (ρ' : En) (js : List Nat) : Prop := ∀ F σ H vs, At c G ρ F σ H → RpA F vs ds → ∀ Q : L2.St → Hp → Prop,
  (∀ σ', At c G ρ' F σ' H → σ'.length = σ.length → (∀ i : Nat, i ∉ js → σ'[i]? = σ[i]?) → Q σ' H) → g vs σ H Q
theorem g_name {i : Nat} : EvG c G ρ (gName i) d (ρ.set i (some d)) [i] := fun F σ H v A r Q q => q _ (A.set r) (by simp) fun j hj => by
  rw [List.getElem?_set_ne]
  intro e
  exact hj (by simp [e])
theorem g_nil : EvGs c G ρ gNil [] ρ [] := fun F σ H vs A r Q q => by
  cases r
  exact ⟨rfl, q σ A rfl fun _ _ => rfl⟩
theorem g_cons {g : TG} {gs : TGs} {ds : List D} {ρ1 ρ2 : En} {js ks : List Nat} (h : EvG c G ρ g d ρ1 js) (hs : EvGs c G ρ1 gs ds ρ2 ks) : EvGs c G ρ (gCons g gs) (d :: ds) ρ2 (js ++ ks) := fun F σ H vs A r Q q => by
  cases r with
  | cons r1 r2 =>
    refine ⟨_, _, rfl, h F σ H _ A r1 _ fun σ1 A1 l1 k1 => hs F σ1 H _ A1 r2 Q fun σ2 A2 l2 k2 => q σ2 A2 (l2.trans l1) fun j hj => ?_⟩
    simp only [List.mem_append, not_or] at hj
    exact (k2 j hj.2).trans (k1 j hj.1)
theorem g_tup {gs : TGs} {ds : List D} {n : Nat} {ρ' : En} {js : List Nat} (h : EvGs c G ρ gs ds ρ' js) (hn : ds.length = n) : EvG c G ρ (gTup c.K n gs) (.tup ds) ρ' js := fun F σ H v A r Q q => by
  cases r with
  | tup h1 h2 => exact ⟨_, _, rfl, st_of (A.ex _ _ h1), by rw [h2.len, hn], h F σ H _ A h2 Q q⟩
theorem g_tupE {gs : TGs} {ds : List D} {n : Nat} {ρ' : En} {js : List Nat} (e : d = .tup ds) (h : EvGs c G ρ gs ds ρ' js) (hn : ds.length = n) : EvG c G ρ (gTup c.K n gs) d ρ' js := e ▸ g_tup h hn
/-! ### comprehensions -/
def wipeE (ρ : En) : List Nat → En
  | [] => ρ
  | v :: vs => (wipeE ρ vs).set v none
theorem slots_wipe {F : Hp} {σ : L2.St} : ∀ (vs : List Nat), Slots F ρ σ → Slots F (wipeE ρ vs) (wipe σ vs)
  | [], h => h
  | v :: vs, h => by
    obtain ⟨h1, h2⟩ := slots_wipe vs h
    refine ⟨by unfold wipeE wipe; simp [h1], fun i d q => ?_⟩
    unfold wipeE at q
    unfold wipe
    by_cases e : v = i
    · subst e
      exfalso
      have := (List.getElem?_eq_some_iff.mp q)
      obtain ⟨hl, hv⟩ := this
      rw [List.getElem_set_self] at hv
      cases hv
    · rw [List.getElem?_set_ne e] at q ⊢
      exact h2 i d q
theorem At.wipe {F H : Hp} {σ : L2.St} (vs : List Nat) (A : At c G ρ F σ H) : At c G (wipeE ρ vs) F (L2.wipe σ vs) H := ⟨A.go, slots_wipe vs A.sl, A.sh, A.ow, A.nd, A.ns⟩
theorem wipe_at {σ : L2.St} : ∀ (vs : List Nat) (i : Nat), (L2.wipe σ vs)[i]? = if i ∈ vs ∧ i < σ.length then some none else σ[i]?
  | [], i => by simp [L2.wipe]
  | v :: vs, i => by
    unfold L2.wipe
    by_cases e : v = i
    · subst e
      by_cases hl : v < σ.length
      · rw [List.getElem?_set_self (by rw [wipe_length]; exact hl), if_pos ⟨by simp, hl⟩]
      · rw [if_neg (fun z => hl z.2), List.getElem?_eq_none (by simp [wipe_length]; omega), List.getElem?_eq_none (by omega)]
    · rw [List.getElem?_set_ne e, wipe_at vs i]
      have : (i ∈ v :: vs) ↔ i ∈ vs := by simp [Ne.symm e]
      simp only [this]
theorem wipe_ext {σ σ' : L2.St} {vs js : List Nat} (hl : σ'.length = (L2.wipe σ vs).length) (hj : ∀ j ∈ js, j ∈ vs) (h : ∀ i : Nat, i ∉ js → σ'[i]? = (L2.wipe σ vs)[i]?) : L2.wipe σ' vs = L2.wipe σ vs := by
  have hl' : σ'.length = σ.length := by rw [hl, wipe_length]
  apply List.ext_getElem?
  intro i
  rw [wipe_at, hl']
  by_cases hi : i ∈ vs
  · by_cases hl2 : i < σ.length
    · rw [if_pos ⟨hi, hl2⟩, wipe_at, if_pos ⟨hi, hl2⟩]
    · rw [if_neg (fun z => hl2 z.2), wipe_at, if_neg (fun z => hl2 z.2), List.getElem?_eq_none (by omega), List.getElem?_eq_none (by omega)]
  · rw [if_neg (fun z => hi z.1), h i (fun z => hi (hj i z))]
theorem filter_take {α : Type} {p : α → Bool} {us : List α} {i : Nat} {u : α} (h : us[i]? = some u) : (us.take (i + 1)).filter p = (us.take i).filter p ++ (if p u then [u] else []) := by
  rw [List.take_add_one, h, List.filter_append]
  simp [List.filter_cons]
theorem n_lc {α : Type} {us : List α} {enc : α → D} {wi : TI} {gt : TG} {vs js : List Nat} {g : Res} {p : α → Bool} {f : α → D} {ρu : α → En} (hi : EvI c G ρ wi (us.map enc) g) (hg : ∀ x ∈ g, x ∈ G)
    (ht : ∀ u ∈ us, EvG c G (wipeE ρ vs) gt (enc u) (ρu u) js) (hj : ∀ j ∈ js, j ∈ vs) (hb : ∀ u ∈ us, EvT c G (ρu u) t (p u)) (he : ∀ u ∈ us, p u = true → EvP c G (ρu u) te (f u)) (hz : us.length ≤ 40000) :
    EvN c G ρ (tLc wi gt t te vs) (.lst ((us.filter p).map f)) := fun F σ H A Q q => hi F σ H A _ fun J F1 H1 pins g1 hp iok Dl hD => by
  have A1 := A.on g1
  have hlen : (us.map enc).length = us.length := by simp
  have DF1 : F1 Dl = none := fresh_back g1.s hD
  have DB : c.B Dl = none := fresh_back A1.go.h hD
  have hDG : ∀ x ∈ G, x.1 ≠ Dl := fun x hx e => by
    obtain ⟨h1, _, _⟩ := A1.ow x hx
    exact (h1.there (A1.ns x hx)) (by rw [e]; exact hD)
  -- the word: so far
  refine ⟨fun i m H' => m = us.length - i ∧ i ≤ us.length ∧ ∃ F', At c G (wipeE ρ vs) F' (L2.wipe σ vs) H' ∧ Go F1 H1 F' H' ∧ F' Dl = none ∧ ∃ ws, H' Dl = some (.lst ws) ∧ RpA F' ws (((us.take i).filter p).map f), ⟨us.length, by simp, Nat.zero_le _, F1, ?_, ?_, DF1, [], upd_same, .nil⟩, ?_⟩
  · exact (A1.on (Go.newH g1.s hD)).wipe vs
  · exact Go.newH g1.s hD
  · rintro i m H2 ⟨rfl, hi2, F2, A2, g2, DF2, ws, hD2, r2⟩
    have hpin : ∀ x ∈ pins, Shl c.K F2 H2 (.ref x.1) x.2 := fun x hx => by
      rcases hp x hx with k | k
      · rcases k with k | ⟨a, k1, k2⟩
        · exact .inl (k.mono g2.f)
        · exact .inr ⟨a, k1, k2.mono g2.f A2.go.h⟩
      · exact A2.read (.inr (hg x k))
    by_cases hlt : i < us.length
    · have hu : us[i]? = some us[i] := List.getElem?_eq_getElem hlt
      have hmem : us[i] ∈ us := List.getElem_mem hlt
      refine .inr ⟨iok.goes i F2 H2 (by rw [hlen]; exact hlt) g2.s hpin, fun H' => (i + 1) ≤ us.length ∧ ∃ F', At c G (wipeE ρ vs) F' (L2.wipe σ vs) H' ∧ Go F1 H1 F' H' ∧ F' Dl = none ∧ ∃ ws, H' Dl = some (.lst ws) ∧ RpA F' ws (((us.take (i + 1)).filter p).map f),
        fun H' ⟨h1, h2⟩ => ⟨us.length - (i + 1), by omega, rfl, h1, h2⟩, fun x H3 y => ?_⟩
      obtain ⟨F3, d, g3, hd, rd⟩ := iok.yields i F2 H2 x H3 (by rw [hlen]; exact hlt) g2.s hpin y
      have hd' : d = enc us[i] := by
        rw [List.getElem?_map, hu] at hd
        exact (Option.some.inj hd).symm
      subst hd'
      have A3 := A2.on g3
      have gg3 := g2.trans g3
      have nD2 : H2 Dl ≠ none := by rw [hD2]; exact fun z => nomatch z
      refine ht _ hmem F3 _ H3 x A3 rd _ fun σ4 A4 l4 k4 => ⟨wipe_ext l4 hj k4, ?_⟩
      refine hb _ hmem F3 σ4 H3 A4 _ fun F5 H5 g5 => ?_
      have A5 := A4.on g5
      have g35 := g3.trans g5
      have hD5 : H5 Dl = some (.lst ws) := g35.h _ _ hD2
      have DF5 : F5 Dl = none := g35.out nD2 DF2
      have back : ∀ {σ' : L2.St} {F' H' : Hp}, Go F2 H2 F' H' → At c G (wipeE ρ vs) F' (L2.wipe σ vs) H' := fun g' => A2.on g'
      cases hb2 : p us[i] with
      | false =>
        show (i + 1) ≤ us.length ∧ _
        refine ⟨hlt, F5, back (σ' := σ4) g35, g2.trans g35, DF5, ws, hD5, ?_⟩
        rw [filter_take hu, hb2]
        simpa using r2.mono g35.f
      | true =>
        show te σ4 H5 _
        refine he _ hmem hb2 F5 σ4 H5 A5 _ fun y' F6 H6 g6 r6 => ?_
        have g26 := g35.trans g6
        have hD6 : H6 Dl = some (.lst ws) := g26.h _ _ hD2
        have DF6 : F6 Dl = none := g26.out nD2 DF2
        have A6 := back (σ' := σ4) g26
        have hwl : ws.length ≤ i := by
          rw [r2.len, List.length_map]
          exact Nat.le_trans (List.length_filter_le _ _) (by rw [List.length_take]; omega)
        refine ⟨ws, hD6, sz_lt (by omega), hlt, F6, ?_, ?_, DF6, ws ++ [y'], upd_same, ?_⟩
        · refine ⟨⟨Ex.mut A6.go.h DB, A6.go.f, fun a o e => ?_, A6.go.n⟩, A6.sl, A6.sh, fun z hz => ?_, A6.nd, A6.ns⟩
          · rw [upd_ne (ne_of_none e DF6)]; exact A6.go.s a o e
          · obtain ⟨w1, w2, w3⟩ := A6.ow z hz
            exact ⟨w1.keep (Ex.refl _) (fun o e => by rw [upd_ne (hDG z hz)]; exact e), w2, w3⟩
        · have gg := g2.trans g26
          exact ⟨Ex.mut gg.h hD, gg.f, fun a o e => by rw [upd_ne (ne_of_none e DF6)]; exact gg.s a o e, gg.n⟩
        · rw [filter_take hu, hb2]
          simpa using (r2.mono g26.f).snoc r6
    · have e : i = us.length := by omega
      subst e
      refine .inl ⟨by have := iok.stops F2 H2 g2.s hpin; rwa [hlen] at this, ?_⟩
      rw [List.take_length] at r2
      exact q Dl F2 H2 (g1.trans g2) (fresh_back g1.h hD) DF2 ⟨ws, hD2, r2⟩ fun _ e => nomatch e
/-- without an if -/
theorem n_map {α : Type} {us : List α} {enc : α → D} {wi : TI} {gt : TG} {vs js : List Nat} {g : Res} {f : α → D} {ρu : α → En} (hi : EvI c G ρ wi (us.map enc) g) (hg : ∀ x ∈ g, x ∈ G)
    (ht : ∀ u ∈ us, EvG c G (wipeE ρ vs) gt (enc u) (ρu u) js) (hj : ∀ j ∈ js, j ∈ vs) (he : ∀ u ∈ us, EvP c G (ρu u) te (f u)) (hz : us.length ≤ 40000) : EvN c G ρ (tLc wi gt tYes te vs) (.lst (us.map f)) := by
  have := n_lc (t := tYes) (p := fun _ => true) (f := f) (ρu := ρu) hi hg ht hj (fun _ _ => t_yes) (fun u hu _ => he u hu) hz
  rwa [List.filter_eq_self.mpr (by simp)] at this
end
end Dl

namespace Dl
open PySem PySem.Spec PyProof.Rows L2 Evl Xb
/-! ### statements -/
def Sx (c : Ct) (G : Res) (ρ : En) (ts : TS) (E : Ends) : Prop := ∀ F σ H, At c G ρ F σ H → ts E σ H
def StE (c : Ct) (G : Res) (ρ : En) : L2.St → Hp → Prop := fun σ H => ∃ F, At c G ρ F σ H
abbrev Ct.wS (c : Ct) (S : Res) : Ct := { c with S := S }
section
variable {c : Ct} {G G' : Res} {ρ ρ' : En} {ta tb tc te tl : TE} {t u : TT} {d e : D} {ts tw tz : TS} {E : Ends} {i k : Nat} {p : Addr} {g : TG}
theorem Sx.last (h : Sx c G ρ (tSeq ts tNext) E) : Sx c G ρ ts E := h
theorem Sx.eq (h : Sx c G' ρ' ts E) (e1 : G = G') (e2 : ρ = ρ') : Sx c G ρ ts E := by subst e1 e2; exact h
theorem Sx.le (h : Sx c G ρ' ts E) (l : Le ρ' ρ) : Sx c G ρ ts E := fun F σ H A => h F σ H (A.le l)
theorem StE.le (l : Le ρ' ρ) {σ : L2.St} {H : Hp} (h : StE c G ρ σ H) : StE c G ρ' σ H := let ⟨F, A⟩ := h; ⟨F, A.le l⟩
theorem sx_asg (h : EvP c G ρ te d) (q : Sx c G (ρ.set i (some d)) tz E) : Sx c G ρ (tSeq (tAsg te (gName i)) tz) E := fun F σ H A =>
  h F σ H A _ fun v F1 H1 g1 r1 => q F1 _ H1 ((A.on g1).set r1)
theorem sx_asgT {js : List Nat} (h : EvP c G ρ te d) (hg : EvG c G ρ g d ρ' js) (q : Sx c G ρ' tz E) : Sx c G ρ (tSeq (tAsg te g) tz) E := fun F σ H A =>
  h F σ H A _ fun v F1 H1 g1 r1 => hg F1 σ H1 v (A.on g1) r1 _ fun σ' A' _ _ => q F1 σ' H1 A'
/-- a new object is the def's own -/
theorem At.own {F H F' H' : Hp} {σ : L2.St} (A : At c G ρ F σ H) (g1 : Go F H F' H') (hp : H p = none) (hf : F' p = none) (ho : Ow c.K F' H' p d) (hs : ∀ ns, d ≠ .scr ns) : At c ((p, d) :: G) ρ F' σ H' := by
  have A1 := A.on g1
  refine ⟨A1.go, A1.sl, A1.sh, fun x hx => ?_, ?_, fun x hx => ?_⟩
  · rcases List.mem_cons.mp hx with rfl | hx
    · exact ⟨ho, hf, fresh_back A.go.h hp⟩
    · exact A1.ow x hx
  · rw [List.map_cons, List.nodup_cons]
    refine ⟨fun hm => ?_, A.nd⟩
    obtain ⟨x, hx, e⟩ := List.mem_map.mp hm
    exact ((A.ow x hx).1.there (A.ns x hx)) (by rw [e]; exact hp)
  · rcases List.mem_cons.mp hx with rfl | hx
    · exact hs
    · exact A.ns x hx
theorem sx_own (h : EvN c G ρ te d) (q : ∀ p, Sx c ((p, d) :: G) (ρ.set i (some (.ref p))) tz E) : Sx c G ρ (tSeq (tAsg te (gName i)) tz) E := fun F σ H A =>
  h F σ H A _ fun p F1 H1 g1 hp hf ho hs => q p F1 _ H1 ((A.own g1 hp hf ho hs).set (.ref p))
/-- an own object is put into F, for good -/
theorem At.freeze {F H : Hp} {σ : L2.St} (A : At c ((p, d) :: G) ρ F σ H) : ∃ F', At c G ρ F' σ H ∧ Rp F' (.ref p) d ∧ Ex F F' := by
  obtain ⟨ho, hf, hB⟩ := A.ow _ List.mem_cons_self
  have hs := A.ns _ List.mem_cons_self
  obtain ⟨o, hH⟩ : ∃ o, H p = some o := by
    cases e : H p with
    | none => exact absurd e (ho.there hs)
    | some o => exact ⟨o, rfl⟩
  have hnd := A.nd
  rw [List.map_cons, List.nodup_cons] at hnd
  refine ⟨upd F p o, ⟨⟨A.go.h, A.go.f.trans (Ex.new hf), fun a u ha => ?_, fun a ha => ?_⟩, A.sl.mono (Ex.new hf), fun x hx => ?_, fun x hx => ?_, hnd.2, fun x hx => A.ns x (List.mem_cons_of_mem _ hx)⟩, ?_, Ex.new hf⟩
  · by_cases e : a = p
    · subst e; rw [upd_same] at ha; rw [hH]; exact ha
    · rw [upd_ne e] at ha; exact A.go.s a u ha
  · rw [upd_ne fun e => ha (by rw [e]; exact hB)]
    exact A.go.n a ha
  · rcases A.sh x hx with h | ⟨a, h1, h2⟩
    · exact .inl (h.mono (Ex.new hf))
    · exact .inr ⟨a, h1, h2.mono (Ex.new hf) (Ex.refl _)⟩
  · obtain ⟨h1, h2, h3⟩ := A.ow x (List.mem_cons_of_mem _ hx)
    refine ⟨h1.mono (Ex.new hf) (Ex.refl _), ?_, h3⟩
    rw [upd_ne fun e => hnd.1 (List.mem_map.mpr ⟨x, hx, e⟩)]
    exact h2
  · exact (ho.mono (Ex.new hf) (Ex.refl _)).rp hs fun u hu => by rw [upd_same, ← hu, hH]
theorem sx_freeze (h : ρ[i]? = some (some (.ref p))) (q : Sx c G (ρ.set i (some d)) ts E) : Sx c ((p, d) :: G) ρ ts E := fun F σ H A => by
  obtain ⟨v, h1, h2⟩ := A.sl.2 i _ h
  cases h2
  obtain ⟨F', A', r, _⟩ := A.freeze
  have := A'.set (i := i) r
  rw [show σ.set i (some (V.ref p)) = σ by
    apply List.ext_getElem?
    intro j
    by_cases e : i = j
    · subst e
      have hl := (List.getElem?_eq_some_iff.mp h1).1
      rw [List.getElem?_set_self hl, h1]
    · rw [List.getElem?_set_ne e]] at this
  exact q F' σ H this
theorem sx_if {b : Bool} (h : EvT c G ρ t b) (h1 : b = true → Sx c G ρ ts { E with nx := tz E }) (h2 : b = false → Sx c G ρ tw { E with nx := tz E }) : Sx c G ρ (tSeq (tIfS t ts tw) tz) E := fun F σ H A =>
  h F σ H A _ fun F1 H1 g1 => by
    cases b with
    | true =>
      show ts _ σ H1
      exact h1 rfl F1 σ H1 (A.on g1)
    | false =>
      show tw _ σ H1
      exact h2 rfl F1 σ H1 (A.on g1)
theorem sx_if1 {b : Bool} (h : EvT c G ρ t b) (h1 : b = true → Sx c G ρ ts E) (h2 : b = false → Sx c G ρ tw E) : Sx c G ρ (tIfS t ts tw) E := fun F σ H A =>
  h F σ H A _ fun F1 H1 g1 => by
    cases b with
    | true =>
      show ts _ σ H1
      exact h1 rfl F1 σ H1 (A.on g1)
    | false =>
      show tw _ σ H1
      exact h2 rfl F1 σ H1 (A.on g1)
theorem sx_when {b : Bool} (h : EvT c G ρ t b) (h1 : b = true → Sx c G ρ ts { E with nx := tz E }) (h2 : b = false → Sx c G ρ tz E) : Sx c G ρ (tSeq (tIfS t ts tNext) tz) E := sx_if h h1 h2
theorem sx_skip (h : EvT c G ρ t false) (h2 : Sx c G ρ tz E) : Sx c G ρ (tSeq (tIfS t ts tNext) tz) E := sx_if h (fun q => nomatch q) fun _ => h2
/-- what follows an if is told once: behind both ways it holds at ρ' -/
theorem sx_cut {M : L2.St → Hp → Prop} (h : Sx c G ρ ts { E with nx := M }) (q : ∀ σ H, M σ H → tz E σ H) : Sx c G ρ (tCut ts tz) E := fun F σ H A => ⟨M, h F σ H A, q⟩
theorem sx_cutE (G' : Res) (ρ' : En) (h : Sx c G ρ ts { E with nx := StE c G' ρ' }) (q : Sx c G' ρ' tz E) : Sx c G ρ (tCut ts tz) E := sx_cut h fun σ H ⟨F, A⟩ => q F σ H A
theorem sx_ifAsg {b : Bool} (h : EvT c G ρ t b) (h1 : b = true → EvP c G ρ te d) (h2 : b = false → Le (ρ.set i (some d)) ρ) (q : Sx c G (ρ.set i (some d)) tz E) : Sx c G ρ (tSeq (tIfS t (tAsg te (gName i)) tNext) tz) E :=
  sx_if h (fun hb F σ H A => h1 hb F σ H A _ fun v F1 H1 g1 r1 => q F1 _ H1 ((A.on g1).set r1)) fun hb => q.le (h2 hb)
theorem sx_ret (h : EvP c G ρ te d) (q : ∀ v F' H', Go c.F0 c.B F' H' → Rp F' v d → E.rt v H') : Sx c G ρ (tRet te) E := fun F σ H A =>
  h F σ H A _ fun v F1 H1 g1 r1 => q v F1 H1 (A.go.trans g1) r1
/-- .. told by another word -/
theorem sx_retE (q : ∀ v F' H', Go c.F0 c.B F' H' → Rp F' v e → E.rt v H') (h : EvP c G ρ te d) (k : d = e) : Sx c G ρ (tRet te) E := sx_ret (h.is k) q
theorem sx_retS (h : EvP c G ρ te d) (q : ∀ v F' H', Go c.F0 c.B F' H' → Rp F' v d → E.rt v H') : Sx c G ρ (tSeq (tRet te) tz) E := sx_ret (E := { E with nx := tz E }) h q
/-- a new object handed out -/
theorem sx_retN (h : EvN c G ρ te d) (q : ∀ p F' H', Go c.F0 c.B F' H' → c.B p = none → F' p = none → Ow c.K F' H' p d → E.rt (.ref p) H') : Sx c G ρ (tRet te) E := fun F σ H A =>
  h F σ H A _ fun p F1 H1 g1 hp hf ho hs => q p F1 H1 (A.go.trans g1) (fresh_back A.go.h hp) hf ho
/-- an own object handed out -/
theorem sx_retG (h : EvP c G ρ te (.ref p)) (m : (p, d) ∈ G) (q : ∀ p F' H', Go c.F0 c.B F' H' → c.B p = none → F' p = none → Ow c.K F' H' p d → E.rt (.ref p) H') : Sx c G ρ (tRet te) E := fun F σ H A =>
  h F σ H A _ fun v F1 H1 g1 r1 => by
    cases r1
    have A1 := A.on g1
    obtain ⟨h1, h2, h3⟩ := A1.ow _ m
    exact q p F1 H1 A1.go h3 h2 h1
theorem sx_retNone (q : ∀ v F' H', Go c.F0 c.B F' H' → Rp F' v .non → E.rt v H') : Sx c G ρ tRetN E := fun F σ H A => q _ F H A.go .non
theorem sx_drop (h : EvP c G ρ te d) (q : Sx c G ρ tz E) : Sx c G ρ (tSeq (tDrop te) tz) E := fun F σ H A =>
  h F σ H A _ fun v F1 H1 g1 r1 => q F1 _ H1 (A.on g1)
theorem sx_aug {f : Int → Int → Int} {a b : Int} (hx : ρ[i]? = some (some (.int a))) (h : EvP c G ρ te (.int b)) (q : Sx c G (ρ.set i (some (.int (f a b)))) tz E) : Sx c G ρ (tSeq (tAug i te (ipI f)) tz) E := fun F σ H A => by
  obtain ⟨v, h1, h2⟩ := A.sl.2 i _ hx
  cases h2
  exact ⟨_, h1, h F σ H A _ fun v F1 H1 g1 r1 => by
    cases r1
    exact ⟨a, b, rfl, rfl, q F1 _ H1 ((A.on g1).set (.int _))⟩⟩
theorem sx_next (h : ∀ F σ H, At c G ρ F σ H → E.nx σ H) : Sx c G ρ tNext E := h
theorem sx_end (hn : E.nx = StE c G' ρ') (e : G = G') (l : Le ρ' ρ) : Sx c G ρ tNext E := fun F σ H A => by
  show E.nx σ H
  rw [hn]
  subst e
  exact ⟨F, A.le l⟩
/-- the end of a branch: what follows the if -/
theorem sx_into {r : VK} {b k : L2.St → Hp → Prop} (q : Sx c G ρ ts E) : Sx c G ρ tNext { nx := ts E, rt := r, bk := b, ct := k } := q
/-! an own object is changed -/
theorem At.upd {F H : Hp} {σ : L2.St} {o : HO} (A : At c G ρ F σ H) (hk : G[k]? = some (p, d)) (ho : Ow c.K F (L2.upd H p o) p e) (hs : ∀ ns, e ≠ .scr ns) : At c (G.set k (p, e)) ρ F σ (L2.upd H p o) := by
  have hm : (p, d) ∈ G := List.mem_of_getElem? hk
  have hl := (List.getElem?_eq_some_iff.mp hk).1
  have hkk : G[k] = (p, d) := (List.getElem?_eq_some_iff.mp hk).2
  obtain ⟨h1, h2, h3⟩ := A.ow _ hm
  have keys : (G.set k (p, e)).map (·.1) = G.map (·.1) := by
    apply List.ext_getElem?
    intro j
    by_cases ej : k = j
    · subst ej
      rw [List.getElem?_map, List.getElem?_map, List.getElem?_set_self hl, hk]
      rfl
    · rw [List.getElem?_map, List.getElem?_map, List.getElem?_set_ne ej]
  have old : ∀ x ∈ G.set k (p, e), x = (p, e) ∨ (x ∈ G ∧ x.1 ≠ p) := fun x hx => by
    obtain ⟨j, hj⟩ := List.getElem?_of_mem hx
    by_cases ej : k = j
    · subst ej
      rw [List.getElem?_set_self hl] at hj
      exact .inl (Option.some.inj hj).symm
    · rw [List.getElem?_set_ne ej] at hj
      refine .inr ⟨List.mem_of_getElem? hj, fun e' => ej ?_⟩
      refine (List.getElem?_inj (l := G.map (·.1)) (by simpa using hl) A.nd).mp ?_
      rw [List.getElem?_map, List.getElem?_map, hk, hj]
      exact congrArg some e'.symm
  refine ⟨⟨Ex.mut A.go.h h3, A.go.f, fun a u ha => ?_, A.go.n⟩, A.sl, A.sh, fun x hx => ?_, by rw [keys]; exact A.nd, fun x hx => ?_⟩
  · rw [upd_ne (ne_of_none ha h2)]; exact A.go.s a u ha
  · rcases old x hx with rfl | ⟨hx', hne⟩
    · exact ⟨ho, h2, h3⟩
    · obtain ⟨k1, k2, k3⟩ := A.ow x hx'
      exact ⟨k1.keep (Ex.refl _) (fun o e => by rw [upd_ne hne]; exact e), k2, k3⟩
  · rcases old x hx with rfl | ⟨hx', _⟩
    · exact hs
    · exact A.ns x hx'
theorem at_G {F H : Hp} {σ : L2.St} {ds : List D} (A : At c G ρ F σ H) (hk : G[k]? = some (p, .lst ds)) : ∃ vs, H p = some (.lst vs) ∧ RpA F vs ds := (A.ow _ (List.mem_of_getElem? hk)).1
/-- xs.append(e) -/
theorem sx_app {ds : List D} (k : Nat) (ha : EvP c G ρ ta (.ref p)) (hk : G[k]? = some (p, .lst ds)) (h : EvP c G ρ te d) (hz : ds.length < 100000) (q : Sx c (G.set k (p, .lst (ds ++ [d]))) ρ tz E) :
    Sx c G ρ (tSeq (tDrop (tBM c.K "list" rAppend ta (tCons te tNil))) tz) E := fun F σ H A => ha F σ H A _ fun v F1 H1 g1 r1 => by
  cases r1
  have A1 := A.on g1
  obtain ⟨vs, hv, rv⟩ := at_G A1 hk
  refine ⟨.inl ⟨rfl, vs, sq_of hv⟩, h F1 σ H1 A1 _ fun w F2 H2 g2 r2 => ?_⟩
  have A2 := A1.on g2
  have hv2 := g2.h _ _ hv
  refine ⟨p, vs, w, rfl, rfl, hv2, sz_lt (by rw [rv.len]; exact hz), ?_⟩
  exact q F2 σ _ (A2.upd hk ⟨_, upd_same, (rv.mono g2.f).snoc r2⟩ fun _ e => nomatch e)
/-- xs.extend(ys) -/
theorem sx_ext {ds es : List D} (k : Nat) (ha : EvP c G ρ ta (.ref p)) (hk : G[k]? = some (p, .lst ds)) (h : EvS c G ρ te (.lst es)) (hz : ds.length + es.length ≤ 100000) (q : Sx c (G.set k (p, .lst (ds ++ es))) ρ tz E) :
    Sx c G ρ (tSeq (tDrop (tBM c.K "list" rExtend ta (tCons te tNil))) tz) E := fun F σ H A => ha F σ H A _ fun v F1 H1 g1 r1 => by
  cases r1
  have A1 := A.on g1
  obtain ⟨vs, hv, rv⟩ := at_G A1 hk
  refine ⟨.inl ⟨rfl, vs, sq_of hv⟩, h F1 σ H1 A1 _ fun w F2 H2 g2 r2 => ?_⟩
  have A2 := A1.on g2
  have hv2 := g2.h _ _ hv
  obtain ⟨b, zs, rfl, hb, rb⟩ := r2.lst g2.s
  refine ⟨p, b, vs, zs, rfl, rfl, hv2, hb, sz_of (by rw [rv.len, rb.len]; exact hz), ?_⟩
  exact q F2 σ _ (A2.upd hk ⟨_, upd_same, (rv.mono g2.f).app rb⟩ fun _ e => nomatch e)
/-! loops -/
theorem sx_for {ds : List D} {wi : TI} {g : TG} {gr : Res} {js : List Nat} (Gs : Nat → Res) (ρs : Nat → En) (ρb : Nat → D → En) (hi : EvI c G ρ wi ds gr) (hg : ∀ x ∈ gr, ∀ i, x ∈ Gs i) (h0 : G = Gs 0) (l0 : Le (ρs 0) ρ)
    (ht : ∀ i d, ds[i]? = some d → ∀ S' : Res, EvG (c.wS S') (Gs i) (ρs i) g d (ρb i d) js)
    (hs : ∀ i d, ds[i]? = some d → ∀ S' : Res, (∀ x ∈ c.S, x ∈ S') → Sx (c.wS S') (Gs i) (ρb i d) ts { E with nx := StE (c.wS S') (Gs (i + 1)) (ρs (i + 1)), ct := StE (c.wS S') (Gs (i + 1)) (ρs (i + 1)), bk := tz E })
    (q : Sx c (Gs ds.length) (ρs ds.length) tz E) : Sx c G ρ (tSeq (tFor wi g ts) tz) E := fun F σ H A => hi F σ H A _ fun J F1 H1 pins g1 hp iok => by
  have A1 := A.on g1
  have pinS : ∀ x ∈ pins, Shl c.K F1 c.B (.ref x.1) x.2 ∨ x ∈ gr := hp
  -- the pins that are no own objects
  obtain ⟨S', hS, hS'⟩ : ∃ S' : Res, (∀ x ∈ c.S, x ∈ S') ∧ (∀ x ∈ S', Shl c.K F1 c.B (.ref x.1) x.2) ∧ ∀ x ∈ pins, x ∈ S' ∨ x ∈ gr := by
    have key : ∀ l : Res, (∀ x ∈ l, x ∈ pins) → ∃ S' : Res, (∀ x ∈ c.S, x ∈ S') ∧ (∀ x ∈ S', Shl c.K F1 c.B (.ref x.1) x.2) ∧ ∀ x ∈ l, x ∈ S' ∨ x ∈ gr := by
      intro l
      induction l with
      | nil => exact fun _ => ⟨c.S, fun _ h => h, A1.sh, fun x hx => by simp at hx⟩
      | cons y l ih =>
        intro hl
        obtain ⟨S', a1, a2, a3⟩ := ih fun x hx => hl x (List.mem_cons_of_mem _ hx)
        rcases pinS y (hl y List.mem_cons_self) with k | k
        · refine ⟨y :: S', fun x hx => List.mem_cons_of_mem _ (a1 x hx), fun x hx => ?_, fun x hx => ?_⟩
          · rcases List.mem_cons.mp hx with rfl | hx
            · exact k
            · exact a2 x hx
          · rcases List.mem_cons.mp hx with rfl | hx
            · exact .inl List.mem_cons_self
            · rcases a3 x hx with z | z
              · exact .inl (List.mem_cons_of_mem _ z)
              · exact .inr z
        · refine ⟨S', a1, a2, fun x hx => ?_⟩
          rcases List.mem_cons.mp hx with rfl | hx
          · exact .inr k
          · exact a3 x hx
    exact key pins fun _ h => h
  obtain ⟨hS2, hS3⟩ := hS'
  have toS : ∀ {G ρ F σ H}, Ex F1 F → At c G ρ F σ H → At (c.wS S') G ρ F σ H := fun {G ρ F σ H} e A => ⟨A.go, A.sl, fun x hx => by
    rcases hS2 x hx with k | ⟨a, k1, k2⟩
    · exact .inl (k.mono e)
    · exact .inr ⟨a, k1, k2.mono e (Ex.refl _)⟩, A.ow, A.nd, A.ns⟩
  have ofS : ∀ {G ρ F σ H}, At (c.wS S') G ρ F σ H → At c G ρ F σ H := fun A => ⟨A.go, A.sl, fun x hx => A.sh x (hS x hx), A.ow, A.nd, A.ns⟩
  refine ⟨fun i m σ H => m = ds.length - i ∧ i ≤ ds.length ∧ StE (c.wS S') (Gs i) (ρs i) σ H, ⟨ds.length, by simp, Nat.zero_le _, F1, ?_⟩, ?_⟩
  · rw [← h0]
    exact toS (Ex.refl _) (A1.le l0)
  · rintro i m σ2 H2 ⟨rfl, hi2, F2, A2⟩
    have hpin : ∀ x ∈ pins, Shl c.K F2 H2 (.ref x.1) x.2 := fun x hx => by
      rcases hS3 x hx with k | k
      · exact A2.read (.inl k)
      · exact A2.read (.inr (hg x k i))
    by_cases hlt : i < ds.length
    · refine .inr ⟨iok.goes i F2 H2 hlt A2.ex hpin, StE (c.wS S') (Gs (i + 1)) (ρs (i + 1)), fun σ' H' k => ⟨ds.length - (i + 1), by omega, rfl, hlt, k⟩, fun x H3 y => ?_⟩
      obtain ⟨F3, d, g3, hd, rd⟩ := iok.yields i F2 H2 x H3 hlt A2.ex hpin y
      exact ht i d hd S' F3 σ2 H3 x (A2.on g3) rd _ fun σ4 A4 _ _ => hs i d hd S' hS F3 σ4 H3 A4
    · have e : i = ds.length := by omega
      subst e
      exact .inl ⟨iok.stops F2 H2 A2.ex hpin, q F2 σ2 H2 (ofS A2)⟩
/-- over items of one kind, to one name -/
theorem sx_forU {α : Type} {us : List α} {enc : α → D} {wi : TI} {j : Nat} {gr : Res} (Gs : Nat → Res) (ρs : Nat → En) (hi : EvI c G ρ wi (us.map enc) gr) (hg : ∀ x ∈ gr, ∀ i, x ∈ Gs i) (h0 : G = Gs 0) (l0 : Le (ρs 0) ρ)
    (hs : ∀ i u, us[i]? = some u → ∀ S' : Res, (∀ x ∈ c.S, x ∈ S') → Sx (c.wS S') (Gs i) ((ρs i).set j (some (enc u))) ts { E with nx := StE (c.wS S') (Gs (i + 1)) (ρs (i + 1)), ct := StE (c.wS S') (Gs (i + 1)) (ρs (i + 1)), bk := tz E })
    (q : Sx c (Gs us.length) (ρs us.length) tz E) : Sx c G ρ (tSeq (tFor wi (gName j) ts) tz) E := by
  refine sx_for Gs ρs (fun i d => (ρs i).set j (some d)) hi hg h0 l0 (fun i d _ S' => g_name) (fun i d hd S' hS => ?_) (by rw [List.length_map]; exact q)
  rw [List.getElem?_map] at hd
  obtain ⟨u, hu, rfl⟩ := Option.map_eq_some_iff.mp hd
  exact hs i u hu S' hS
/-- over a range, to one name -/
theorem sx_forR {wi : TI} {j : Nat} {lo : Int} {n : Nat} (Gs : Nat → Res) (ρs : Nat → En) (hi : EvI c G ρ wi (rangeD lo n) []) (h0 : G = Gs 0) (l0 : Le (ρs 0) ρ)
    (hs : ∀ (i : Nat), i < n → ∀ S' : Res, (∀ x ∈ c.S, x ∈ S') → Sx (c.wS S') (Gs i) ((ρs i).set j (some (.int (lo + (i : Int))))) ts { E with nx := StE (c.wS S') (Gs (i + 1)) (ρs (i + 1)), ct := StE (c.wS S') (Gs (i + 1)) (ρs (i + 1)), bk := tz E })
    (q : Sx c (Gs n) (ρs n) tz E) : Sx c G ρ (tSeq (tFor wi (gName j) ts) tz) E := by
  refine sx_forU (us := List.range n) (enc := fun (i : Nat) => D.int (lo + (i : Int))) Gs ρs hi (fun x hx => by simp at hx) h0 l0 (fun i u hu S' hS => ?_) (by rw [List.length_range]; exact q)
  obtain ⟨hl, e⟩ := List.getElem?_eq_some_iff.mp hu
  rw [List.getElem_range] at e
  subst e
  exact hs i (by simpa using hl) S' hS
theorem sx_while {ι : Type} (P : ι → Prop) (m : ι → Nat) (Gs : ι → Res) (ρs : ι → En) (b : ι → Bool) (x0 : ι) (p0 : P x0) (h0 : G = Gs x0) (l0 : Le (ρs x0) ρ) (ht : ∀ x, P x → EvT c (Gs x) (ρs x) t (b x))
    (hs : ∀ x, P x → b x = true → Sx c (Gs x) (ρs x) ts { E with nx := fun σ H => ∃ y, P y ∧ m y < m x ∧ StE c (Gs y) (ρs y) σ H, ct := fun σ H => ∃ y, P y ∧ m y < m x ∧ StE c (Gs y) (ρs y) σ H, bk := tz E })
    (q : ∀ x, P x → b x = false → Sx c (Gs x) (ρs x) tz E) : Sx c G ρ (tSeq (tWhile t ts) tz) E := fun F σ H A => by
  refine ⟨fun n σ H => ∃ x, P x ∧ m x = n ∧ StE c (Gs x) (ρs x) σ H, ⟨m x0, x0, p0, rfl, F, by rw [← h0]; exact A.le l0⟩, ?_⟩
  rintro n σ1 H1 ⟨x, px, rfl, F1, A1⟩
  refine ht x px F1 σ1 H1 A1 _ fun F2 H2 g2 => ?_
  cases hb : b x with
  | true =>
    refine ⟨_, fun σ' H' k => ?_, hs x px hb F2 σ1 H2 (A1.on g2)⟩
    obtain ⟨y, py, hm, k⟩ := k
    exact ⟨m y, hm, y, py, rfl, k⟩
  | false => exact q x px hb F2 σ1 H2 (A1.on g2)
theorem sx_endW {ι : Type} {P : ι → Prop} {m : ι → Nat} {x : ι} {Gs : ι → Res} {ρs : ι → En} (y : ι) (hn : E.nx = fun σ H => ∃ y, P y ∧ m y < m x ∧ StE c (Gs y) (ρs y) σ H) (py : P y) (hm : m y < m x) (e : G = Gs y) (l : Le (ρs y) ρ) : Sx c G ρ tNext E := fun F σ H A => by
  show E.nx σ H
  rw [hn]
  exact ⟨y, py, hm, F, by rw [← e]; exact A.le l⟩
end
end Dl

namespace Dl
open PySem PySem.Spec PyProof.Rows L2 Evl Xb
/-! ### what a def gives: data, a new object, an exception of the class at C -/
inductive Out where
  | ret (d : D) | new (d : D) | exc (C : Addr)
def Post (K : PySem.W.Frag) (F H : Hp) (o : Out) (Q : VK) (E : XK) : Prop := match o with
  | .ret d => ∀ v F' H', Go F H F' H' → Rp F' v d → Q v H'
  | .new d => ∀ p F' H', Go F H F' H' → H p = none → F' p = none → Ow K F' H' p d → Q (.ref p) H'
  | .exc C => ∀ F' H', Go F H F' H' → E (.ref C) none H'
abbrev Pre := List D → Res → Out → Prop
/-- a def that changes nothing that stands: by its arguments' data, the objects that it reads, and what it gives -/
def spD (K : PySem.W.Frag) (pre : Pre) : Sp := fun vs H Q E => ∃ F ds S o, Ex F H ∧ RpA F vs ds ∧ (∀ x ∈ S, Shl K F H (.ref x.1) x.2) ∧ pre ds S o ∧ Post K F H o Q E
def env0 (N : List Str) (ds : List D) : En := ds.map some ++ List.replicate (N.length - ds.length) none
theorem slots0 {F : Hp} {N : List Str} : ∀ {vs : List V} {ds : List D}, RpA F vs ds → ∀ n, Slots F (ds.map some ++ List.replicate n none) (vs.map some ++ List.replicate n none)
  | _, _, .nil, n => ⟨by simp, fun i d q => by
    simp only [List.map_nil, List.nil_append] at q
    rw [List.getElem?_replicate] at q
    split at q <;> cases q⟩
  | _, _, .cons (v := v) (d := d) (vs := vs) (ds := ds) h r, n => by
    obtain ⟨h1, h2⟩ := slots0 (N := N) r n
    refine ⟨by simpa using h1, fun i e q => ?_⟩
    cases i with
    | zero =>
      simp at q
      subst q
      exact ⟨v, by simp, h⟩
    | succ i => simpa using h2 i e (by simpa using q)
section
variable {P : Program} {w : World} {K : PySem.W.Frag} {mg : Str → Option Value} {base : Heap}
theorem enter {N : List Str} {vs : List V} {ds : List D} {F H : Hp} {S : Res} {t : TS} {E : Ends} (hF : Ex F H) (hv : RpA F vs ds) (hS : ∀ x ∈ S, Shl K F H (.ref x.1) x.2) (h : Sx ⟨K, H, F, S⟩ [] (env0 N ds) t E) : t E (L2.start N vs) H := by
  refine h F _ H ⟨Go.refl hF, ?_, hS, fun x hx => by simp at hx, by simp, fun x hx => by simp at hx⟩
  unfold env0 L2.start
  rw [hv.len]
  exact slots0 (N := N) hv _
/-- a def that lets nothing out -/
theorem fnOk {x qual : Str} {st : Stmt} {f : Addr} {fd : FuncData} {N ps : List Str} {k : Nat} {pre : Pre} (Fn : Fun K x qual st f fd) (S : FnScope N ps (defScope st)) (len : ∀ ds R o, pre ds R o → ds.length = ps.length)
    (body : ∀ ds R o, pre ds R o → ∀ (cdv : Value) (A : Around) (outer : List Env) (s : Shared) (H : Hp) (E : XK), Room k (A.deeper (envOfC qual (defScope st) s.heap.objs.size f cdv)) →
      ∃ t, PSs (cxOf CX0 P w K mg base N qual (defScope st) f cdv A outer s H E).nox (defBody st) t ∧ ∀ (F : Hp) (Q : VK), Post K F H o Q E → Sx ⟨K, H, F, R⟩ [] (env0 N ds) t { nx := fun _ H' => Q .non H', rt := Q }) :
    FnOk P w K mg base CX0 (k + 1) f fd ps (spD K pre) := by
  refine Fn.ok S (fun vs H Q E h => ?_) (fun cdv A outer s H vs Q E hr h => ?_)
  · obtain ⟨F, ds, R, o, hF, hv, hS, hp, post⟩ := h
    rw [hv.len]
    exact len ds R o hp
  · obtain ⟨F, ds, R, o, hF, hv, hS, hp, post⟩ := h
    obtain ⟨t, h1, h2⟩ := body ds R o hp cdv A outer s H E hr
    exact ⟨t, h1, enter hF hv hS (h2 F Q post)⟩
/-- a def that may raise -/
theorem fnOkX {x qual : Str} {st : Stmt} {f : Addr} {fd : FuncData} {N ps : List Str} {k : Nat} {pre : Pre} (Fn : Fun K x qual st f fd) (S : FnScope N ps (defScope st)) (len : ∀ ds R o, pre ds R o → ds.length = ps.length)
    (body : ∀ ds R o, pre ds R o → ∀ (cdv : Value) (A : Around) (outer : List Env) (s : Shared) (H : Hp) (E : XK), Room k (A.deeper (envOfC qual (defScope st) s.heap.objs.size f cdv)) →
      ∃ t, PSs (cxOf (L2.CX P w) P w K mg base N qual (defScope st) f cdv A outer s H E) (defBody st) t ∧ ∀ (F : Hp) (Q : VK), Post K F H o Q E → Sx ⟨K, H, F, R⟩ [] (env0 N ds) t { nx := fun _ H' => Q .non H', rt := Q }) :
    FnOk P w K mg base (L2.CX P w) (k + 1) f fd ps (spD K pre) := by
  refine Fn.okX S (fun vs H Q E h => ?_) (fun cdv A outer s H vs Q E hr h => ?_)
  · obtain ⟨F, ds, R, o, hF, hv, hS, hp, post⟩ := h
    rw [hv.len]
    exact len ds R o hp
  · obtain ⟨F, ds, R, o, hF, hv, hS, hp, post⟩ := h
    obtain ⟨t, h1, h2⟩ := body ds R o hp cdv A outer s H E hr
    exact ⟨t, h1, enter hF hv hS (h2 F Q post)⟩
end
/-! ### an argument that is read: all of it in F, or an object that stands -/
def Arg (d : D) (R : Res) (x : D) : Prop := (d = x ∧ R = []) ∨ ∃ a, d = .ref a ∧ R = [(a, x)]
theorem s_arg {c : Ct} {G : Res} {ρ : En} {te : TE} {d : D} {R : Res} {x : D} (h : EvP c G ρ te d) (l : Arg d R x) (hR : ∀ y ∈ R, y ∈ c.S) : EvS c G ρ te x := by
  rcases l with ⟨rfl, rfl⟩ | ⟨a, rfl, rfl⟩
  · exact h.toS
  · exact EvS.res h (.inl (hR _ List.mem_cons_self))
theorem i_arg {c : Ct} {G : Res} {ρ : En} {te : TE} {d : D} {R : Res} {ds : List D} (h : EvP c G ρ te d) (l : Arg d R (.lst ds)) (hR : ∀ y ∈ R, y ∈ c.S) : EvI c G ρ (iList c.K te) ds [] := by
  rcases l with ⟨rfl, rfl⟩ | ⟨a, rfl, rfl⟩
  · exact i_list h
  · exact i_listS h (hR _ List.mem_cons_self)
/-- what may be handed in as x -/
def May (c : Ct) (G : Res) (d x : D) (R : Res) : Prop := Arg d R x ∧ ∀ y ∈ R, y ∈ c.S ∨ y ∈ G
theorem May.self {c : Ct} {G : Res} {x : D} : May c G x x [] := ⟨.inl ⟨rfl, rfl⟩, fun y hy => nomatch hy⟩
theorem May.res {c : Ct} {G : Res} {a : Addr} {x : D} (m : (a, x) ∈ c.S ∨ (a, x) ∈ G) : May c G (.ref a) x [(a, x)] := ⟨.inr ⟨a, rfl, rfl⟩, fun y hy => by rcases List.mem_singleton.mp hy with rfl; exact m⟩
/-! ### calls of such defs -/
/-- te raises the class at C, with the wish E -/
def EvR (c : Ct) (G : Res) (ρ : En) (te : TE) (C : Addr) (E : L2.St → XK) : Prop := ∀ F σ H, At c G ρ F σ H → (∀ F' H', Go F H F' H' → E σ (.ref C) none H') → ∀ Q : VK, te σ H Q
section
variable {c : Ct} {G : Res} {ρ : En} {ta tb te : TE} {tr : TA} {d e : D} {ds : List D} {pre : Pre} {R : Res} {E : XK} {Ew : L2.St → XK} {C : Addr} {m : Str}
theorem c_out {F H : Hp} {σ : L2.St} {vs : List V} {o : Out} {Q : VK} {E : XK} (A : At c G ρ F σ H) (h : RpA F vs ds) (hR : ∀ x ∈ R, x ∈ c.S ∨ x ∈ G) (hp : pre ds R o) (post : Post c.K F H o Q E) : spD c.K pre vs H Q E :=
  ⟨F, ds, R, o, A.ex, h, fun x hx => A.read (hR x hx), hp, post⟩
theorem p_call (h : EvA c G ρ tr ds) (hR : ∀ x ∈ R, x ∈ c.S ∨ x ∈ G) (hp : pre ds R (.ret d)) : EvP c G ρ (tCall (spD c.K pre) [] E tr) d := fun F σ H A Q q => h F σ H A _ fun vs F1 H1 g1 r1 => by
  show spD c.K pre (vs ++ []) H1 Q E
  rw [List.append_nil]
  exact c_out (A.on g1) r1 hR hp fun v F' H' g r => q v F' H' (g1.trans g) r
theorem n_call (h : EvA c G ρ tr ds) (hR : ∀ x ∈ R, x ∈ c.S ∨ x ∈ G) (hp : pre ds R (.new d)) (hs : ∀ ns, d ≠ .scr ns) : EvN c G ρ (tCall (spD c.K pre) [] E tr) d := fun F σ H A Q q => h F σ H A _ fun vs F1 H1 g1 r1 => by
  show spD c.K pre (vs ++ []) H1 Q E
  rw [List.append_nil]
  exact c_out (A.on g1) r1 hR hp fun p F' H' g hp' hf ho => q p F' H' (g1.trans g) (fresh_back g1.h hp') hf ho hs
theorem r_call (h : EvA c G ρ tr ds) (hR : ∀ x ∈ R, x ∈ c.S ∨ x ∈ G) (hp : pre ds R (.exc C)) : EvR c G ρ (tCall (spD c.K pre) [] E tr) C (fun _ => E) := fun F σ H A hE Q => h F σ H A _ fun vs F1 H1 g1 r1 => by
  show spD c.K pre (vs ++ []) H1 Q E
  rw [List.append_nil]
  exact c_out (A.on g1) r1 hR hp fun F' H' g => hE F' H' (g1.trans g)
/-- the same in a try's body -/
theorem p_callS (h : EvA c G ρ tr ds) (hR : ∀ x ∈ R, x ∈ c.S ∨ x ∈ G) (hp : pre ds R (.ret d)) : EvP c G ρ (tCallS (spD c.K pre) Ew tr) d := fun F σ H A Q q => h F σ H A _ fun vs F1 H1 g1 r1 =>
  c_out (A.on g1) r1 hR hp fun v F' H' g r => q v F' H' (g1.trans g) r
theorem n_callS (h : EvA c G ρ tr ds) (hR : ∀ x ∈ R, x ∈ c.S ∨ x ∈ G) (hp : pre ds R (.new d)) (hs : ∀ ns, d ≠ .scr ns) : EvN c G ρ (tCallS (spD c.K pre) Ew tr) d := fun F σ H A Q q => h F σ H A _ fun vs F1 H1 g1 r1 =>
  c_out (A.on g1) r1 hR hp fun p F' H' g hp' hf ho => q p F' H' (g1.trans g) (fresh_back g1.h hp') hf ho hs
theorem r_callS (h : EvA c G ρ tr ds) (hR : ∀ x ∈ R, x ∈ c.S ∨ x ∈ G) (hp : pre ds R (.exc C)) : EvR c G ρ (tCallS (spD c.K pre) Ew tr) C Ew := fun F σ H A hE Q => h F σ H A _ fun vs F1 H1 g1 r1 =>
  c_out (A.on g1) r1 hR hp fun F' H' g => hE F' H' (g1.trans g)
end
/-! ### built-ins -/
section
variable {c : Ct} {G : Res} {ρ : En} {ta tb te : TE} {tl th : TO} {tr : TA} {d e : D} {ds es : List D}
theorem o_some {i : Int} (h : EvP c G ρ te (.int i)) : EvO c G ρ (tPart te) (some i) := fun F σ H A Q q => h F σ H A _ fun v F1 H1 g1 r1 => by
  cases r1
  exact ⟨i, rfl, q F1 H1 g1⟩
/-- len -/
abbrev rLenQ (K : PySem.W.Frag) : List V → Hp → VK → Prop := fun xs H Q => ∃ p ys, xs = [.ref p] ∧ (SqL K H p ys ∨ SqT K H p ys) ∧ Q (.int ys.length) H
abbrev rListQ (K : PySem.W.Frag) : List V → Hp → VK → Prop := fun xs H Q => ∃ p ys, xs = [.ref p] ∧ (SqL K H p ys ∨ SqT K H p ys) ∧ ∀ l, H l = none → Q (.ref l) (upd H l (.lst ys))
abbrev rJoinQ (K : PySem.W.Frag) : V → List V → Hp → VK → Prop := fun x xs H Q => ∃ a p, ∃ ys : List Str, x = .str a ∧ xs = [.ref p] ∧ (SqL K H p (ys.map V.str) ∨ SqT K H p (ys.map V.str)) ∧ (ys.map (·.length)).sum + ys.length * a.length ≤ 16777216 ∧ Q (.str (Txt.join a ys)) H
theorem p_lenL (h : EvS c G ρ ta (.lst ds)) : EvP c G ρ (tCB (fun xs H Q => ∃ p ys, xs = [.ref p] ∧ (SqL c.K H p ys ∨ SqT c.K H p ys) ∧ Q (.int ys.length) H) (tCons ta tNil)) (.int (ds.length : Int)) := fun F σ H A Q q => h F σ H A _ fun v F1 H1 g1 r1 => by
  obtain ⟨a, vs, rfl, h1, h2⟩ := r1.lst g1.s
  refine ⟨a, vs, rfl, .inl (sq_of h1), ?_⟩
  rw [h2.len]
  exact q _ F1 H1 g1 (.int _)
theorem p_lenScr {ns : List Int} (h : EvS c G ρ ta (.scr ns)) : EvP c G ρ (tCB (fun xs H Q => ∃ p ys, xs = [.ref p] ∧ (SqL c.K H p ys ∨ SqT c.K H p ys) ∧ Q (.int ys.length) H) (tCons ta tNil)) (.int (ns.length : Int)) := fun F σ H A Q q => h F σ H A _ fun v F1 H1 g1 r1 => by
  obtain ⟨a, rfl, h1⟩ := r1.scr
  refine ⟨a, _, rfl, .inl h1, ?_⟩
  rw [List.length_map]
  exact q _ F1 H1 g1 (.int _)
theorem p_lenT (h : EvP c G ρ ta (.tup ds)) : EvP c G ρ (tCB (fun xs H Q => ∃ p ys, xs = [.ref p] ∧ (SqL c.K H p ys ∨ SqT c.K H p ys) ∧ Q (.int ys.length) H) (tCons ta tNil)) (.int (ds.length : Int)) := fun F σ H A Q q => h F σ H A _ fun v F1 H1 g1 r1 => by
  cases r1 with
  | tup h1 h2 =>
    refine ⟨_, _, rfl, .inr (st_of (g1.s _ _ h1)), ?_⟩
    rw [h2.len]
    exact q _ F1 H1 g1 (.int _)
theorem p_lenS {s : Str} (h : EvP c G ρ ta (.str s)) (hz : s.length ≤ 100000) : EvP c G ρ (tCB (fun xs H Q => ∃ z, xs = [.str z] ∧ z.length ≤ sizeLine ∧ Q (.int z.length) H) (tCons ta tNil)) (.int (s.length : Int)) := fun F σ H A Q q => h F σ H A _ fun v F1 H1 g1 r1 => by
  cases r1
  exact ⟨s, rfl, sz_of hz, q _ F1 H1 g1 (.int _)⟩
theorem p_abs {i : Int} (h : EvP c G ρ ta (.int i)) : EvP c G ρ (tCB (fun xs H Q => ∃ i, xs = [.int i] ∧ Q (.int (if i < 0 then -i else i)) H) (tCons ta tNil)) (.int (if i < 0 then -i else i)) := fun F σ H A Q q => h F σ H A _ fun v F1 H1 g1 r1 => by
  cases r1
  exact ⟨i, rfl, q _ F1 H1 g1 (.int _)⟩
theorem p_max2 {i j : Int} (h : EvP c G ρ ta (.int i)) (h2 : EvP c G ρ tb (.int j)) : EvP c G ρ (tCB (fun xs H Q => ∃ i j, xs = [.int i, .int j] ∧ Q (.int (if j > i then j else i)) H) (tCons ta (tCons tb tNil))) (.int (if j > i then j else i)) := fun F σ H A Q q => h F σ H A _ fun v F1 H1 g1 r1 => h2 F1 σ H1 (A.on g1) _ fun w F2 H2 g2 r2 => by
  cases r1; cases r2
  exact ⟨i, j, rfl, q _ F2 H2 (g1.trans g2) (.int _)⟩
theorem p_min2 {i j : Int} (h : EvP c G ρ ta (.int i)) (h2 : EvP c G ρ tb (.int j)) : EvP c G ρ (tCB (fun xs H Q => ∃ i j, xs = [.int i, .int j] ∧ Q (.int (if j < i then j else i)) H) (tCons ta (tCons tb tNil))) (.int (if j < i then j else i)) := fun F σ H A Q q => h F σ H A _ fun v F1 H1 g1 r1 => h2 F1 σ H1 (A.on g1) _ fun w F2 H2 g2 r2 => by
  cases r1; cases r2
  exact ⟨i, j, rfl, q _ F2 H2 (g1.trans g2) (.int _)⟩
theorem p_sum {ns : List Int} (h : EvS c G ρ ta (.lst (ns.map D.int))) : EvP c G ρ (tCB (rSum c.K) (tCons ta tNil)) (.int ns.sum) := fun F σ H A Q q => h F σ H A _ fun v F1 H1 g1 r1 => by
  obtain ⟨a, vs, rfl, h1, h2⟩ := r1.lst g1.s
  rw [h2.ints] at h1
  exact ⟨a, ns, rfl, sq_of h1, q _ F1 H1 g1 (.int _)⟩
theorem p_min {ns : List Int} {m : Int} (h : EvS c G ρ ta (.lst (ns.map D.int))) (hm : m ∈ ns) (hl : ∀ y ∈ ns, m ≤ y) : EvP c G ρ (tCB (rMin c.K) (tCons ta tNil)) (.int m) := fun F σ H A Q q => h F σ H A _ fun v F1 H1 g1 r1 => by
  obtain ⟨a, vs, rfl, h1, h2⟩ := r1.lst g1.s
  rw [h2.ints] at h1
  refine ⟨a, ns, rfl, sq_of h1, List.length_pos_of_mem hm, fun k hk hk2 => ?_⟩
  have e : k = m := Int.le_antisymm (hk2 m hm) (hl k hk)
  subst e
  exact q _ F1 H1 g1 (.int _)
theorem p_max {ns : List Int} {m : Int} (h : EvS c G ρ ta (.lst (ns.map D.int))) (hm : m ∈ ns) (hl : ∀ y ∈ ns, y ≤ m) : EvP c G ρ (tCB (rMax c.K) (tCons ta tNil)) (.int m) := fun F σ H A Q q => h F σ H A _ fun v F1 H1 g1 r1 => by
  obtain ⟨a, vs, rfl, h1, h2⟩ := r1.lst g1.s
  rw [h2.ints] at h1
  refine ⟨a, ns, rfl, sq_of h1, List.length_pos_of_mem hm, fun k hk hk2 => ?_⟩
  have e : k = m := Int.le_antisymm (hl k hk) (hk2 m hm)
  subst e
  exact q _ F1 H1 g1 (.int _)
theorem p_all {bs : List Bool} (h : EvS c G ρ ta (.lst (bs.map D.bl))) : EvP c G ρ (tCB (rAll c.K) (tCons ta tNil)) (.bl (bs.all id)) := fun F σ H A Q q => h F σ H A _ fun v F1 H1 g1 r1 => by
  obtain ⟨a, vs, rfl, h1, h2⟩ := r1.lst g1.s
  rw [h2.bls] at h1
  exact ⟨a, bs, rfl, sq_of h1, q _ F1 H1 g1 (.bl _)⟩
/-- the same of a comprehension's list -/
theorem map_int {α : Type} (us : List α) (g : α → Int) : (us.map fun u => D.int (g u)) = (us.map g).map D.int := by rw [List.map_map]; rfl
theorem p_sumF {α : Type} {us : List α} {g : α → Int} (h : EvS c G ρ ta (.lst (us.map fun u => D.int (g u)))) : EvP c G ρ (tCB (rSum c.K) (tCons ta tNil)) (.int (us.map g).sum) := p_sum (by rw [map_int] at h; exact h)
theorem p_minF {α : Type} {us : List α} {g : α → Int} {m : Int} (h : EvS c G ρ ta (.lst (us.map fun u => D.int (g u)))) (hm : m ∈ us.map g) (hl : ∀ y ∈ us.map g, m ≤ y) : EvP c G ρ (tCB (rMin c.K) (tCons ta tNil)) (.int m) := p_min (by rw [map_int] at h; exact h) hm hl
theorem p_maxF {α : Type} {us : List α} {g : α → Int} {m : Int} (h : EvS c G ρ ta (.lst (us.map fun u => D.int (g u)))) (hm : m ∈ us.map g) (hl : ∀ y ∈ us.map g, y ≤ m) : EvP c G ρ (tCB (rMax c.K) (tCons ta tNil)) (.int m) := p_max (by rw [map_int] at h; exact h) hm hl
theorem p_allF {α : Type} {us : List α} {g : α → Bool} (h : EvS c G ρ ta (.lst (us.map fun u => D.bl (g u)))) : EvP c G ρ (tCB (rAll c.K) (tCons ta tNil)) (.bl ((us.map g).all id)) := p_all (by
  have e : (us.map fun u => D.bl (g u)) = (us.map g).map D.bl := by rw [List.map_map]; rfl
  rw [e] at h; exact h)
theorem n_list (h : EvS c G ρ ta (.lst ds)) : EvN c G ρ (tCB (fun xs H Q => ∃ p ys, xs = [.ref p] ∧ (SqL c.K H p ys ∨ SqT c.K H p ys) ∧ ∀ l, H l = none → Q (.ref l) (upd H l (.lst ys))) (tCons ta tNil)) (.lst ds) := fun F σ H A Q q => h F σ H A _ fun v F1 H1 g1 r1 => by
  obtain ⟨a, vs, rfl, h1, h2⟩ := r1.lst g1.s
  exact ⟨a, vs, rfl, .inl (sq_of h1), fun p hp => q p F1 _ (g1.trans (Go.newH g1.s hp)) (fresh_back g1.h hp) (fresh_back g1.s hp) ⟨vs, upd_same, h2⟩ fun _ e => nomatch e⟩
theorem n_cat (h : EvS c G ρ ta (.lst ds)) (h2 : EvS c G ρ tb (.lst es)) (hz : ds.length + es.length ≤ 100000) : EvN c G ρ (tOp rCat ta tb) (.lst (ds ++ es)) := fun F σ H A Q q => h F σ H A _ fun v F1 H1 g1 r1 => h2 F1 σ H1 (A.on g1) _ fun w F2 H2 g2 r2 => by
  obtain ⟨a, vs, rfl, k1, k2⟩ := r1.lst g1.s
  obtain ⟨b, ws, rfl, l1, l2⟩ := r2.lst g2.s
  have g := g1.trans g2
  refine ⟨a, b, vs, ws, rfl, rfl, g2.h _ _ k1, l1, sz_of (by rw [k2.len, l2.len]; exact hz), fun p hp => ?_⟩
  exact q p F2 _ (g.trans (Go.newH g.s hp)) (fresh_back g.h hp) (fresh_back g.s hp) ⟨_, upd_same, (k2.mono g2.f).app l2⟩ fun _ e => nomatch e
def cutD (xs : List D) (lo hi : Option Int) : List D := (xs.drop (HT.sIx xs.length 0 lo)).take (HT.sIx xs.length xs.length hi - HT.sIx xs.length 0 lo)
theorem rp_cut {F : Hp} {vs : List V} (r : RpA F vs ds) (lo hi : Option Int) : RpA F (cutV vs lo hi) (cutD ds lo hi) := by
  unfold cutV cutD
  rw [r.len]
  exact (r.drop _).take _
theorem n_slL {lo hi : Option Int} (h : EvS c G ρ te (.lst ds)) (h1 : EvO c G ρ tl lo) (h2 : EvO c G ρ th hi) : EvN c G ρ (tSl (rSlL c.K) te tl th) (.lst (cutD ds lo hi)) := fun F σ H A Q q => h F σ H A _ fun v F1 H1 g1 r1 => h1 F1 σ H1 (A.on g1) _ fun F2 H2 g2 => h2 F2 σ H2 ((A.on g1).on g2) _ fun F3 H3 g3 => by
  obtain ⟨a, vs, rfl, k1, k2⟩ := r1.lst g1.s
  have g := (g1.trans g2).trans g3
  exact ⟨a, vs, rfl, sq_of (g3.h _ _ (g2.h _ _ k1)), fun p hp => q p F3 _ (g.trans (Go.newH g.s hp)) (fresh_back g.h hp) (fresh_back g.s hp) ⟨_, upd_same, rp_cut ((k2.mono g2.f).mono g3.f) lo hi⟩ fun _ e => nomatch e⟩
theorem p_slT {lo hi : Option Int} (h : EvP c G ρ te (.tup ds)) (h1 : EvO c G ρ tl lo) (h2 : EvO c G ρ th hi) (hw : ¬ (HT.sIx ds.length 0 lo = 0 ∧ HT.sIx ds.length ds.length hi = ds.length)) : EvP c G ρ (tSl (rSlT c.K) te tl th) (.tup (cutD ds lo hi)) := fun F σ H A Q q => h F σ H A _ fun v F1 H1 g1 r1 => h1 F1 σ H1 (A.on g1) _ fun F2 H2 g2 => h2 F2 σ H2 ((A.on g1).on g2) _ fun F3 H3 g3 => by
  cases r1 with
  | @tup a vs _ k1 k2 =>
    have g := (g1.trans g2).trans g3
    refine ⟨a, vs, rfl, st_of (g3.h _ _ (g2.h _ _ (g1.s _ _ k1))), by rw [k2.len]; exact hw, fun p hp => ?_⟩
    exact q _ _ _ (g.trans (Go.newF g.s hp)) (.tup upd_same ((rp_cut ((k2.mono g2.f).mono g3.f) lo hi).mono (Ex.new (fresh_back g.s hp))))
theorem p_slS {s : Str} {lo hi : Option Int} (h : EvP c G ρ te (.str s)) (h1 : EvO c G ρ tl lo) (h2 : EvO c G ρ th hi) (hz : s.length ≤ 100000) : EvP c G ρ (tSl rSlS te tl th) (.str (cutS s lo hi)) := fun F σ H A Q q => h F σ H A _ fun v F1 H1 g1 r1 => h1 F1 σ H1 (A.on g1) _ fun F2 H2 g2 => h2 F2 σ H2 ((A.on g1).on g2) _ fun F3 H3 g3 => by
  cases r1
  exact ⟨s, rfl, sz_of hz, q _ F3 H3 ((g1.trans g2).trans g3) (.str _)⟩
/-- isinstance of a built-in class -/
def D.tyN : D → String
  | .non => "NoneType"
  | .bl _ => "bool"
  | .int _ => "int"
  | .str _ => "str"
  | .lst _ => "list"
  | .tup _ => "tuple"
  | .dK _ _ => "dict"
  | .dT _ _ => "dict"
  | _ => "?"
theorem tyX_of {K : PySem.W.Frag} {F H : Hp} {v : V} (ex : Ex F H) (r : Shl K F H v d) (hd : d.tyN ≠ "?" ∧ d.tyN ≠ "dict") : TyX K H v (.type d.tyN) := by
  cases d with
  | non =>
    rcases r with r | ⟨a, _, k⟩
    · cases r; exact .base .non
    · exact k.elim
  | bl b =>
    rcases r with r | ⟨a, _, k⟩
    · cases r; exact .base (.bl _)
    · exact k.elim
  | int b =>
    rcases r with r | ⟨a, _, k⟩
    · cases r; exact .base (.int _)
    · exact k.elim
  | str b =>
    rcases r with r | ⟨a, _, k⟩
    · cases r; exact .base (.str _)
    · exact k.elim
  | lst ds =>
    obtain ⟨a, vs, rfl, h1, h2⟩ := r.lst ex
    exact .base (.lst h1)
  | tup ds =>
    obtain ⟨a, vs, rfl, h1, h2⟩ := r.tup
    exact .base (.tup (ex _ _ h1))
  | dK ks ds => exact absurd rfl hd.2
  | dT ks ds => exact absurd rfl hd.2
  | ty n => exact absurd rfl hd.1
  | ref a => exact absurd rfl hd.1
  | ins C ks ds => exact absurd rfl hd.1
  | scr ns => exact absurd rfl hd.1
theorem kit_NoneType_bool : kitB "NoneType" "bool" = some false := by decide +kernel
theorem kit_NoneType_int : kitB "NoneType" "int" = some false := by decide +kernel
theorem kit_NoneType_str : kitB "NoneType" "str" = some false := by decide +kernel
theorem kit_NoneType_list : kitB "NoneType" "list" = some false := by decide +kernel
theorem kit_NoneType_tuple : kitB "NoneType" "tuple" = some false := by decide +kernel
theorem kit_bool_bool : kitB "bool" "bool" = some true := by decide +kernel
theorem kit_bool_int : kitB "bool" "int" = some true := by decide +kernel
theorem kit_bool_str : kitB "bool" "str" = some false := by decide +kernel
theorem kit_bool_list : kitB "bool" "list" = some false := by decide +kernel
theorem kit_bool_tuple : kitB "bool" "tuple" = some false := by decide +kernel
theorem kit_int_bool : kitB "int" "bool" = some false := by decide +kernel
theorem kit_int_int : kitB "int" "int" = some true := by decide +kernel
theorem kit_int_str : kitB "int" "str" = some false := by decide +kernel
theorem kit_int_list : kitB "int" "list" = some false := by decide +kernel
theorem kit_int_tuple : kitB "int" "tuple" = some false := by decide +kernel
theorem kit_str_bool : kitB "str" "bool" = some false := by decide +kernel
theorem kit_str_int : kitB "str" "int" = some false := by decide +kernel
theorem kit_str_str : kitB "str" "str" = some true := by decide +kernel
theorem kit_str_list : kitB "str" "list" = some false := by decide +kernel
theorem kit_str_tuple : kitB "str" "tuple" = some false := by decide +kernel
theorem kit_list_bool : kitB "list" "bool" = some false := by decide +kernel
theorem kit_list_int : kitB "list" "int" = some false := by decide +kernel
theorem kit_list_str : kitB "list" "str" = some false := by decide +kernel
theorem kit_list_list : kitB "list" "list" = some true := by decide +kernel
theorem kit_list_tuple : kitB "list" "tuple" = some false := by decide +kernel
theorem kit_tuple_bool : kitB "tuple" "bool" = some false := by decide +kernel
theorem kit_tuple_int : kitB "tuple" "int" = some false := by decide +kernel
theorem kit_tuple_str : kitB "tuple" "str" = some false := by decide +kernel
theorem kit_tuple_list : kitB "tuple" "list" = some false := by decide +kernel
theorem kit_tuple_tuple : kitB "tuple" "tuple" = some true := by decide +kernel
theorem p_isi {n t : String} {b : Bool} (h : EvS c G ρ ta d) (hc : EvP c G ρ tb (.ty n)) (ht : d.tyN = t) (hd : t ≠ "?" ∧ t ≠ "dict") (hk : kitB t n = some b) : EvP c G ρ (tCB (rIsi c.K) (tCons ta (tCons tb tNil))) (.bl b) := fun F σ H A Q q => h F σ H A _ fun v F1 H1 g1 r1 => hc F1 σ H1 (A.on g1) _ fun w F2 H2 g2 r2 => by
  cases r2
  subst ht
  have r' : Shl c.K F2 H2 v d := by
    rcases r1 with k | ⟨a, e, k⟩
    · exact .inl (k.mono g2.f)
    · exact .inr ⟨a, e, k.mono g2.f g2.h⟩
  exact ⟨v, .ty n, _, _, b, rfl, .ty n, tyX_of g2.s r' hd, kit_ty hk, q _ F2 H2 (g1.trans g2) (.bl _)⟩
/-- a method of a text -/
theorem p_m1 {r : V → List V → Hp → VK → Prop} {s : Str} {x z : D} (h : EvP c G ρ ta (.str s)) (hx : EvP c G ρ tb x) (hr : ∀ F H v, Ex F H → Rp F v x → ∀ Q : VK, (∀ u F' H', Go F H F' H' → Rp F' u z → Q u H') → r (.str s) [v] H Q) : EvP c G ρ (tM1 r ta tb) z := fun F σ H A Q q => h F σ H A _ fun v F1 H1 g1 r1 => by
  cases r1
  exact ⟨⟨s, rfl⟩, hx F1 σ H1 (A.on g1) _ fun w F2 H2 g2 r2 => hr F2 H2 w g2.s r2 Q fun u F' H' g k => q u F' H' ((g1.trans g2).trans g) k⟩
theorem p_count {s x : Str} (h : EvP c G ρ ta (.str s)) (hx : EvP c G ρ tb (.str x)) : EvP c G ρ (tM1 (fun x xs H Q => ∃ a b, x = .str a ∧ xs = [.str b] ∧ Q (.int (Txt.count a b)) H) ta tb) (.int (Txt.count s x)) :=
  p_m1 h hx fun F H v e r Q q => by cases r; exact ⟨s, x, rfl, rfl, q _ F H (Go.refl e) (.int _)⟩
theorem p_find {s x : Str} (h : EvP c G ρ ta (.str s)) (hx : EvP c G ρ tb (.str x)) : EvP c G ρ (tM1 (fun x xs H Q => ∃ a b, x = .str a ∧ xs = [.str b] ∧ Q (.int (Txt.find a b)) H) ta tb) (.int (Txt.find s x)) :=
  p_m1 h hx fun F H v e r Q q => by cases r; exact ⟨s, x, rfl, rfl, q _ F H (Go.refl e) (.int _)⟩
theorem p_join {s : Str} {ys : List Str} (h : EvP c G ρ ta (.str s)) (hx : EvS c G ρ tb (.lst (ys.map D.str))) (hz : (ys.map (·.length)).sum + ys.length * s.length ≤ 100000) :
    EvP c G ρ (tM1 (fun x xs H Q => ∃ a p, ∃ ys : List Str, x = .str a ∧ xs = [.ref p] ∧ (SqL c.K H p (ys.map V.str) ∨ SqT c.K H p (ys.map V.str)) ∧ (ys.map (·.length)).sum + ys.length * a.length ≤ 16777216 ∧ Q (.str (Txt.join a ys)) H) ta tb) (.str (Txt.join s ys)) := fun F σ H A Q q => h F σ H A _ fun v F1 H1 g1 r1 => by
  cases r1
  refine ⟨⟨s, rfl⟩, hx F1 σ H1 (A.on g1) _ fun w F2 H2 g2 r2 => ?_⟩
  obtain ⟨a, vs, rfl, h1, h2⟩ := r2.lst g2.s
  rw [h2.strs] at h1
  exact ⟨s, a, ys, rfl, rfl, .inl (sq_of h1), Nat.le_trans hz (by decide), q _ F2 H2 (g1.trans g2) (.str _)⟩
theorem p_joinF {α : Type} {us : List α} {g : α → Str} {s : Str} (h : EvP c G ρ ta (.str s)) (hx : EvS c G ρ tb (.lst (us.map fun u => D.str (g u)))) (hz : ((us.map g).map (·.length)).sum + (us.map g).length * s.length ≤ 100000) :
    EvP c G ρ (tM1 (fun x xs H Q => ∃ a p, ∃ ys : List Str, x = .str a ∧ xs = [.ref p] ∧ (SqL c.K H p (ys.map V.str) ∨ SqT c.K H p (ys.map V.str)) ∧ (ys.map (·.length)).sum + ys.length * a.length ≤ 16777216 ∧ Q (.str (Txt.join a ys)) H) ta tb) (.str (Txt.join s (us.map g))) := p_join h (by
  have e : (us.map fun u => D.str (g u)) = (us.map g).map D.str := by rw [List.map_map]; rfl
  rw [e] at hx; exact hx) hz
/-! the order of tuples of ints -/
theorem p_ltT {ns ms : List Int} (h : EvP c G ρ ta (.tup (ns.map D.int))) (h2 : EvP c G ρ tb (.tup (ms.map D.int))) : EvP c G ρ (tOp (rLtT c.K) ta tb) (.bl (HT.lexLt ns ms)) := fun F σ H A Q q => h F σ H A _ fun v F1 H1 g1 r1 => h2 F1 σ H1 (A.on g1) _ fun w F2 H2 g2 r2 => by
  cases r1 with
  | @tup a vs _ k1 k2 =>
    cases r2 with
    | @tup b ws _ l1 l2 =>
      rw [k2.ints] at k1
      rw [l2.ints] at l1
      exact ⟨a, b, ns, ms, rfl, rfl, st_of (g2.h _ _ (g1.s _ _ k1)), st_of (g2.s _ _ l1), q _ F2 H2 (g1.trans g2) (.bl _)⟩
/-! x in a list or tuple of flat things -/
def D.fl : D → Bool
  | .non => true
  | .bl _ => true
  | .int _ => true
  | .str _ => true
  | _ => false
def D.v : D → V
  | .non => .non
  | .bl b => .bl b
  | .int i => .int i
  | .str s => .str s
  | _ => .non
theorem rp_fl {F : Hp} {v : V} (r : Rp F v d) (h : d.fl = true) : v = d.v ∧ flatV v = true := by cases r <;> first | exact ⟨rfl, rfl⟩ | cases h
theorem rpA_fl {F : Hp} : ∀ {vs : List V} {ds : List D}, RpA F vs ds → ds.all D.fl = true → vs = ds.map D.v ∧ vs.all flatV = true
  | _, _, .nil, _ => ⟨rfl, rfl⟩
  | _, _, .cons h r, k => by
    rw [List.all_cons, Bool.and_eq_true] at k
    obtain ⟨h1, h2⟩ := rp_fl h k.1
    obtain ⟨h3, h4⟩ := rpA_fl r k.2
    refine ⟨by rw [List.map_cons, ← h1, ← h3], by rw [List.all_cons, h2, h4]; rfl⟩
theorem p_inL {neg : Bool} (h : EvP c G ρ ta d) (h2 : EvS c G ρ tb (.lst ds)) (hd : d.fl = true) (hs : ds.all D.fl = true) : EvP c G ρ (tOp (rIn c.K neg) ta tb) (.bl (if neg then !inV d.v (ds.map D.v) else inV d.v (ds.map D.v))) := fun F σ H A Q q => h F σ H A _ fun v F1 H1 g1 r1 => h2 F1 σ H1 (A.on g1) _ fun w F2 H2 g2 r2 => by
  obtain ⟨a, vs, rfl, k1, k2⟩ := r2.lst g2.s
  obtain ⟨e1, e2⟩ := rp_fl r1 hd
  obtain ⟨e3, e4⟩ := rpA_fl k2 hs
  refine ⟨a, vs, rfl, .inl (sq_of k1), e2, e4, ?_⟩
  rw [e1, e3]
  exact q _ F2 H2 (g1.trans g2) (.bl _)
theorem p_inT {neg : Bool} (h : EvP c G ρ ta d) (h2 : EvP c G ρ tb (.tup ds)) (hd : d.fl = true) (hs : ds.all D.fl = true) : EvP c G ρ (tOp (rIn c.K neg) ta tb) (.bl (if neg then !inV d.v (ds.map D.v) else inV d.v (ds.map D.v))) := fun F σ H A Q q => h F σ H A _ fun v F1 H1 g1 r1 => h2 F1 σ H1 (A.on g1) _ fun w F2 H2 g2 r2 => by
  cases r2 with
  | @tup a vs _ k1 k2 =>
    obtain ⟨e1, e2⟩ := rp_fl r1 hd
    obtain ⟨e3, e4⟩ := rpA_fl k2 hs
    refine ⟨a, vs, rfl, .inr (st_of (g2.s _ _ k1)), e2, e4, ?_⟩
    rw [e1, e3]
    exact q _ F2 H2 (g1.trans g2) (.bl _)
theorem at_0 {a : D} {l : List D} : atI (a :: l) 0 = some a := by
  unfold atI ixN
  rw [if_pos (by decide), if_pos (by simp only [List.length_cons]; omega)]
  rfl
theorem at_1 {a b : D} {l : List D} : atI (a :: b :: l) 1 = some b := by
  unfold atI ixN
  rw [if_pos (by decide), if_pos (by simp only [List.length_cons]; omega)]
  rfl
theorem at_2 {a b x : D} {l : List D} : atI (a :: b :: x :: l) 2 = some x := by
  unfold atI ixN
  rw [if_pos (by decide), if_pos (by simp only [List.length_cons]; omega)]
  rfl
theorem at_3 {a b x y : D} {l : List D} : atI (a :: b :: x :: y :: l) 3 = some y := by
  unfold atI ixN
  rw [if_pos (by decide), if_pos (by simp only [List.length_cons]; omega)]
  rfl
theorem at_m {α : Type} {f : α → D} {xs : List α} {i : Int} {y : α} (h0 : 0 ≤ i) (h : xs[i.toNat]? = some y) : atI (xs.map f) i = some (f y) := by
  have hl := (List.getElem?_eq_some_iff.mp h).1
  unfold atI ixN
  rw [if_pos h0, List.length_map, if_pos (by omega)]
  show (xs.map f)[i.toNat]? = _
  rw [List.getElem?_map, h]
  rfl
theorem at_n {α : Type} {xs : List α} {i : Int} {y : α} (h0 : 0 ≤ i) (h : xs[i.toNat]? = some y) : atI xs i = some y := by
  have hl := (List.getElem?_eq_some_iff.mp h).1
  unfold atI ixN
  rw [if_pos h0, if_pos (by omega)]
  exact h
/-! ### equal data -/
mutual
def D.py : D → PyData
  | .bl b => .bool b
  | .int i => .int i
  | .str s => .str s
  | .lst ds => .list (D.pyA ds)
  | .tup ds => .tuple (D.pyA ds)
  | _ => .none
def D.pyA : List D → List PyData
  | [] => []
  | d :: ds => D.py d :: D.pyA ds
end
/-- plain data, of a depth of n at most -/
def Pl : Nat → D → Prop
  | _, .non => True
  | _, .bl _ => True
  | _, .int _ => True
  | _, .str s => PyData.strOk s = true
  | n + 1, .lst ds => ∀ d ∈ ds, Pl n d
  | n + 1, .tup ds => ∀ d ∈ ds, Pl n d
  | _, _ => False
theorem pl_dp {K : PySem.W.Frag} {F H : Hp} (ex : Ex F H) : ∀ (n : Nat) {v : V} {d : D}, Pl n d → Rp F v d → Dp K H v d.py
  | _, _, .non, _, r => by cases r; exact .non
  | _, _, .bl b, _, r => by cases r; exact .bl _
  | _, _, .int b, _, r => by cases r; exact .int _
  | _, _, .str b, _, r => by cases r; exact .str _
  | n + 1, _, .lst ds, h, r => by
    have key : ∀ (ds : List D) (vs : List V), RpA F vs ds → (∀ d ∈ ds, Pl n d) → DpAll K H vs (D.pyA ds) := by
      intro ds
      induction ds with
      | nil => intro vs r _; cases r; exact .nil
      | cons d ds ih =>
        intro vs r h
        cases r with
        | cons a b => exact .cons (pl_dp ex n (h _ List.mem_cons_self) a) (ih _ b fun d hd => h d (List.mem_cons_of_mem _ hd))
    cases r with
    | lst h1 h2 => exact .lst (sq_of (ex _ _ h1)) (key _ _ h2 h)
  | n + 1, _, .tup ds, h, r => by
    have key : ∀ (ds : List D) (vs : List V), RpA F vs ds → (∀ d ∈ ds, Pl n d) → DpAll K H vs (D.pyA ds) := by
      intro ds
      induction ds with
      | nil => intro vs r _; cases r; exact .nil
      | cons d ds ih =>
        intro vs r h
        cases r with
        | cons a b => exact .cons (pl_dp ex n (h _ List.mem_cons_self) a) (ih _ b fun d hd => h d (List.mem_cons_of_mem _ hd))
    cases r with
    | tup h1 h2 => exact .tup (st_of (ex _ _ h1)) (key _ _ h2 h)
  | 0, _, .lst ds, h, r => by simp [Pl] at h
  | 0, _, .tup ds, h, r => by simp [Pl] at h
  | n, _, .ty _, h, r => by cases n <;> simp [Pl] at h
  | n, _, .ref _, h, r => by cases n <;> simp [Pl] at h
  | n, _, .dK _ _, h, r => by cases n <;> simp [Pl] at h
  | n, _, .dT _ _, h, r => by cases n <;> simp [Pl] at h
  | n, _, .ins _ _ _, h, r => by cases n <;> simp [Pl] at h
  | n, _, .scr _, h, r => by cases n <;> simp [Pl] at h
/-- .. read -/
theorem pl_shl {K : PySem.W.Frag} {F H : Hp} (ex : Ex F H) {n : Nat} {v : V} {d : D} (h : Pl n d) (r : Shl K F H v d) : Dp K H v d.py := by
  rcases r with r | ⟨a, rfl, k⟩
  · exact pl_dp ex n h r
  · cases d with
    | lst ds =>
      obtain ⟨vs, h1, h2⟩ := k
      cases n with
      | zero => simp [Pl] at h
      | succ n =>
        have key : ∀ (ds : List D) (vs : List V), RpA F vs ds → (∀ d ∈ ds, Pl n d) → DpAll K H vs (D.pyA ds) := by
          intro ds
          induction ds with
          | nil => intro vs r _; cases r; exact .nil
          | cons d ds ih =>
            intro vs r h
            cases r with
            | cons a b => exact .cons (pl_dp ex n (h _ List.mem_cons_self) a) (ih _ b fun d hd => h d (List.mem_cons_of_mem _ hd))
        exact .lst (sq_of h1) (key _ _ h2 h)
    | dK _ _ => cases n <;> simp [Pl] at h
    | dT _ _ => cases n <;> simp [Pl] at h
    | ins _ _ _ => cases n <;> simp [Pl] at h
    | scr _ => cases n <;> simp [Pl] at h
    | non => exact k.elim
    | bl b => exact k.elim
    | int b => exact k.elim
    | str b => exact k.elim
    | ty b => exact k.elim
    | ref b => exact k.elim
    | tup b => exact k.elim
theorem pl_lay : ∀ (n : Nat) {d : D}, Pl n d → d.py.canLay0 = true ∧ d.py.depth ≤ n := by
  intro n
  induction n with
  | zero =>
    intro d h
    cases d <;> simp [Pl] at h <;> simp [D.py, PyData.canLay0, PyData.depth, h]
  | succ n ih =>
    have key : ∀ ds : List D, (∀ d ∈ ds, Pl n d) → PyData.canLayAll0 (D.pyA ds) = true ∧ PyData.depthAll (D.pyA ds) ≤ n := by
      intro ds
      induction ds with
      | nil => intro _; simp [D.pyA, PyData.canLayAll0, PyData.depthAll]
      | cons d ds ih2 =>
        intro h
        obtain ⟨a1, a2⟩ := ih (h d List.mem_cons_self)
        obtain ⟨b1, b2⟩ := ih2 fun e he => h e (List.mem_cons_of_mem _ he)
        simp only [D.pyA, PyData.canLayAll0, PyData.depthAll, a1, b1, Bool.and_self, true_and]
        omega
    intro d h
    cases d with
    | lst ds =>
      obtain ⟨a1, a2⟩ := key ds h
      simp only [D.py, PyData.canLay0, PyData.depth, a1, true_and]
      omega
    | tup ds =>
      obtain ⟨a1, a2⟩ := key ds h
      simp only [D.py, PyData.canLay0, PyData.depth, a1, true_and]
      omega
    | _ => simp [Pl] at h <;> simp [D.py, PyData.canLay0, PyData.depth, h]
theorem pl_shaped {n : Nat} (hn : n ≤ 64) (h : Pl n d) : SeqAt.shaped d.py = true := by
  obtain ⟨a, b⟩ := pl_lay n h
  unfold SeqAt.shaped
  rw [Bool.and_eq_true]
  exact ⟨a, decide_eq_true (Nat.le_trans b hn)⟩
/-- equal, by Python's own word -/
def D.eq (d e : D) : Bool := PyData.eqv d.py e.py
theorem D.eq_self {n : Nat} (hn : n ≤ 64) (h : Pl n d) : D.eq d d = true := SeqAt.eqv_refl d.py (SeqAt.canLay_of_shaped (pl_shaped hn h))
theorem p_eqD {n m : Nat} (h : EvS c G ρ ta d) (h2 : EvS c G ρ tb e) (hd : Pl n d) (he : Pl m e) (hn : n ≤ 64) (hm : m ≤ 64) : EvP c G ρ (tOp (rEqD c.K) ta tb) (.bl (D.eq d e)) := fun F σ H A Q q => h F σ H A _ fun v F1 H1 g1 r1 => h2 F1 σ H1 (A.on g1) _ fun w F2 H2 g2 r2 => by
  have r' : Shl c.K F2 H2 v d := by
    rcases r1 with k | ⟨a, e, k⟩
    · exact .inl (k.mono g2.f)
    · exact .inr ⟨a, e, k.mono g2.f g2.h⟩
  exact ⟨_, _, pl_shl g2.s hd r', pl_shl g2.s he r2, pl_shaped hn hd, pl_shaped hm he, q _ F2 H2 (g1.trans g2) (.bl _)⟩
theorem p_neD {n m : Nat} (h : EvS c G ρ ta d) (h2 : EvS c G ρ tb e) (hd : Pl n d) (he : Pl m e) (hn : n ≤ 64) (hm : m ≤ 64) : EvP c G ρ (tOp (rNeD c.K) ta tb) (.bl (!D.eq d e)) := fun F σ H A Q q => h F σ H A _ fun v F1 H1 g1 r1 => h2 F1 σ H1 (A.on g1) _ fun w F2 H2 g2 r2 => by
  have r' : Shl c.K F2 H2 v d := by
    rcases r1 with k | ⟨a, e, k⟩
    · exact .inl (k.mono g2.f)
    · exact .inr ⟨a, e, k.mono g2.f g2.h⟩
  exact ⟨_, _, pl_shl g2.s hd r', pl_shl g2.s he r2, pl_shaped hn hd, pl_shaped hm he, q _ F2 H2 (g1.trans g2) (.bl _)⟩
/-- the same data twice -/
theorem p_eqSame {n : Nat} (h : EvS c G ρ ta d) (h2 : EvS c G ρ tb d) (hd : Pl n d) (hn : n ≤ 64) : EvP c G ρ (tOp (rEqD c.K) ta tb) (.bl true) := (p_eqD h h2 hd hd hn hn).is (by rw [D.eq_self hn hd])
theorem p_neSame {n : Nat} (h : EvS c G ρ ta d) (h2 : EvS c G ρ tb d) (hd : Pl n d) (hn : n ≤ 64) : EvP c G ρ (tOp (rNeD c.K) ta tb) (.bl false) := (p_neD h h2 hd hd hn hn).is (by rw [D.eq_self hn hd]; rfl)
end
end Dl

/-! ### dicts whose keys are tuples: dict(d), d == e; no rule of the layer tells these -/
namespace Xg
open PySem PySem.Spec PyProof.Rows L2
section
variable {prog : Program} {w : World} {K : Type} [DecidableEq K] {knd : HeapKind prog w K} {A : Around} {E : Value → Shared → Prop} {s : Shared}
theorem dict_copy {src : Addr} {xs : List (K × Addr × Value)} {Q : Value → Shared → Prop} (hu : knd.room A.in1.in1) (hsys : (src == sysModules) = false) (hd : s.heap.DictOfH knd src xs)
    (hty : ∀ x ∈ xs, Shared.TypeIs { s with heap := s.heap.push { cls := .type "dict", data := .dict #[] } } (.ref x.2.1) "tuple") (hn : (xs.map fun x => knd.hash x.1).Nodup) (hz : xs.length ≤ sizeLine)
    (st : ∀ x ∈ xs, knd.is (s.heap.push { cls := .type "dict", data := .dict #[] }) x.1 x.2.1)
    (q : ∀ g : Heap, g.DictOfH knd s.heap.objs.size xs → (∀ b u, s.heap.get? b = some u → g.get? b = some u) → Q (.ref s.heap.objs.size) { s with heap := g }) :
    wpAny (model prog w) A (call (.type "dict") [.ref src]) Q E s := by
  have hlt : src < s.heap.objs.size := by
    obtain ⟨_, _, _, e, _⟩ := hd
    exact Heap.lt_size e
  have hnew : (s.heap.push { cls := .type "dict", data := .dict #[] }).DictOfH knd s.heap.objs.size [] := Heap.DictOfH.new s.heap
  have hsrc : (s.heap.push { cls := .type "dict", data := .dict #[] }).DictOfH knd src xs := by
    obtain ⟨o, es, ep, e1, e2, e3, e4, _, e6⟩ := hd
    exact ⟨o, es, ep, Heap.get?_push_of_some _ e1, e2, e3, e4, st, e6⟩
  refine callType_codes (Q₁ := fun x t => x = .ref s.heap.objs.size ∧ t = { s with heap := s.heap.push { cls := .type "dict", data := .dict #[] } })
    F.kt_called_dict (F.kt_typeCall_dict_1 _) F.entry_dict_init
    (kt_code_dict_new _ ⟨rfl, rfl⟩) ?_
  rintro x t ⟨rfl, rfl⟩
  refine ⟨hnew.typeIs, F.args_dict_init_2 _ _, ?_⟩
  unfold Builtin.«dict.__init__» Builtin.Dict.selfAndRest
  refine wpAny_bind (wpAny_bind ?_)
  refine wpAny_notOrdered_dict hnew.typeIs ?_
  refine wpAny_pure ?_
  refine updateFrom_dictH (A := A.in1) .none hu (Nat.ne_of_gt hlt) hsys hnew hsrc (.inr ⟨hty, hn⟩) (by simpa using hz) fun g hg _ sb => ?_
  rw [storedAllH_nil_of_nodup xs hd.nodup] at hg
  exact ⟨rfl, q g hg fun b u e => (sb.2 b (Nat.ne_of_lt (Heap.lt_size e))).trans (Heap.get?_push_of_some _ e)⟩
/-- each pair of the one has its like in the other -/
def Alike (A : Around) (s : Shared) (xs ys : List (K × Addr × Value)) : Prop := ∀ (i : Nat) (k : K) (p : Addr) (v : Value), xs[i]? = some (k, p, v) → ∃ (j : Nat) (p' : Addr) (v' : Value), ys[j]? = some (k, p', v') ∧ SeqAt.EqAt A s v v' true
theorem same_pairs {nm : String} {a b : Addr} {xs ys : List (K × Addr × Value)} {Q : Bool → Shared → Prop} (hu : knd.room A) (ha : (a == sysModules) = false) (hb : (b == sysModules) = false) (da : s.heap.DictOfH knd a xs) (db : s.heap.DictOfH knd b ys)
    (hl : xs.length = ys.length) (al : Alike A s xs ys) (q : Q true s) : wpAny (model prog w) A (Builtin.Dict.samePairs nm a b) Q E s := by
  obtain ⟨oa, ea, na, ga, _, ta, la, ia, ua⟩ := da
  obtain ⟨ob, eb, nb, gb, _, tb, lb, ib, ub⟩ := db
  have za : ea.size = xs.length := size_of_entries la
  have zb : eb.size = ys.length := size_of_entries lb
  unfold Builtin.Dict.samePairs Builtin.Dict.showsAll
  rw [ha, hb]
  simp only [Bool.false_eq_true, if_false]
  refine wpAny_bind (wpAny_pure ?_)
  refine wpAny_bind (wpAny_pure ?_)
  refine wpAny_bind (wpAny_dictEntries ga ta ?_)
  refine wpAny_bind (wpAny_dictEntries gb tb ?_)
  have zz : (ea.size != eb.size) = false := by rw [za, zb, hl]; simp
  rw [zz]
  simp only [Bool.false_eq_true, if_false]
  refine wpAny_bind (wpAny_dictEpoch ga ta ?_)
  refine wpAny_bind ?_
  rw [Std.Legacy.Range.forIn_eq_forIn_range']
  simp only [Std.Legacy.Range.size, Nat.sub_zero, Nat.add_sub_cancel, Nat.div_one]
  refine wpAny_forIn_list _ (fun rest r t => t = s ∧ r = (none, ()) ∧ ∃ i, i ≤ ea.size ∧ rest = List.range' i (ea.size - i)) _ ?_ ?_ _ _ ⟨rfl, rfl, 0, Nat.zero_le _, by simp⟩
  · rintro x rest r t ⟨rfl, rfl, i, hi, hr⟩
    have lt : i < ea.size := by
      rcases Nat.lt_or_ge i ea.size with z | z
      · exact z
      · rw [Nat.sub_eq_zero_of_le z] at hr
        cases hr
    obtain ⟨rfl, hr'⟩ : x = i ∧ rest = List.range' (i + 1) (ea.size - (i + 1)) := by
      rw [show ea.size - i = (ea.size - (i + 1)) + 1 by omega, List.range'_succ] at hr
      injection hr with h1 h2
      exact ⟨h1, h2⟩
    refine wpAny_bind (wpAny_dictEntries ga ta ?_)
    obtain ⟨⟨k, p, v⟩, hx⟩ : ∃ y, xs[x]? = some y := ⟨xs[x]'(by omega), List.getElem?_eq_getElem _⟩
    rw [entry_at la x, hx]
    obtain ⟨j, p', v', hy, he⟩ := al x k p v hx
    have jk : ∀ (j' : Nat) (z : Addr × Value), ys[j']? = some (k, z) → j' = j ∧ z = (p', v') := fun j' z hz => by
      have e : j' = j := idxH_unique ub hz hy
      subst e
      rw [hy] at hz
      exact ⟨rfl, ((Prod.mk.inj (Option.some.inj hz)).2).symm⟩
    refine wpAny_bind (wpAny_holding (wpAny_bind ?_))
    refine wpAny_dictFind_heap hu (ia _ (List.mem_of_getElem? hx)) gb tb lb ib ub (fun no => absurd hy (no j _)) fun j' z hz => ?_
    obtain ⟨rfl, rfl⟩ := jk j' z hz
    refine wpAny_bind (wpAny_dictEntries gb tb ?_)
    rw [entry_at lb j', hy]
    refine wpAny_holding (he prog w _ _ ?_)
    simp only [Bool.not_true, Bool.false_eq_true, if_false]
    refine wpAny_bind (wpAny_dictEpoch ga ta ?_)
    simp only [bne_self_eq_false, Bool.false_eq_true, if_false]
    exact wpAny_pure ⟨rfl, rfl, x + 1, lt, hr'⟩
  · rintro r t ⟨rfl, rfl, i, hi, hr⟩
    exact wpAny_pure q
theorem dicts_ne {a b : Addr} {xs ys : List (K × Addr × Value)} {Q : Value → Shared → Prop} (hu : knd.room A.in1) (hr : A.units < cLine) (ha : (a == sysModules) = false) (hb : (b == sysModules) = false) (da : s.heap.DictOfH knd a xs) (db : s.heap.DictOfH knd b ys)
    (hl : xs.length = ys.length) (al : Alike A.in1 s xs ys) (q : Q (.bool false) s) : wpAny (model prog w) A (compareOp .NotEq (.ref a) (.ref b)) Q E s := by
  refine wpAny_richCompare_same_room (op := .NotEq) da.typeIs db.typeIs F.slot_dict_ne ?_ hr
  refine wpAny_call_entry F.slot_dict_ne da.typeIs F.entry_dict_ne ?_ (F.args_dict_ne_2 _ _)
  show wpAny _ _ (do
    let (x, y) ← Builtin.Dict.dictSlotArgs "__ne__" ⟨[.ref a, .ref b], []⟩
    _) _ _ s
  unfold Builtin.Dict.dictSlotArgs
  refine wpAny_bind (wpAny_bind ?_)
  refine wpAny_notOrdered_dict da.typeIs ?_
  refine wpAny_pure ?_
  refine wpAny_bind (wpAny_isInstance (T := "dict") db.typeIs F.sub_dict_dict ?_)
  simp only [Bool.not_true, Bool.false_eq_true, if_false]
  refine wpAny_bind (wpAny_pure ?_)
  refine wpAny_bind (wpAny_pure ?_)
  refine wpAny_bind (same_pairs hu ha hb da db hl al ?_)
  exact wpAny_pure ⟨_, rfl, (fun x => nomatch x), by simpa using q⟩
end
/-! over the layer -/
def hashI (k : List Int) : Int := reduceHash (Builtin.Tuple.tupleHashOf (k.map hashInt))
theorem hash_keys {P : Program} {w : World} (k : List Int) : tupleKeyHash (mixKind P w) (k.map Sum.inl) = hashI k := by
  unfold tupleKeyHash hashI
  rw [List.map_map]
  rfl
def rCopyT : List V → Hp → VK → Prop := fun xs H Q => ∃ (a : Addr) (kvs : List (List Key × V)) (ks : List (List Int)), xs = [.ref a] ∧ Rd H a (.dT kvs) ∧ kvs.map (·.1) = ks.map (·.map Sum.inl) ∧ (ks.map hashI).Nodup ∧ ∀ p, H p = none → Q (.ref p) (upd H p (.dT kvs))
theorem kt_keys {H : Hp} : ∀ {kvs : List (List Key × V)} {xs : List (List Key × Addr × Value)}, KT H kvs xs → xs.map (·.1) = kvs.map (·.1)
  | _, _, .nil => rfl
  | _, _, .cons h t => by rw [List.map_cons, List.map_cons, kt_keys t, h.1]
theorem kt_mem {H : Hp} {kvs : List (List Key × V)} {xs : List (List Key × Addr × Value)} (r : KT H kvs xs) : ∀ x ∈ xs, H x.2.1 = some (.tup (x.1.map kV)) := by
  induction r with
  | nil => intro x hx; cases hx
  | cons h t ih =>
    intro x hx
    rcases List.mem_cons.mp hx with rfl | hx
    · rw [← h.1]; exact h.2.1
    · exact ih x hx
theorem call_dictT {X : Cx} (hu : X.A.units + 64 < cLine) : CallR X (.type "dict") rCopyT := by
  intro pins s σ H vs us Q I r h
  obtain ⟨a, kvs, ks, rfl, hd, hk, hn, q⟩ := h
  obtain ⟨u, rfl, ru⟩ := r.one
  cases ru
  obtain ⟨z, lo, xs, rel, dd⟩ := dt_rd I.hok hd
  have lx : xs.length = kvs.length := by have := congrArg List.length (kt_keys rel); simpa using this
  have old : ∀ b o, s.heap.get? b = some o → (s.heap.push { cls := .type "dict", data := .dict #[] }).get? b = some o := fun b o e => Heap.get?_push_of_some _ e
  refine dict_copy (knd := tupleKind (mixKind X.prog X.w)) ?_ lo dd (fun x hx => ?_) ?_ (by omega) (fun x hx => ?_) fun g hg hold => ?_
  · show X.A.in1.in1.units < cLine
    have : X.A.in1.in1.units ≤ X.A.units + 64 := by simp [Around.in1, Around.units] <;> omega
    omega
  · obtain ⟨_, its, rv, o, h1, h2, _⟩ := (show ObjOk X.prog X.w H s.heap x.2.1 (.tup (x.1.map kV)) from I.hok _ _ (kt_mem rel x hx))
    exact ⟨o, old _ _ h1, h2⟩
  · have e : xs.map (fun x => (tupleKind (mixKind X.prog X.w)).hash x.1) = ks.map hashI := by
      have e1 : xs.map (fun x => (tupleKind (mixKind X.prog X.w)).hash x.1) = (xs.map (·.1)).map fun k => tupleKeyHash (mixKind X.prog X.w) k := by rw [List.map_map]; rfl
      rw [e1, kt_keys rel, hk, List.map_map]
      exact List.map_congr_left fun k _ => hash_keys k
    rw [e]
    exact hn
  · have J : HOk X.prog X.w H (s.heap.push { cls := .type "dict", data := .dict #[] }) := I.hok.kept old
    exact key_of J (kt_mem rel x hx)
  · have hm : (s.heap.objs.size == sysModules) = false := beq_eq_false_iff_ne.mpr (Nat.ne_of_gt I.big)
    have fr : H s.heap.objs.size = none := I.hok.fresh (Nat.le_refl _)
    obtain ⟨o, es, ep, e1, e2, e3, e4, _, e6⟩ := hg
    refine ⟨.ref s.heap.objs.size, upd H s.heap.objs.size (.dT kvs), I.laid (t' := s.toks) hold (Nat.le_refl _) ⟨z, hm, xs, rel.keeps fun b ys e => ?_, o, es, ep, e1, e2, e3, e4, e6⟩, rfl, q _ fr⟩
    rw [upd_ne (ne_of_none e fr)]
    exact e
def rNeT : R2 := fun x y H Q => ∃ (a b : Addr) (kvs : List (List Key × V)), x = .ref a ∧ y = .ref b ∧ H a = some (.dT kvs) ∧ H b = some (.dT kvs) ∧ (∀ p ∈ kvs, flatB p.2 = true) ∧ Q (.bl false) H
theorem kt_at {H : Hp} : ∀ {kvs : List (List Key × V)} {xs : List (List Key × Addr × Value)} {i : Nat} {x : List Key × Addr × Value}, KT H kvs xs → xs[i]? = some x → ∃ v, kvs[i]? = some (x.1, v) ∧ RelV v x.2.2
  | _, _, _, _, .nil, e => by simp at e
  | _, _, 0, _, .cons (a := p) h t, e => by
    simp at e
    subst e
    exact ⟨p.2, by simp [← h.1], h.2.2⟩
  | _, _, i + 1, _, .cons h t, e => by
    obtain ⟨v, h1, h2⟩ := kt_at (i := i) t (by simpa using e)
    exact ⟨v, by simpa using h1, h2⟩
theorem kt_ta {H : Hp} : ∀ {kvs : List (List Key × V)} {xs : List (List Key × Addr × Value)} {i : Nat} {y : List Key × V}, KT H kvs xs → kvs[i]? = some y → ∃ x, xs[i]? = some x ∧ x.1 = y.1 ∧ RelV y.2 x.2.2
  | _, _, _, _, .nil, e => by simp at e
  | _, _, 0, _, .cons (b := q) h t, e => by
    simp at e
    subst e
    exact ⟨q, by simp, h.1.symm, h.2.2⟩
  | _, _, i + 1, _, .cons h t, e => by
    obtain ⟨v, h1, h2⟩ := kt_ta (i := i) t (by simpa using e)
    exact ⟨v, by simpa using h1, h2⟩
theorem op_neT {X : Cx} (hu : X.A.units + 64 < cLine) : OpR X (compareOp .NotEq) rNeT := by
  intro pins s σ H x y v u Q I rx ry h
  obtain ⟨a, b, kvs, rfl, rfl, ea, eb, fl, q⟩ := h
  cases rx
  cases ry
  obtain ⟨_, ya, xa, ra, da⟩ := dt_of I.hok ea
  obtain ⟨_, yb, xb, rb, db⟩ := dt_of I.hok eb
  refine dicts_ne (knd := tupleKind (mixKind X.prog X.w)) ?_ (by omega) ya yb da db ?_ ?_ ⟨.bl false, H, I, rfl, q⟩
  · show X.A.in1.units < cLine
    have : X.A.in1.units ≤ X.A.units + 64 := by simp [Around.in1, Around.units] <;> omega
    omega
  · have e1 := congrArg List.length (kt_keys ra)
    have e2 := congrArg List.length (kt_keys rb)
    simp at e1 e2
    omega
  · intro i k p v hx
    obtain ⟨z, hz, rz⟩ := kt_at ra hx
    obtain ⟨⟨k', p', v'⟩, hy, ek, rv⟩ := kt_ta rb hz
    cases ek
    exact ⟨i, p', v', hy, eqAt_same rz rv (fl _ (List.mem_of_getElem? hz))⟩
end Xg

namespace Dl
open PySem PySem.Spec PyProof.Rows L2 Evl Xb
/-! ### tables of pairs -/
section
variable {α β : Type} [DecidableEq α]
def valA (l : List (α × β)) (k : α) : Option β := (l.find? fun e => decide (e.1 = k)).map (·.2)
def putA (l : List (α × β)) (k : α) (v : β) : List (α × β) := if (valA l k).isSome then l.map (fun e => if e.1 = k then (e.1, v) else e) else l ++ [(k, v)]
theorem valA_nil {k : α} : valA ([] : List (α × β)) k = none := rfl
theorem valA_cons {e : α × β} {l : List (α × β)} {k : α} : valA (e :: l) k = if e.1 = k then some e.2 else valA l k := by
  unfold valA
  by_cases h : e.1 = k <;> simp [List.find?_cons, h]
theorem valA_some_mem {l : List (α × β)} {k : α} {v : β} (h : valA l k = some v) : (k, v) ∈ l := by
  induction l with
  | nil => cases h
  | cons e l ih =>
    rw [valA_cons] at h
    by_cases q : e.1 = k
    · rw [if_pos q] at h
      cases h
      subst q
      exact List.mem_cons_self
    · rw [if_neg q] at h
      exact List.mem_cons_of_mem _ (ih h)
theorem valA_none {l : List (α × β)} {k : α} : valA l k = none ↔ k ∉ l.map (·.1) := by
  induction l with
  | nil => simp [valA_nil]
  | cons e l ih =>
    rw [valA_cons]
    by_cases q : e.1 = k
    · simp [q]
    · rw [if_neg q, ih]
      simp [Ne.symm q]
theorem valA_isSome {l : List (α × β)} {k : α} : (valA l k).isSome = true ↔ k ∈ l.map (·.1) := by
  cases h : valA l k with
  | none => simpa using valA_none.mp h
  | some v => simp; exact ⟨v, valA_some_mem h⟩
theorem valA_of_mem {l : List (α × β)} (hn : (l.map (·.1)).Nodup) {k : α} {v : β} (h : (k, v) ∈ l) : valA l k = some v := by
  induction l with
  | nil => cases h
  | cons e l ih =>
    rw [List.map_cons, List.nodup_cons] at hn
    rw [valA_cons]
    rcases List.mem_cons.mp h with q | q
    · subst q; rw [if_pos rfl]
    · rw [if_neg, ih hn.2 q]
      intro e1
      exact hn.1 (by rw [e1]; exact List.mem_map.mpr ⟨_, q, rfl⟩)
theorem putA_new {l : List (α × β)} {k : α} {v : β} (h : k ∉ l.map (·.1)) : putA l k v = l ++ [(k, v)] := by
  unfold putA
  rw [valA_none.mpr h]
  rfl
theorem valA_snoc {l : List (α × β)} {k j : α} {v : β} : valA (l ++ [(k, v)]) j = match valA l j with | some x => some x | none => if k = j then some v else none := by
  induction l with
  | nil => rw [List.nil_append, valA_cons, valA_nil]
  | cons e l ih =>
    rw [List.cons_append, valA_cons, valA_cons, ih]
    by_cases q : e.1 = j
    · rw [if_pos q, if_pos q]
    · rw [if_neg q, if_neg q]
end
/-! ### spots, and tables of spots and names -/
abbrev Spot := Int × Int
def spotK (s : Spot) : List Key := [.inl s.1, .inl s.2]
def encSpot (s : Spot) : D := .tup [.int s.1, .int s.2]
theorem spotK_inj {s t : Spot} (h : spotK s = spotK t) : s = t := by
  obtain ⟨a, b⟩ := s
  obtain ⟨x, y⟩ := t
  simp [spotK] at h
  simp [h]
theorem spot_key {F : Hp} {v : V} {s : Spot} (r : Rp F v (encSpot s)) : ∃ b, v = .ref b ∧ F b = some (.tup ((spotK s).map kV)) := by
  unfold encSpot at r
  cases r with
  | tup h1 h2 =>
    have e := RpA.ints (ns := [s.1, s.2]) h2
    rw [e] at h1
    exact ⟨_, rfl, h1⟩
theorem p_spot {c : Ct} {G : Res} {ρ : En} {ta tb : TE} {i j : Int} (ha : EvP c G ρ ta (.int i)) (hb : EvP c G ρ tb (.int j)) : EvP c G ρ (tTup (tCons ta (tCons tb tNil))) (encSpot (i, j)) := p_tup (a_cons ha (a_cons hb a_nil)) (by simp)
abbrev Rn := Int × Int × Int
def encRun (r : Rn) : D := .tup [.int r.1, .int r.2.1, .int r.2.2]
theorem p_run {c : Ct} {G : Res} {ρ : En} {ta tb td : TE} {i j k : Int} (ha : EvP c G ρ ta (.int i)) (hb : EvP c G ρ tb (.int j)) (hd : EvP c G ρ td (.int k)) : EvP c G ρ (tTup (tCons ta (tCons tb (tCons td tNil)))) (encRun (i, j, k)) := p_tup (a_cons ha (a_cons hb (a_cons hd a_nil))) (by simp)
abbrev TD := List (Spot × Str)
def tdD (l : TD) : D := .dT (l.map fun e => spotK e.1) (l.map fun e => .str e.2)
def tdV (l : TD) : List (List Key × V) := l.map fun e => (spotK e.1, V.str e.2)
theorem td_of {F : Hp} {kvs : List (List Key × V)} {l : TD} (k : kvs.map (·.1) = l.map fun e => spotK e.1) (r : RpA F (kvs.map (·.2)) (l.map fun e => .str e.2)) : kvs = tdV l := by
  have e : (l.map fun e => D.str e.2) = (l.map (·.2)).map D.str := by rw [List.map_map]; rfl
  rw [e] at r
  have e2 := r.strs
  apply List.ext_getElem?
  intro i
  have h1 := congrArg (fun z : List (List Key) => z[i]?) k
  have h2 := congrArg (fun z : List V => z[i]?) e2
  simp only [List.getElem?_map] at h1 h2
  unfold tdV
  rw [List.getElem?_map]
  cases hk : kvs[i]? with
  | none =>
    rw [hk] at h1
    cases hl : l[i]? with
    | none => rfl
    | some x => rw [hl] at h1; simp at h1
  | some p =>
    rw [hk] at h1 h2
    cases hl : l[i]? with
    | none => rw [hl] at h1; simp at h1
    | some x =>
      rw [hl] at h1 h2
      simp at h1 h2
      obtain ⟨p1, p2⟩ := p
      simp at h1 h2
      simp [h1, h2]
theorem td_rp {F : Hp} (l : TD) : RpA F ((tdV l).map (·.2)) (l.map fun e => .str e.2) := by
  have e1 : (tdV l).map (·.2) = (l.map (·.2)).map V.str := by unfold tdV; rw [List.map_map, List.map_map]; rfl
  have e2 : (l.map fun e => D.str e.2) = (l.map (·.2)).map D.str := by rw [List.map_map]; rfl
  rw [e1, e2]
  exact RpA.ofStrs _
theorem td_keys (l : TD) : (tdV l).map (·.1) = l.map fun e => spotK e.1 := by unfold tdV; rw [List.map_map]; rfl
theorem td_val (l : TD) (s : Spot) : valV (tdV l) (spotK s) = (valA l s).map V.str := by
  unfold tdV
  induction l with
  | nil => rfl
  | cons e l ih =>
    rw [List.map_cons, valA_cons]
    by_cases h : e.1 = s
    · rw [if_pos h, valV_pos (by rw [h])]
      rfl
    · rw [if_neg h, valV_neg (fun q => h (spotK_inj q)), ih]
theorem td_put (l : TD) (s : Spot) (n : Str) : putK (tdV l) (spotK s) (.str n) = tdV (putA l s n) := by
  unfold putK putA
  rw [valV_any, td_val, Option.isSome_map]
  cases h : (valA l s).isSome with
  | true =>
    rw [if_pos rfl, if_pos rfl]
    unfold tdV
    rw [List.map_map, List.map_map]
    refine List.map_congr_left fun e _ => ?_
    by_cases q : e.1 = s
    · simp [q]
    · have : ¬ spotK e.1 = spotK s := fun z => q (spotK_inj z)
      simp [q, this]
  | false =>
    rw [if_neg (by simp), if_neg (by simp)]
    unfold tdV
    rw [List.map_append]
    rfl
section
variable {c : Ct} {G : Res} {ρ : En} {ta tb te td ty tv tx : TE} {tz : TS} {E : Ends} {p : Addr} {l : TD} {s : Spot} {n : Str}
theorem shl_td {K : PySem.W.Frag} {F H : Hp} {v : V} (e : Ex F H) (h : Shl K F H v (tdD l)) : ∃ a, v = .ref a ∧ H a = some (.dT (tdV l)) := by
  obtain ⟨a, kvs, rfl, h1, h2, h3⟩ := h.dT e
  rw [td_of h2 h3] at h1
  exact ⟨a, rfl, h1⟩
theorem ow_td {K : PySem.W.Frag} {F H : Hp} {a : Addr} (h : H a = some (.dT (tdV l))) : Ow K F H a (tdD l) := ⟨_, h, td_keys l, td_rp l⟩
theorem n_dnewT : EvN c G ρ tDNewT (tdD []) := fun F σ H A Q q p hp => q p F _ (Go.newH A.ex hp) hp (fresh_back A.ex hp) (ow_td upd_same) fun _ e => nomatch e
theorem sx_dputT (k : Nat) (hv : EvP c G ρ tv (.str n)) (ha : EvP c G ρ td (.ref p)) (hy : EvP c G ρ ty (encSpot s)) (hk : G[k]? = some (p, tdD l)) (hz : l.length < 100000) (q : Sx c (G.set k (p, tdD (putA l s n))) ρ tz E) :
    Sx c G ρ (tSeq (sDPut td ty tv) tz) E := fun F σ H A => hv F σ H A _ fun v F1 H1 g1 r1 => ha F1 σ H1 (A.on g1) _ fun w F2 H2 g2 r2 => hy F2 σ H2 ((A.on g1).on g2) _ fun y F3 H3 g3 r3 => by
  cases r1
  cases r2
  obtain ⟨b, rfl, hb⟩ := spot_key r3
  have A3 := ((A.on g1).on g2).on g3
  obtain ⟨a, e, h1⟩ := shl_td (l := l) A3.ex (A3.read (.inr (List.mem_of_getElem? hk)))
  cases e
  refine ⟨p, upd H3 p (.dT (putK (tdV l) (spotK s) (.str n))), rfl, DPut.t h1 (A3.ex _ _ hb) (sz_lt (by unfold tdV; rw [List.length_map]; exact hz)), ?_⟩
  rw [td_put]
  exact q F3 σ _ (A3.upd hk (ow_td upd_same) fun _ e => nomatch e)
/-- if c: d[k] = v, told by what d holds behind it -/
theorem sx_ifPutT {t : TT} {b : Bool} {l' : TD} (k : Nat) (ht : EvT c G ρ t b) (hk : G[k]? = some (p, tdD l)) (hv : b = true → EvP c G ρ tv (.str n)) (ha : b = true → EvP c G ρ td (.ref p)) (hy : b = true → EvP c G ρ ty (encSpot s)) (h1 : b = true → putA l s n = l') (h2 : b = false → l = l')
    (hz : l.length < 100000) (q : Sx c (G.set k (p, tdD l')) ρ tz E) : Sx c G ρ (tSeq (tIfS t (sDPut td ty tv) tNext) tz) E := by
  refine sx_if ht (fun hb => ?_) fun hb => ?_
  · have := sx_dputT (tz := tNext) (E := { E with nx := tz E }) k (hv hb) (ha hb) (hy hb) hk hz (by rw [h1 hb]; exact sx_into (E := E) (ts := tz) q)
    exact this
  · have e : G.set k (p, tdD l') = G := by
      rw [← h2 hb]
      apply List.ext_getElem?
      intro j
      by_cases ej : k = j
      · subst ej
        rw [List.getElem?_set_self (List.getElem?_eq_some_iff.mp hk).1, hk]
      · rw [List.getElem?_set_ne ej]
    rw [e] at q
    exact sx_into (E := E) (ts := tz) q
theorem td_get {K : PySem.W.Frag} {F H : Hp} {v : V} {a : Addr} (e : Ex F H) (h : H a = some (.dT (tdV l))) (r : Rp F v (encSpot s)) : DGet H a v ((valA l s).map V.str) := by
  obtain ⟨b, rfl, hb⟩ := spot_key r
  have := DGet.t h (e _ _ hb)
  rwa [td_val] at this
theorem p_dinT (hy : EvP c G ρ ty (encSpot s)) (hd : EvS c G ρ td (tdD l)) : EvP c G ρ (tDIn ty td) (.bl (valA l s).isSome) := fun F σ H A Q q => hy F σ H A _ fun y F1 H1 g1 r1 => hd F1 σ H1 (A.on g1) _ fun x F2 H2 g2 r2 => by
  obtain ⟨a, rfl, h1⟩ := shl_td g2.s r2
  refine ⟨a, _, rfl, td_get (K := c.K) g2.s h1 (r1.mono g2.f), ?_⟩
  rw [Option.isSome_map]
  exact q _ F2 H2 (g1.trans g2) (.bl _)
theorem p_dninT (hy : EvP c G ρ ty (encSpot s)) (hd : EvS c G ρ td (tdD l)) : EvP c G ρ (tDNotIn ty td) (.bl (!(valA l s).isSome)) := fun F σ H A Q q => hy F σ H A _ fun y F1 H1 g1 r1 => hd F1 σ H1 (A.on g1) _ fun x F2 H2 g2 r2 => by
  obtain ⟨a, rfl, h1⟩ := shl_td g2.s r2
  refine ⟨a, _, rfl, td_get (K := c.K) g2.s h1 (r1.mono g2.f), ?_⟩
  rw [Option.isSome_map]
  exact q _ F2 H2 (g1.trans g2) (.bl _)
def encON : Option Str → D
  | none => .non
  | some n => .str n
theorem p_get1T (hd : EvS c G ρ td (tdD l)) (hy : EvP c G ρ ty (encSpot s)) : EvP c G ρ (tDGet1 td ty) (encON (valA l s)) := fun F σ H A Q q => hd F σ H A _ fun x F1 H1 g1 r1 => by
  obtain ⟨a, rfl, h1⟩ := shl_td g1.s r1
  refine ⟨a, rfl, .inr ⟨_, .inl h1⟩, hy F1 σ H1 (A.on g1) _ fun y F2 H2 g2 r2 => ⟨_, td_get (K := c.K) g2.s (g2.h _ _ h1) r2, ?_⟩⟩
  cases h : valA l s with
  | none => rw [h] at q; exact q _ F2 H2 (g1.trans g2) .non
  | some n => rw [h] at q; exact q _ F2 H2 (g1.trans g2) (.str n)
theorem p_get2T (hd : EvS c G ρ td (tdD l)) (hy : EvP c G ρ ty (encSpot s)) (hx : EvP c G ρ tx (.str n)) : EvP c G ρ (tDGet2 td ty tx) (.str ((valA l s).getD n)) := fun F σ H A Q q => hd F σ H A _ fun x F1 H1 g1 r1 => by
  obtain ⟨a, rfl, h1⟩ := shl_td g1.s r1
  refine ⟨a, rfl, .inr ⟨_, .inl h1⟩, hy F1 σ H1 (A.on g1) _ fun y F2 H2 g2 r2 => hx F2 σ H2 ((A.on g1).on g2) _ fun z F3 H3 g3 r3 => ⟨_, td_get (K := c.K) g3.s (g3.h _ _ (g2.h _ _ h1)) (r2.mono g3.f), ?_⟩⟩
  cases r3
  cases h : valA l s with
  | none => rw [h] at q; exact q _ F3 H3 ((g1.trans g2).trans g3) (.str _)
  | some n => rw [h] at q; exact q _ F3 H3 ((g1.trans g2).trans g3) (.str _)
theorem p_lenTd (hd : EvS c G ρ td (tdD l)) : EvP c G ρ (tCB rLenT (tCons td tNil)) (.int (l.length : Int)) := fun F σ H A Q q => hd F σ H A _ fun x F1 H1 g1 r1 => by
  obtain ⟨a, rfl, h1⟩ := shl_td g1.s r1
  refine ⟨a, tdV l, rfl, h1, ?_⟩
  rw [show (tdV l).length = l.length by unfold tdV; simp]
  exact q _ F1 H1 g1 (.int _)
/-- dict(d) -/
def hashS (s : Spot) : Int := Xg.hashI [s.1, s.2]
theorem n_copyT (hd : EvS c G ρ td (tdD l)) (hn : (l.map fun e => hashS e.1).Nodup) : EvN c G ρ (tCB Xg.rCopyT (tCons td tNil)) (tdD l) := fun F σ H A Q q => hd F σ H A _ fun x F1 H1 g1 r1 => by
  obtain ⟨a, rfl, h1⟩ := shl_td g1.s r1
  refine ⟨a, tdV l, l.map fun e => [e.1.1, e.1.2], rfl, .inl h1, ?_, ?_, fun p hp => ?_⟩
  · rw [td_keys, List.map_map]
    rfl
  · rw [List.map_map]
    exact hn
  · exact q p F1 _ (g1.trans (Go.newH g1.s hp)) (fresh_back g1.h hp) (fresh_back g1.s hp) (ow_td upd_same) fun _ e => nomatch e
theorem p_neTd (ha : EvS c G ρ ta (tdD l)) (hb : EvS c G ρ tb (tdD l)) : EvP c G ρ (tOp Xg.rNeT ta tb) (.bl false) := fun F σ H A Q q => ha F σ H A _ fun x F1 H1 g1 r1 => hb F1 σ H1 (A.on g1) _ fun y F2 H2 g2 r2 => by
  obtain ⟨a, rfl, h1⟩ := shl_td g1.s r1
  obtain ⟨b, rfl, h2⟩ := shl_td g2.s r2
  refine ⟨a, b, tdV l, rfl, rfl, g2.h _ _ h1, h2, fun e he => ?_, q _ F2 H2 (g1.trans g2) (.bl _)⟩
  obtain ⟨x, _, rfl⟩ := List.mem_map.mp he
  rfl
end
end Dl

namespace Dl
open PySem PySem.Spec PyProof.Rows L2 Evl Xb
section
variable {c : Ct} {G : Res} {ρ : En} {t : TT} {ta tb : TE} {ts tz : TS} {E : Ends}
/-- over numbered items, to two names -/
theorem sx_forE {ds : List D} {wi : TI} {j1 j2 : Nat} {gr : Res} (Gs : Nat → Res) (ρs : Nat → En) (hi : EvI c G ρ wi (enumD ds) gr) (hg : ∀ x ∈ gr, ∀ i, x ∈ Gs i) (h0 : G = Gs 0) (l0 : Le (ρs 0) ρ)
    (hs : ∀ (i : Nat) (d : D), ds[i]? = some d → ∀ S' : Res, (∀ x ∈ c.S, x ∈ S') → Sx (c.wS S') (Gs i) (((ρs i).set j1 (some (.int (i : Int)))).set j2 (some d)) ts { E with nx := StE (c.wS S') (Gs (i + 1)) (ρs (i + 1)), ct := StE (c.wS S') (Gs (i + 1)) (ρs (i + 1)), bk := tz E })
    (q : Sx c (Gs ds.length) (ρs ds.length) tz E) : Sx c G ρ (tSeq (tFor wi (gTup c.K 2 (gCons (gName j1) (gCons (gName j2) gNil))) ts) tz) E := by
  have key : ∀ (i : Nat) (d : D), (enumD ds)[i]? = some d → ∃ e, ds[i]? = some e ∧ d = D.tup [D.int (i : Int), e] := fun i d hd => by
    have hl := (List.getElem?_eq_some_iff.mp hd).1
    rw [enumD_len] at hl
    have h2 : ds[i]? = some ds[i] := List.getElem?_eq_getElem hl
    rw [enumD_at h2] at hd
    exact ⟨_, h2, (Option.some.inj hd).symm⟩
  refine sx_for (js := [j1] ++ ([j2] ++ [])) Gs ρs (fun i d => match d with | D.tup [a, b] => ((ρs i).set j1 (some a)).set j2 (some b) | _ => ρs i) hi hg h0 l0 (fun i d hd S' => ?_) (fun i d hd S' hS => ?_) (by rw [enumD_len]; exact q)
  · obtain ⟨e, _, rfl⟩ := key i d hd
    exact g_tup (g_cons g_name (g_cons g_name g_nil)) rfl
  · obtain ⟨e, he, rfl⟩ := key i d hd
    exact hs i e he S' hS
theorem p_ifS {b : Bool} {x y : Str} (h : EvT c G ρ t b) (h1 : Imp (b = true) (EvP c G ρ ta (.str x))) (h2 : Imp (b = false) (EvP c G ρ tb (.str y))) : EvP c G ρ (tIf t ta tb) (.str (if b then x else y)) :=
  p_if h (fun hb => by rw [hb]; exact h1 hb) (fun hb => by rw [hb]; exact h2 hb)
end
end Dl

namespace Dl
open PySem PySem.Spec PyProof.Rows L2 Evl Xb
/-! ### defs that change objects which are handed in -/
/-- a heap without the objects at as -/
def eraL (H : Hp) (as : List Addr) : Hp := fun p => if p ∈ as then none else H p
theorem eraL_ex {H : Hp} {as : List Addr} : Ex (eraL H as) H := fun a u h => by
  unfold eraL at h
  split at h
  · cases h
  · exact h
theorem eraL_out {H : Hp} {as : List Addr} {p : Addr} (h : p ∉ as) : eraL H as p = H p := if_neg h
theorem eraL_in {H : Hp} {as : List Addr} {p : Addr} (h : p ∈ as) : eraL H as p = none := if_pos h
/-- a step that may change the objects at as -/
structure GoM (as : List Addr) (F H F' H' : Hp) : Prop where
  h : ∀ p o, p ∉ as → H p = some o → H' p = some o
  f : Ex F F'
  s : Ex F' H'
  n : ∀ p, H p ≠ none → F' p = F p
/-- the own objects at the end of a def -/
structure AtE (c : Ct) (G : Res) (F H : Hp) : Prop where
  go : Go c.F0 c.B F H
  ow : ∀ x ∈ G, Ow c.K F H x.1 x.2 ∧ F x.1 = none ∧ c.B x.1 = none
  nd : (G.map (·.1)).Nodup
  ns : ∀ x ∈ G, ∀ ns, x.2 ≠ .scr ns
theorem At.toE {c : Ct} {G : Res} {ρ : En} {F H : Hp} {σ : L2.St} (A : At c G ρ F σ H) : AtE c G F H := ⟨A.go, A.ow, A.nd, A.ns⟩
structure OwA (K : PySem.W.Frag) (as : List Addr) (H F' H' : Hp) (M : Res) : Prop where
  ow : ∀ x ∈ M, Ow K F' H' x.1 x.2 ∧ F' x.1 = none ∧ (x.1 ∈ as ∨ H x.1 = none)
  nd : (M.map (·.1)).Nodup
  ns : ∀ x ∈ M, ∀ ns, x.2 ≠ .scr ns
abbrev Way := Out → Res → Prop
def PostM (K : PySem.W.Frag) (as : List Addr) (F H : Hp) (W : Way) (Q : VK) (E : XK) : Prop :=
  (∀ d M', W (.ret d) M' → ∀ v F' H', GoM as F H F' H' → OwA K as H F' H' M' → Rp F' v d → Q v H') ∧
  (∀ C M', W (.exc C) M' → ∀ F' H', GoM as F H F' H' → OwA K as H F' H' M' → E (.ref C) none H')
abbrev PreM := List D → Res → Res → Way → Prop
structure InM (K : PySem.W.Frag) (F H : Hp) (M : Res) : Prop where
  ow : ∀ x ∈ M, Ow K F H x.1 x.2 ∧ F x.1 = none
  nd : (M.map (·.1)).Nodup
  ns : ∀ x ∈ M, ∀ ns, x.2 ≠ .scr ns
def spM (K : PySem.W.Frag) (pre : PreM) : Sp := fun vs H Q E => ∃ F ds S M W, Ex F H ∧ RpA F vs ds ∧ InM K F H M ∧ (∀ x ∈ S, Shl K F (eraL H (M.map (·.1))) (.ref x.1) x.2) ∧ pre ds S M W ∧ PostM K (M.map (·.1)) F H W Q E
/-- what a body has to lead to -/
structure Ways (c : Ct) (W : Way) (Q : VK) (E : XK) : Prop where
  rt : ∀ d M', W (.ret d) M' → ∀ v F' H', AtE c M' F' H' → Rp F' v d → Q v H'
  ex : ∀ C M', W (.exc C) M' → ∀ F' H', AtE c M' F' H' → E (.ref C) none H'
theorem atE_of {K : PySem.W.Frag} {F H F' H' : Hp} {S M M' : Res} (hi : InM K F H M) (A : AtE ⟨K, eraL H (M.map (·.1)), F, S⟩ M' F' H') (hall : ∀ x ∈ M, F' x.1 = none) : GoM (M.map (·.1)) F H F' H' ∧ OwA K (M.map (·.1)) H F' H' M' := by
  refine ⟨⟨fun p o hp ho => A.go.h p o ((eraL_out hp).trans ho), A.go.f, A.go.s, fun p hp => ?_⟩, ⟨fun x hx => ?_, A.nd, A.ns⟩⟩
  · by_cases h : p ∈ M.map (·.1)
    · obtain ⟨x, hx, rfl⟩ := List.mem_map.mp h
      rw [hall x hx, (hi.ow x hx).2]
    · refine A.go.n p ?_
      show eraL H (M.map (·.1)) p ≠ none
      rw [eraL_out h]
      exact hp
  · obtain ⟨h1, h2, h3⟩ := A.ow x hx
    refine ⟨h1, h2, ?_⟩
    by_cases h : x.1 ∈ M.map (·.1)
    · exact .inl h
    · exact .inr ((eraL_out h).symm.trans h3)
/-- a def gives back each object that was handed in -/
def Gives (M : Res) (W : Way) : Prop := ∀ o M', W o M' → ∀ x ∈ M, x.1 ∈ M'.map (·.1)
theorem ways_of {K : PySem.W.Frag} {F H : Hp} {S M : Res} {W : Way} {Q : VK} {E : XK} (hi : InM K F H M) (g : Gives M W) (p : PostM K (M.map (·.1)) F H W Q E) : Ways ⟨K, eraL H (M.map (·.1)), F, S⟩ W Q E := by
  have key : ∀ (o : Out) (M' : Res), W o M' → ∀ F' H', AtE ⟨K, eraL H (M.map (·.1)), F, S⟩ M' F' H' → ∀ x ∈ M, F' x.1 = none := fun o M' hw F' H' A x hx => by
    obtain ⟨y, hy, e⟩ := List.mem_map.mp (g o M' hw x hx)
    rw [← e]
    exact (A.ow y hy).2.1
  refine ⟨fun d M' hw v F' H' A r => ?_, fun C M' hw F' H' A => ?_⟩
  · obtain ⟨a, b⟩ := atE_of hi A (key _ M' hw F' H' A)
    exact p.1 d M' hw v F' H' a b r
  · obtain ⟨a, b⟩ := atE_of hi A (key _ M' hw F' H' A)
    exact p.2 C M' hw F' H' a b
section
variable {P : Program} {w : World} {K : PySem.W.Frag} {mg : Str → Option Value} {base : Heap}
theorem enterM {N : List Str} {vs : List V} {ds : List D} {F H : Hp} {S M : Res} {t : TS} {E : Ends} (hF : Ex F H) (hv : RpA F vs ds) (hi : InM K F H M) (hS : ∀ x ∈ S, Shl K F (eraL H (M.map (·.1))) (.ref x.1) x.2) (h : Sx ⟨K, eraL H (M.map (·.1)), F, S⟩ M (env0 N ds) t E) : t E (L2.start N vs) H := by
  have hFB : Ex F (eraL H (M.map (·.1))) := fun a u q => by
    have hn : a ∉ M.map (·.1) := fun hm => by
      obtain ⟨x, hx, rfl⟩ := List.mem_map.mp hm
      rw [(hi.ow x hx).2] at q
      cases q
    rw [eraL_out hn]
    exact hF a u q
  refine h F _ H ⟨⟨eraL_ex, Ex.refl F, hF, fun _ _ => rfl⟩, ?_, hS, fun x hx => ?_, hi.nd, hi.ns⟩
  · unfold env0 L2.start
    rw [hv.len]
    exact slots0 (N := N) hv _
  · obtain ⟨a, b⟩ := hi.ow x hx
    exact ⟨a, b, eraL_in (List.mem_map.mpr ⟨x, hx, rfl⟩)⟩
theorem fnOkM {x qual : Str} {st : Stmt} {f : Addr} {fd : FuncData} {N ps : List Str} {k : Nat} {pre : PreM} (Fn : Fun K x qual st f fd) (S : FnScope N ps (defScope st)) (len : ∀ ds R M W, pre ds R M W → ds.length = ps.length ∧ Gives M W)
    (body : ∀ ds R M W, pre ds R M W → ∀ (cdv : Value) (A : Around) (outer : List Env) (s : Shared) (H : Hp) (E : XK), Room k (A.deeper (envOfC qual (defScope st) s.heap.objs.size f cdv)) →
      ∃ t, PSs (cxOf CX0 P w K mg base N qual (defScope st) f cdv A outer s H E).nox (defBody st) t ∧ ∀ (B F : Hp) (Q : VK), Ways ⟨K, B, F, R⟩ W Q E → Sx ⟨K, B, F, R⟩ M (env0 N ds) t { nx := fun _ H' => Q .non H', rt := Q }) :
    FnOk P w K mg base CX0 (k + 1) f fd ps (spM K pre) := by
  refine Fn.ok S (fun vs H Q E h => ?_) (fun cdv A outer s H vs Q E hr h => ?_)
  · obtain ⟨F, ds, R, M, W, hF, hv, hi, hS, hp, post⟩ := h
    rw [hv.len]
    exact (len ds R M W hp).1
  · obtain ⟨F, ds, R, M, W, hF, hv, hi, hS, hp, post⟩ := h
    obtain ⟨t, h1, h2⟩ := body ds R M W hp cdv A outer s H E hr
    exact ⟨t, h1, enterM hF hv hi hS (h2 (eraL H (M.map (·.1))) F Q (ways_of hi (len ds R M W hp).2 post))⟩
theorem fnOkMX {x qual : Str} {st : Stmt} {f : Addr} {fd : FuncData} {N ps : List Str} {k : Nat} {pre : PreM} (Fn : Fun K x qual st f fd) (S : FnScope N ps (defScope st)) (len : ∀ ds R M W, pre ds R M W → ds.length = ps.length ∧ Gives M W)
    (body : ∀ ds R M W, pre ds R M W → ∀ (cdv : Value) (A : Around) (outer : List Env) (s : Shared) (H : Hp) (E : XK), Room k (A.deeper (envOfC qual (defScope st) s.heap.objs.size f cdv)) →
      ∃ t, PSs (cxOf (L2.CX P w) P w K mg base N qual (defScope st) f cdv A outer s H E) (defBody st) t ∧ ∀ (B F : Hp) (Q : VK), Ways ⟨K, B, F, R⟩ W Q E → Sx ⟨K, B, F, R⟩ M (env0 N ds) t { nx := fun _ H' => Q .non H', rt := Q }) :
    FnOk P w K mg base (L2.CX P w) (k + 1) f fd ps (spM K pre) := by
  refine Fn.okX S (fun vs H Q E h => ?_) (fun cdv A outer s H vs Q E hr h => ?_)
  · obtain ⟨F, ds, R, M, W, hF, hv, hi, hS, hp, post⟩ := h
    rw [hv.len]
    exact (len ds R M W hp).1
  · obtain ⟨F, ds, R, M, W, hF, hv, hi, hS, hp, post⟩ := h
    obtain ⟨t, h1, h2⟩ := body ds R M W hp cdv A outer s H E hr
    exact ⟨t, h1, enterM hF hv hi hS (h2 (eraL H (M.map (·.1))) F Q (ways_of hi (len ds R M W hp).2 post))⟩
end
/-! ### what such a def's caller gets -/
section
variable {c : Ct} {G G' : Res} {ρ ρ' : En} {ta tb te : TE} {tr : TA} {d e : D} {ds : List D} {pre : PreM} {R A0 M M' B0 : Res} {W : Way} {E : XK} {ts tz tw : TS} {En' : Ends} {i : Nat} {tt : TT}
/-- a value, and other objects behind it -/
def EvM (c : Ct) (G : Res) (ρ : En) (te : TE) (d : D) (G' : Res) : Prop := ∀ F σ H, At c G ρ F σ H → ∀ Q : VK, (∀ v F' H', At c G' ρ F' σ H' → Rp F' v d → Q v H') → te σ H Q
/-- a test -/
def EvTM (c : Ct) (G : Res) (ρ : En) (tt : TT) (b : Bool) (G' : Res) : Prop := ∀ F σ H, At c G ρ F σ H → ∀ Q : Bool → Hp → Prop, (∀ F' H', At c G' ρ F' σ H' → Q b H') → tt σ H Q
/-- it raises -/
def EvX (c : Ct) (G : Res) (ρ : En) (te : TE) (C : Addr) (G' : Res) (E : XK) : Prop := ∀ F σ H, At c G ρ F σ H → (∀ F' H', At c G' ρ F' σ H' → E (.ref C) none H') → ∀ Q : VK, te σ H Q
theorem EvP.toM (h : EvP c G ρ te d) : EvM c G ρ te d G := fun F σ H A Q q => h F σ H A Q fun v F' H' g r => q v F' H' (A.on g) r
theorem EvM.is (h : EvM c G ρ te d G') (k : d = e) : EvM c G ρ te e G' := k ▸ h
/-- the state behind a call -/
theorem At.callM {F H F' H' : Hp} {σ : L2.St} (A : At c (A0 ++ (M ++ B0)) ρ F σ H) (g : GoM (M.map (·.1)) F H F' H') (o : OwA c.K (M.map (·.1)) H F' H' M') : At c (A0 ++ (M' ++ B0)) ρ F' σ H' := by
  have inM : ∀ x ∈ M, x ∈ A0 ++ (M ++ B0) := fun x hx => List.mem_append_right _ (List.mem_append_left _ hx)
  have hB : ∀ p, c.B p ≠ none → p ∉ M.map (·.1) := fun p hp hm => by
    obtain ⟨x, hx, rfl⟩ := List.mem_map.mp hm
    exact hp (A.ow x (inM x hx)).2.2
  have hn := A.nd
  rw [List.map_append, List.map_append, List.nodup_append, List.nodup_append] at hn
  obtain ⟨n1, ⟨n2, n3, n4⟩, n5⟩ := hn
  have old : ∀ x ∈ A0 ++ (M' ++ B0), x ∉ M' → x ∈ A0 ++ (M ++ B0) ∧ x.1 ∉ M.map (·.1) := fun x hx hm => by
    rcases List.mem_append.mp hx with h | h
    · exact ⟨List.mem_append_left _ h, fun q => n5 x.1 (List.mem_map.mpr ⟨x, h, rfl⟩) x.1 (List.mem_append_left _ q) rfl⟩
    · rcases List.mem_append.mp h with h | h
      · exact absurd h hm
      · exact ⟨List.mem_append_right _ (List.mem_append_right _ h), fun q => n4 x.1 q x.1 (List.mem_map.mpr ⟨x, h, rfl⟩) rfl⟩
  have stands : ∀ x ∈ A0 ++ (M ++ B0), H x.1 ≠ none := fun x hx => (A.ow x hx).1.there (A.ns x hx)
  have fresh : ∀ x ∈ M', ∀ y ∈ A0 ++ (M ++ B0), y.1 ∉ M.map (·.1) → x.1 ≠ y.1 := fun x hx y hy hyn e => by
    rcases (o.ow x hx).2.2 with h | h
    · exact hyn (e ▸ h)
    · exact stands y hy (e ▸ h)
  refine ⟨⟨fun p u hu => g.h p u (hB p (by rw [hu]; exact fun z => nomatch z)) (A.go.h p u hu), A.go.f.trans g.f, g.s, fun p hp => (g.n p (Ex.ne A.go.h hp)).trans (A.go.n p hp)⟩, A.sl.mono g.f, fun x hx => ?_, fun x hx => ?_, ?_, fun x hx => ?_⟩
  · rcases A.sh x hx with k | ⟨a, k1, k2⟩
    · exact .inl (k.mono g.f)
    · exact .inr ⟨a, k1, k2.mono g.f (Ex.refl _)⟩
  · by_cases hm : x ∈ M'
    · obtain ⟨a1, a2, a3⟩ := o.ow x hm
      refine ⟨a1, a2, ?_⟩
      rcases a3 with h | h
      · obtain ⟨y, hy, e⟩ := List.mem_map.mp h
        rw [← e]
        exact (A.ow y (inM y hy)).2.2
      · exact fresh_back A.go.h h
    · obtain ⟨a1, a2⟩ := old x hx hm
      obtain ⟨b1, b2, b3⟩ := A.ow x a1
      refine ⟨b1.keep g.f fun u hu => g.h _ _ a2 hu, ?_, b3⟩
      rw [g.n _ (stands x a1)]
      exact b2
  · rw [List.map_append, List.map_append, List.nodup_append, List.nodup_append]
    have mo : ∀ a ∈ M'.map (·.1), ∃ x ∈ M', x.1 = a := fun a ha => by
      obtain ⟨x, hx, e⟩ := List.mem_map.mp ha
      exact ⟨x, hx, e⟩
    refine ⟨n1, ⟨o.nd, n3, fun a ha b hb e => ?_⟩, fun a ha b hb e => ?_⟩
    · obtain ⟨x, hx, rfl⟩ := mo a ha
      obtain ⟨y, hy, rfl⟩ := List.mem_map.mp hb
      exact fresh x hx y (List.mem_append_right _ (List.mem_append_right _ hy)) (fun q => n4 y.1 q y.1 hb rfl) e
    · obtain ⟨y, hy, rfl⟩ := List.mem_map.mp ha
      rcases List.mem_append.mp hb with h | h
      · obtain ⟨x, hx, rfl⟩ := mo b h
        exact fresh x hx y (List.mem_append_left _ hy) (fun q => n5 y.1 ha y.1 (List.mem_append_left _ q) rfl) e.symm
      · exact n5 y.1 ha b (List.mem_append_right _ h) e
  · by_cases hm : x ∈ M'
    · exact o.ns x hm
    · exact A.ns x (old x hx hm).1
theorem At.inM {F H : Hp} {σ : L2.St} (A : At c (A0 ++ (M ++ B0)) ρ F σ H) : InM c.K F H M := by
  have inM : ∀ x ∈ M, x ∈ A0 ++ (M ++ B0) := fun x hx => List.mem_append_right _ (List.mem_append_left _ hx)
  have hn := A.nd
  rw [List.map_append, List.map_append, List.nodup_append, List.nodup_append] at hn
  exact ⟨fun x hx => ⟨(A.ow x (inM x hx)).1, (A.ow x (inM x hx)).2.1⟩, hn.2.1.1, fun x hx => A.ns x (inM x hx)⟩
/-- what is read stands beside what is changed -/
theorem At.readM {F H : Hp} {σ : L2.St} (A : At c (A0 ++ (M ++ B0)) ρ F σ H) {x : Addr × D} (hx : x ∈ c.S ∨ x ∈ A0 ∨ x ∈ B0) : Shl c.K F (eraL H (M.map (·.1))) (.ref x.1) x.2 := by
  have inM : ∀ x ∈ M, x ∈ A0 ++ (M ++ B0) := fun x hx => List.mem_append_right _ (List.mem_append_left _ hx)
  have hn := A.nd
  rw [List.map_append, List.map_append, List.nodup_append, List.nodup_append] at hn
  obtain ⟨n1, ⟨n2, n3, n4⟩, n5⟩ := hn
  have other : ∀ x ∈ A0 ++ (M ++ B0), x.1 ∉ M.map (·.1) → Shl c.K F (eraL H (M.map (·.1))) (.ref x.1) x.2 := fun x hx hm =>
    .inr ⟨_, rfl, (A.ow x hx).1.keep (Ex.refl _) fun o ho => (eraL_out hm).trans ho⟩
  rcases hx with h | h | h
  · rcases A.sh x h with k | ⟨a, k1, k2⟩
    · exact .inl k
    · refine .inr ⟨a, k1, k2.mono (Ex.refl _) fun b u hu => ?_⟩
      have hb : b ∉ M.map (·.1) := fun hm => by
        obtain ⟨y, hy, rfl⟩ := List.mem_map.mp hm
        rw [(A.ow y (inM y hy)).2.2] at hu
        cases hu
      rw [eraL_out hb]
      exact A.go.h b u hu
  · exact other x (List.mem_append_left _ h) fun q => n5 x.1 (List.mem_map.mpr ⟨x, h, rfl⟩) x.1 (List.mem_append_left _ q) rfl
  · exact other x (List.mem_append_right _ (List.mem_append_right _ h)) fun q => n4 x.1 q x.1 (List.mem_map.mpr ⟨x, h, rfl⟩) rfl
theorem c_outM {F H : Hp} {σ : L2.St} {vs : List V} {Q : VK} {E : XK} (A : At c (A0 ++ (M ++ B0)) ρ F σ H) (h : RpA F vs ds) (hR : ∀ x ∈ R, x ∈ c.S ∨ x ∈ A0 ∨ x ∈ B0) (hp : pre ds R M W) (post : PostM c.K (M.map (·.1)) F H W Q E) : spM c.K pre vs H Q E :=
  ⟨F, ds, R, M, W, A.ex, h, A.inM, fun x hx => A.readM (hR x hx), hp, post⟩
def Det (o : Out) (M : Res) : Way := fun o' M' => o' = o ∧ M' = M
theorem post_ret {F H : Hp} {σ : L2.St} {Q : VK} {E : XK} (A : At c (A0 ++ (M ++ B0)) ρ F σ H) (q : ∀ v F' H', At c (A0 ++ (M' ++ B0)) ρ F' σ H' → Rp F' v d → Q v H') : PostM c.K (M.map (·.1)) F H (Det (.ret d) M') Q E :=
  ⟨fun d2 M2 hw v F' H' g o r => by
    obtain ⟨e1, e2⟩ := hw
    cases e1
    subst e2
    exact q v F' H' (A.callM g o) r, fun C M2 hw => (nomatch hw.1)⟩
theorem post_exc {C : Addr} {F H : Hp} {σ : L2.St} {Q : VK} {E : XK} (A : At c (A0 ++ (M ++ B0)) ρ F σ H) (q : ∀ F' H', At c (A0 ++ (M' ++ B0)) ρ F' σ H' → E (.ref C) none H') : PostM c.K (M.map (·.1)) F H (Det (.exc C) M') Q E :=
  ⟨fun d2 M2 hw => (nomatch hw.1), fun C2 M2 hw F' H' g o => by
    obtain ⟨e1, e2⟩ := hw
    cases e1
    subst e2
    exact q F' H' (A.callM g o)⟩
end
end Dl

namespace Dl
open PySem PySem.Spec PyProof.Rows L2 Evl Xb
/-! ### attributes -/
theorem lk_none {f : Str} : ∀ {fs : List (Str × V)}, f ∉ fs.map (·.1) → fs.lookup f = none
  | [], _ => rfl
  | (k, v) :: fs, h => by
    have h1 : (f == k) = false := by
      rw [beq_eq_false_iff_ne]
      exact fun e => h (by simp [e])
    rw [List.lookup_cons, h1]
    exact lk_none fun q => h (List.mem_cons_of_mem _ q)
theorem lk_some {F : Hp} {f : Str} {d : D} : ∀ {fs : List (Str × V)} {ks : List Str} {ds : List D}, fs.map (·.1) = ks → RpA F (fs.map (·.2)) ds → (ks.zip ds).lookup f = some d → ∃ v, fs.lookup f = some v ∧ Rp F v d
  | [], _, _, h, r, q => by subst h; simp at q
  | (k, v) :: fs, _, _, h, r, q => by
    subst h
    cases r with
    | @cons _ e _ ds h1 r1 =>
      rw [List.map_cons, List.zip_cons_cons, List.lookup_cons] at q
      rw [List.lookup_cons]
      by_cases hk : (f == k) = true
      · rw [hk] at q ⊢
        cases q
        exact ⟨v, rfl, h1⟩
      · have hk' : (f == k) = false := by simpa using hk
        simp only [hk'] at q ⊢
        exact lk_some rfl r1 q
theorem putF_new {f : Str} {y : V} : ∀ {fs : List (Str × V)}, f ∉ fs.map (·.1) → putF f y fs = fs ++ [(f, y)]
  | [], _ => rfl
  | (k, v) :: fs, h => by
    have h1 : ¬ k = f := fun e => h (by simp [e])
    show (if k = f then _ else (k, v) :: putF f y fs) = _
    rw [if_neg h1, putF_new fun q => h (List.mem_cons_of_mem _ q)]
    rfl
section
variable {c : Ct} {G G' : Res} {ρ ρ' : En} {ta tb te tv tc : TE} {tr : TA} {d e : D} {ds es : List D} {pre : Pre} {prm : PreM} {R A0 M M' B0 : Res} {W : Way} {E E1 : XK} {ts tz tw : TS} {En' : Ends} {i : Nat} {tt : TT} {C Cx : Addr} {ks : List Str} {f m : Str} {g : TG} {p : Addr}
theorem p_fld (h : EvP c G ρ ta (.ins C ks ds)) (cl : Cls c.K C) (na : NoAttr c.K C f) (hl : (ks.zip ds).lookup f = some d) : EvP c G ρ (tFld c.K ta f) d := fun F σ H A Q q => h F σ H A _ fun v F1 H1 g1 r1 => by
  cases r1 with
  | @ins a _ dx fs _ _ h1 h2 h3 =>
    obtain ⟨u, hu, ru⟩ := lk_some h2 h3 hl
    exact ⟨a, C, dx, fs, u, rfl, g1.s _ _ h1, cl, na, hu, q u F1 H1 g1 ru⟩
theorem ins_at {F H : Hp} {v : V} (ex : Ex F H) (r : Rp F v (.ins C ks ds)) (hm : m ∉ ks) : ∃ a dx fs, v = .ref a ∧ H a = some (.ins C dx fs) ∧ fs.lookup m = none := by
  cases r with
  | @ins a _ dx fs _ _ h1 h2 h3 => exact ⟨a, dx, fs, rfl, ex _ _ h1, lk_none (by rw [h2]; exact hm)⟩
theorem p_meth (h : EvP c G ρ ta (.ins C ks ds)) (hm : m ∉ ks) (ha : EvA c G ρ tr es) (hR : ∀ x ∈ R, x ∈ c.S ∨ x ∈ G) (hp : pre (.ins C ks ds :: es) R (.ret d)) : EvP c G ρ (tMeth C m (spD c.K pre) [] E ta tr) d := fun F σ H A Q q => h F σ H A _ fun v F1 H1 g1 r1 => by
  obtain ⟨a, dx, fs, rfl, h1, h2⟩ := ins_at g1.s r1 hm
  refine ⟨a, dx, fs, rfl, h1, h2, ha F1 σ H1 (A.on g1) _ fun vs F2 H2 g2 r2 => ?_⟩
  show spD c.K pre (V.ref a :: (vs ++ [])) H2 Q E
  rw [List.append_nil]
  exact c_out ((A.on g1).on g2) (.cons (r1.mono g2.f) r2) hR hp fun v F' H' g r => q v F' H' ((g1.trans g2).trans g) r
theorem n_meth (h : EvP c G ρ ta (.ins C ks ds)) (hm : m ∉ ks) (ha : EvA c G ρ tr es) (hR : ∀ x ∈ R, x ∈ c.S ∨ x ∈ G) (hp : pre (.ins C ks ds :: es) R (.new d)) (hs : ∀ ns, d ≠ .scr ns) : EvN c G ρ (tMeth C m (spD c.K pre) [] E ta tr) d := fun F σ H A Q q => h F σ H A _ fun v F1 H1 g1 r1 => by
  obtain ⟨a, dx, fs, rfl, h1, h2⟩ := ins_at g1.s r1 hm
  refine ⟨a, dx, fs, rfl, h1, h2, ha F1 σ H1 (A.on g1) _ fun vs F2 H2 g2 r2 => ?_⟩
  show spD c.K pre (V.ref a :: (vs ++ [])) H2 Q E
  rw [List.append_nil]
  exact c_out ((A.on g1).on g2) (.cons (r1.mono g2.f) r2) hR hp fun p F' H' g hp' hf ho => q p F' H' ((g1.trans g2).trans g) (fresh_back (g1.trans g2).h hp') hf ho hs
theorem x_meth (h : EvP c G ρ ta (.ins C ks ds)) (hm : m ∉ ks) (ha : EvA c G ρ tr es) (hR : ∀ x ∈ R, x ∈ c.S ∨ x ∈ G) (hp : pre (.ins C ks ds :: es) R (.exc Cx)) : EvX c G ρ (tMeth C m (spD c.K pre) [] E ta tr) Cx G E := fun F σ H A hE Q => h F σ H A _ fun v F1 H1 g1 r1 => by
  obtain ⟨a, dx, fs, rfl, h1, h2⟩ := ins_at g1.s r1 hm
  refine ⟨a, dx, fs, rfl, h1, h2, ha F1 σ H1 (A.on g1) _ fun vs F2 H2 g2 r2 => ?_⟩
  show spD c.K pre (V.ref a :: (vs ++ [])) H2 Q E
  rw [List.append_nil]
  exact c_out ((A.on g1).on g2) (.cons (r1.mono g2.f) r2) hR hp fun F' H' g => hE F' H' (((A.on g1).on g2).on g)
theorem x_call (h : EvA c G ρ tr es) (hR : ∀ x ∈ R, x ∈ c.S ∨ x ∈ G) (hp : pre es R (.exc Cx)) : EvX c G ρ (tCall (spD c.K pre) [] E tr) Cx G E := fun F σ H A hE Q => h F σ H A _ fun vs F2 H2 g2 r2 => by
  show spD c.K pre (vs ++ []) H2 Q E
  rw [List.append_nil]
  exact c_out (A.on g2) r2 hR hp fun F' H' g => hE F' H' ((A.on g2).on g)
/-! ### calls that change -/
theorem m_call (hG : G = A0 ++ (M ++ B0)) (hG' : G' = A0 ++ (M' ++ B0)) (h : EvA c G ρ tr es) (hR : ∀ x ∈ R, x ∈ c.S ∨ x ∈ A0 ∨ x ∈ B0) (hp : prm es R M (Det (.ret d) M')) : EvM c G ρ (tCall (spM c.K prm) [] E tr) d G' := fun F σ H A Q q => h F σ H A _ fun vs F1 H1 g1 r1 => by
  subst hG hG'
  show spM c.K prm (vs ++ []) H1 Q E
  rw [List.append_nil]
  exact c_outM (A.on g1) r1 hR hp (post_ret (A.on g1) q)
theorem x_callM (hG : G = A0 ++ (M ++ B0)) (hG' : G' = A0 ++ (M' ++ B0)) (h : EvA c G ρ tr es) (hR : ∀ x ∈ R, x ∈ c.S ∨ x ∈ A0 ∨ x ∈ B0) (hp : prm es R M (Det (.exc Cx) M')) : EvX c G ρ (tCall (spM c.K prm) [] E tr) Cx G' E := fun F σ H A hE Q => h F σ H A _ fun vs F1 H1 g1 r1 => by
  subst hG hG'
  show spM c.K prm (vs ++ []) H1 Q E
  rw [List.append_nil]
  exact c_outM (A.on g1) r1 hR hp (post_exc (A.on g1) hE)
theorem m_meth (hG : G = A0 ++ (M ++ B0)) (hG' : G' = A0 ++ (M' ++ B0)) (h : EvP c G ρ ta (.ins C ks ds)) (hm : m ∉ ks) (ha : EvA c G ρ tr es) (hR : ∀ x ∈ R, x ∈ c.S ∨ x ∈ A0 ∨ x ∈ B0) (hp : prm (.ins C ks ds :: es) R M (Det (.ret d) M')) : EvM c G ρ (tMeth C m (spM c.K prm) [] E ta tr) d G' := fun F σ H A Q q => h F σ H A _ fun v F1 H1 g1 r1 => by
  subst hG hG'
  obtain ⟨a, dx, fs, rfl, h1, h2⟩ := ins_at g1.s r1 hm
  refine ⟨a, dx, fs, rfl, h1, h2, ha F1 σ H1 (A.on g1) _ fun vs F2 H2 g2 r2 => ?_⟩
  show spM c.K prm (V.ref a :: (vs ++ [])) H2 Q E
  rw [List.append_nil]
  exact c_outM ((A.on g1).on g2) (.cons (r1.mono g2.f) r2) hR hp (post_ret ((A.on g1).on g2) q)
theorem x_methM (hG : G = A0 ++ (M ++ B0)) (hG' : G' = A0 ++ (M' ++ B0)) (h : EvP c G ρ ta (.ins C ks ds)) (hm : m ∉ ks) (ha : EvA c G ρ tr es) (hR : ∀ x ∈ R, x ∈ c.S ∨ x ∈ A0 ∨ x ∈ B0) (hp : prm (.ins C ks ds :: es) R M (Det (.exc Cx) M')) : EvX c G ρ (tMeth C m (spM c.K prm) [] E ta tr) Cx G' E := fun F σ H A hE Q => h F σ H A _ fun v F1 H1 g1 r1 => by
  subst hG hG'
  obtain ⟨a, dx, fs, rfl, h1, h2⟩ := ins_at g1.s r1 hm
  refine ⟨a, dx, fs, rfl, h1, h2, ha F1 σ H1 (A.on g1) _ fun vs F2 H2 g2 r2 => ?_⟩
  show spM c.K prm (V.ref a :: (vs ++ [])) H2 Q E
  rw [List.append_nil]
  exact c_outM ((A.on g1).on g2) (.cons (r1.mono g2.f) r2) hR hp (post_exc ((A.on g1).on g2) hE)
/-! ### expressions about such values -/
theorem m_ixL {j : Int} (ha : EvM c G ρ ta (.lst ds) G') (hb : EvP c G' ρ tb (.int j)) (h : atI ds j = some d) : EvM c G ρ (tOp (rIxL c.K) ta tb) d G' := fun F σ H A Q q => ha F σ H A _ fun v F1 H1 A1 r1 => hb F1 σ H1 A1 _ fun w F2 H2 g2 r2 => by
  cases r2
  cases r1 with
  | lst h1 h2 =>
    obtain ⟨v, hv, rv⟩ := atI_rp h2 h
    exact ⟨_, _, j, v, rfl, rfl, sq_of (g2.h _ _ (A1.ex _ _ h1)), hv, q _ F2 H2 (A1.on g2) (rv.mono g2.f)⟩
theorem m_eqD {n k : Nat} (ha : EvM c G ρ ta d G') (hb : EvS c G' ρ tb e) (hd : Pl n d) (he : Pl k e) (hn : n ≤ 64) (hk : k ≤ 64) : EvM c G ρ (tOp (rEqD c.K) ta tb) (.bl (D.eq d e)) G' := fun F σ H A Q q => ha F σ H A _ fun v F1 H1 A1 r1 => hb F1 σ H1 A1 _ fun w F2 H2 g2 r2 =>
  ⟨_, _, pl_dp g2.s n hd (r1.mono g2.f), pl_shl g2.s he r2, pl_shaped hn hd, pl_shaped hk he, q _ F2 H2 (A1.on g2) (.bl _)⟩
theorem tm_test {b : Bool} (h : EvM c G ρ te (.bl b) G') : EvTM c G ρ (tTest te) b G' := fun F σ H A Q q => h F σ H A _ fun v F1 H1 g1 r1 => by cases r1; exact ⟨b, rfl, q F1 H1 g1⟩
theorem tm_B {b : Bool} (h : EvM c G ρ te (.bl b) G') : EvTM c G ρ (tB te) b G' := fun F σ H A Q q => h F σ H A _ fun v F1 H1 g1 r1 => by cases r1; exact ⟨b, rfl, q F1 H1 g1⟩
theorem tm_not {b : Bool} (h : EvTM c G ρ tt b G') : EvTM c G ρ (tNot tt) (!b) G' := fun F σ H A Q q => h F σ H A _ fun F1 H1 A1 => q F1 H1 A1
/-! ### statements -/
theorem sx_asgM (h : EvM c G ρ te d G') (q : Sx c G' (ρ.set i (some d)) tz En') : Sx c G ρ (tSeq (tAsg te (gName i)) tz) En' := fun F σ H A => h F σ H A _ fun v F1 H1 A1 r1 => q F1 _ H1 (A1.set r1)
theorem sx_dropM (h : EvM c G ρ te d G') (q : Sx c G' ρ tz En') : Sx c G ρ (tSeq (tDrop te) tz) En' := fun F σ H A => h F σ H A _ fun v F1 H1 A1 r1 => q F1 σ H1 A1
theorem sx_retM (h : EvM c G ρ te d G') (q : ∀ v F' H', AtE c G' F' H' → Rp F' v d → En'.rt v H') : Sx c G ρ (tRet te) En' := fun F σ H A => h F σ H A _ fun v F1 H1 A1 r1 => q v F1 H1 A1.toE r1
theorem sx_retP (h : EvP c G ρ te d) (q : ∀ v F' H', AtE c G F' H' → Rp F' v d → En'.rt v H') : Sx c G ρ (tRet te) En' := sx_retM h.toM q
theorem sx_fall (q : ∀ σ F' H', AtE c G F' H' → En'.nx σ H') : Sx c G ρ tNext En' := fun F σ H A => q σ F H A.toE
theorem sx_ifM {b : Bool} (h : EvTM c G ρ tt b G') (h1 : b = true → Sx c G' ρ ts { En' with nx := tz En' }) (h2 : b = false → Sx c G' ρ tw { En' with nx := tz En' }) : Sx c G ρ (tSeq (tIfS tt ts tw) tz) En' := fun F σ H A =>
  h F σ H A _ fun F1 H1 A1 => by
    cases b with
    | true =>
      show ts _ σ H1
      exact h1 rfl F1 σ H1 A1
    | false =>
      show tw _ σ H1
      exact h2 rfl F1 σ H1 A1
/-! it raises -/
theorem sx_asgX (h : EvX c G ρ te Cx G' E1) (q : ∀ F' H', AtE c G' F' H' → E1 (.ref Cx) none H') : Sx c G ρ (tSeq (tAsg te g) tz) En' := fun F σ H A => h F σ H A (fun F' H' A' => q F' H' A'.toE) _
theorem sx_dropX (h : EvX c G ρ te Cx G' E1) (q : ∀ F' H', AtE c G' F' H' → E1 (.ref Cx) none H') : Sx c G ρ (tSeq (tDrop te) tz) En' := fun F σ H A => h F σ H A (fun F' H' A' => q F' H' A'.toE) _
theorem sx_retX (h : EvX c G ρ te Cx G' E1) (q : ∀ F' H', AtE c G' F' H' → E1 (.ref Cx) none H') : Sx c G ρ (tRet te) En' := fun F σ H A => h F σ H A (fun F' H' A' => q F' H' A'.toE) _
/-- .. told at a state -/
theorem sx_retXA (h : EvX c G ρ te Cx G' E1) (q : ∀ F' σ H', At c G' ρ F' σ H' → E1 (.ref Cx) none H') : Sx c G ρ (tRet te) En' := fun F σ H A => h F σ H A (fun F' H' A' => q F' σ H' A') _
theorem x_op {r : R2} (h : EvX c G ρ ta Cx G' E1) : EvX c G ρ (tOp r ta tb) Cx G' E1 := fun F σ H A hE Q => h F σ H A hE _
/-- raise X('..') -/
def tRaiseD (W : WX) (C : Addr) : TS := fun _ σ H => W (.ref C) none σ H
theorem sx_raise {W : XK} (q : ∀ F' H', AtE c G F' H' → W (.ref C) none H') : Sx c G ρ (tRaiseD (fun cls d _ H => W cls d H) C) En' := fun F σ H A => q F H A.toE
/-! ### a new instance: its attributes -/
theorem sx_fldP (k : Nat) (hv : EvP c G ρ tv d) (ha : EvP c G ρ ta (.ref p)) (hk : G[k]? = some (p, .ins C ks ds)) (cl : Cls c.K C) (na : NoAttr c.K C f) (hf : f ∉ ks) (hz : ks.length < 1000) (q : Sx c (G.set k (p, .ins C (ks ++ [f]) (ds ++ [d]))) ρ tz En') :
    Sx c G ρ (tSeq (sFld c.K ta tv f) tz) En' := fun F σ H A => hv F σ H A _ fun v F1 H1 g1 r1 => ha F1 σ H1 (A.on g1) _ fun w F2 H2 g2 r2 => by
  cases r2
  have A2 := (A.on g1).on g2
  obtain ⟨dx, fs, h1, h2, h3⟩ := (A2.ow _ (List.mem_of_getElem? hk)).1
  have hl : fs.length < 1000 := by
    have := congrArg List.length h2
    rw [List.length_map] at this
    omega
  refine ⟨p, C, dx, fs, rfl, h1, cl, na, hl, ?_⟩
  rw [putF_new (by rw [h2]; exact hf)]
  exact q F2 σ _ (A2.upd hk ⟨dx, _, upd_same, by rw [List.map_append, h2]; rfl, by rw [List.map_append]; exact h3.snoc (r1.mono g2.f)⟩ fun _ e => nomatch e)
theorem At.ownAt {F H F' H' : Hp} {σ : L2.St} (A : At c G ρ F σ H) (g1 : Go F H F' H') (hp : H p = none) (hf : F' p = none) (ho : Ow c.K F' H' p d) (hs : ∀ ns, d ≠ .scr ns) : At c ((p, d) :: G) ρ F' σ H' := by
  have A1 := A.on g1
  refine ⟨A1.go, A1.sl, A1.sh, fun x hx => ?_, ?_, fun x hx => ?_⟩
  · rcases List.mem_cons.mp hx with rfl | hx
    · exact ⟨ho, hf, fresh_back A.go.h hp⟩
    · exact A1.ow x hx
  · rw [List.map_cons, List.nodup_cons]
    refine ⟨fun hm => ?_, A1.nd⟩
    obtain ⟨x, hx, e⟩ := List.mem_map.mp hm
    exact (A.ow x hx).1.there (A.ns x hx) (by rw [e]; exact hp)
  · rcases List.mem_cons.mp hx with rfl | hx
    · exact hs
    · exact A1.ns x hx
theorem sx_fldN (k : Nat) (hv : EvN c G ρ tv d) (ha : EvP c G ρ ta (.ref p)) (hk : G[k]? = some (p, .ins C ks ds)) (cl : Cls c.K C) (na : NoAttr c.K C f) (hf : f ∉ ks) (hz : ks.length < 1000) (q : ∀ a, Sx c ((a, d) :: G.set k (p, .ins C (ks ++ [f]) (ds ++ [.ref a]))) ρ tz En') :
    Sx c G ρ (tSeq (sFld c.K ta tv f) tz) En' := fun F σ H A => hv F σ H A _ fun a F1 H1 g1 hp1 hf1 ho hs => by
  have A1 : At c ((a, d) :: G) ρ F1 σ H1 := A.ownAt g1 hp1 hf1 ho hs
  have ha1 := ha F1 σ H1 (A.on g1)
  refine ha1 _ fun w F2 H2 g2 r2 => ?_
  cases r2
  have A2 := A1.on g2
  have hk2 : ((a, d) :: G)[k + 1]? = some (p, .ins C ks ds) := by simpa using hk
  obtain ⟨dx, fs, h1, h2, h3⟩ := (A2.ow _ (List.mem_of_getElem? hk2)).1
  have hl : fs.length < 1000 := by
    have := congrArg List.length h2
    rw [List.length_map] at this
    omega
  refine ⟨p, C, dx, fs, rfl, h1, cl, na, hl, ?_⟩
  rw [putF_new (by rw [h2]; exact hf)]
  have := q a F2 σ _ (A2.upd (k := k + 1) (o := .ins C dx (fs ++ [(f, .ref a)])) hk2 ⟨dx, fs ++ [(f, .ref a)], upd_same, by rw [List.map_append, h2]; rfl, by rw [List.map_append]; exact h3.snoc (.ref a)⟩ fun _ e => nomatch e)
  exact this
/-- x = C(..) -/
theorem sx_make {W : Addr → Way} (ha : EvA c G ρ tr es) (hR : ∀ x ∈ R, x ∈ c.S ∨ x ∈ G) (hp : ∀ x, prm (.ref x :: es) R [(x, .ins C [] [])] (W x)) (hx : ∀ x X M', ¬ W x (.exc X) M') (hn : ∀ x d M', W x (.ret d) M' → d = .non)
    (q : ∀ x M', W x (.ret .non) M' → Sx c (M' ++ G) (ρ.set i (some (.ref x))) tz En') : Sx c G ρ (tSeq (tAsg (tMake C (spM c.K prm) [] E tr) (gName i)) tz) En' := fun F σ H A => ha F σ H A _ fun vs F1 H1 g1 r1 x dx nx ndx ne => by
  show spM c.K prm (V.ref x :: (vs ++ [])) _ _ E
  rw [List.append_nil]
  have A1 := A.on g1
  have nx2 : upd H1 dx (.own x) x = none := by rw [upd_ne ne.symm]; exact nx
  have g2 : Go F1 H1 F1 (upd (upd H1 dx (.own x)) x (.ins C dx [])) := (Go.newH A1.ex ndx).trans (Go.newH (A1.ex.trans (Ex.new ndx)) nx2)
  have A2 : At c ((x, .ins C [] []) :: G) ρ F1 σ (upd (upd H1 dx (.own x)) x (.ins C dx [])) := A1.ownAt g2 nx (fresh_back A1.ex nx) ⟨dx, [], upd_same, rfl, .nil⟩ fun _ e => nomatch e
  refine c_outM (A0 := []) (M := [(x, .ins C [] [])]) (B0 := G) (W := W x) A2 (.cons (.ref x) r1) (fun y hy => (hR y hy).elim .inl fun z => .inr (.inr z)) (hp x) ⟨fun d M' hw v F' H' g o r => ?_, fun X M' hw => absurd hw (hx x X M')⟩
  cases hn x d M' hw
  cases r
  have A3 := A2.callM (A0 := []) (M := [(x, .ins C [] [])]) (B0 := G) g o
  exact ⟨rfl, q x M' hw F' _ H' (At.set A3 (.ref x))⟩
end
end Dl

namespace Dl
open PySem PySem.Spec PyProof.Rows L2 Evl Xb
/-! ### errors of the program's own classes -/
theorem exm_me {K : PySem.W.Frag} {S : Addr} (h1 : PySem.W.subIn K (.ref S) (.type "BaseException") = some true) (h2 : PySem.W.isClsIn K S = true) (h3 : PySem.W.typeIn K (.ref S) = some (.type "type")) (h4 : PySem.W.subIn K (.ref S) (.ref S) = some true) : PySem.W.exmOne K (.ref S) (.ref S) = some true := by
  have k2 : (PySem.W.clsIn K S).isSome = true := h2
  simp only [PySem.W.exmOne, PySem.W.kitCls, h1, k2, h3, h4, Bool.true_and]
  rfl
theorem ps_raiseD {X : Cx} {W : WX} {C : Addr} {e : Expr} {pos : Pos} (hc : X.calm = true) (tk : Takes X W) (he : PMk X e (fun _ H Q => Q (.ref C) none H)) : PS X (.Raise (some e) none pos) (tRaiseD W C) := ps_raise hc tk he
theorem pass_out {X : Cx} {E : XK} (tk : Takes X (fun cls d _ H => E cls d H)) : Passes (L2.CX X.prog X.w) X E := passes_call tk fun _ _ _ _ h => h
theorem pass_try {X : Cx} {W : WX} (tk : Takes X W) : Passes (L2.CX X.prog X.w) X (fun cls d H => ∀ σ, W cls d σ H) := passes_call tk fun _ _ σ _ h => h σ
section
variable {c : Ct} {G : Res} {ρ : En} {tb : WX → TS} {ts tz : TS} {tsu : Addr → Value → Option Addr → TS} {Wout : WX} {E : Ends} {cv : Value} {K : PySem.W.Frag}
theorem sx_seq (h : Sx c G ρ ts { E with nx := tz E }) : Sx c G ρ (tSeq ts tz) E := h
theorem sx_try (h : Sx c G ρ (tb (wOnly K cv tsu Wout E)) E) : Sx c G ρ (fun D σ H => tb (wOnly K cv tsu Wout D) D σ H) E := h
/-- the clause takes it -/
theorem w_only {X : Addr} {D : Ends} {σ : L2.St} {H : Hp} (e : PySem.W.exmOne K (.ref X) cv = some true) (q : ∀ a, H a = none → tsu a (.ref X) none D σ H) : wOnly K cv tsu Wout D (.ref X) none σ H :=
  ⟨true, e, fun _ => q, fun z => nomatch z⟩
end
/-! ### xs[lo:hi] = ys -/
def sSlL (to : TE) (tl th : TO) (tv : TE) : TS := fun D σ H => tv σ H fun v H1 => to σ H1 fun o H2 => tl σ H2 fun lo H3 => th σ H3 fun hi H4 => ∃ (l b : Addr) (xs ys : List V) (a z : Int), o = .ref l ∧ v = .ref b ∧ lo = some a ∧ hi = some z ∧
  H4 l = some (.lst xs) ∧ H4 b = some (.lst ys) ∧ l ≠ b ∧ 0 ≤ a ∧ a ≤ z ∧ z ≤ xs.length ∧ xs.length + ys.length ≤ sizeLine ∧ D.nx σ (upd H4 l (.lst (xs.take a.toNat ++ ys ++ xs.drop z.toNat)))
theorem part_int {u : Value} {i : Int} (h : IsPart u (some i)) : RelV (.int i) u := by
  cases h
  exact ⟨_, rfl⟩
theorem ps_setSl {X : Cx} {o value : Expr} {lo hi : Option Expr} {p2 pos' pos : Pos} {to tv : TE} {tl th : TO} (ho : PE X o to) (hl : PO X lo tl) (hu : PO X hi th) (hv : PE X value tv)
    (hs : swapsWith value (some (.Subscript o (.Slice lo hi none p2) pos')) pos.line X.env = pure false := by rfl) : PS X (.Assign [.Subscript o (.Slice lo hi none p2) pos'] value pos) (sSlL to tl th tv) := by
  refine ⟨fun pins s σ H D I h => ?_⟩
  refine wpAny_Assign_Subscript (thn (hv.run pins s σ H _ I h) fun r s1 ⟨v, H1, I1, rv, q1⟩ => thn (ho.run pins s1 σ H1 _ I1 q1) fun u s2 ⟨x, H2, I2, rx, q2⟩ => ?_) hs
  refine wpAny_Slice (thn (hl.run pins s2 σ H2 _ I2 q2) fun vl s3 ⟨lo, H3, I3, pl, q3⟩ => thn (hu.run pins s3 σ H3 _ I3 q3) fun vu s4 ⟨hi, H4, I4, pu, q4⟩ => ?_)
  rw [evalPart_none]
  refine wpAny_pure ?_
  obtain ⟨l, b, xs, ys, a, z, rfl, rfl, rfl, rfl, h1, h2, h3, h4, h5, h6, h7, q5⟩ := q4
  have I5 : Inv X pins σ H4 { s4 with heap := s4.heap.push { cls := .type "slice", data := .fields #[vl, vu, .none] } } := I4.kept (t' := s4.toks) fun b ob q => Heap.get?_push_of_some _ q
  obtain rfl : u = Value.ref l := rx
  obtain rfl : r = Value.ref b := rv
  exact set_slice I5 h1 h2 h3 (Heap.IsSliceOf.new ..) (part_int pl) (part_int pu) h4 h5 h6 h7 fun s' I6 => ⟨σ, _, I6, q5⟩
section
variable {c : Ct} {G : Res} {ρ : En} {ta te tv : TE} {tl th : TO} {tz : TS} {E : Ends} {p : Addr} {ds es : List D} {a z : Int}
/-- an own list -/
theorem sx_slL (k : Nat) (hv : EvS c G ρ tv (.lst es)) (hne : ∀ F σ H v, At c G ρ F σ H → Shl c.K F H v (.lst es) → v ≠ .ref p) (ha : EvP c G ρ ta (.ref p)) (hk : G[k]? = some (p, .lst ds)) (h1 : EvO c G ρ tl (some a)) (h2 : EvO c G ρ th (some z)) (h0 : 0 ≤ a) (haz : a ≤ z) (hz : z ≤ (ds.length : Int)) (hs : ds.length + es.length ≤ 100000)
    (q : Sx c (G.set k (p, .lst (ds.take a.toNat ++ es ++ ds.drop z.toNat))) ρ tz E) : Sx c G ρ (tSeq (sSlL ta tl th tv) tz) E := fun F σ H A => by
  have A0 := A
  refine hv F σ H A _ fun v F1 H1 g1 r1 => ha F1 σ H1 (A.on g1) _ fun w F2 H2 g2 r2 => h1 F2 σ H2 ((A.on g1).on g2) _ fun F3 H3 g3 => h2 F3 σ H3 (((A.on g1).on g2).on g3) _ fun F4 H4 g4 => ?_
  cases r2
  have A4 := (((A.on g1).on g2).on g3).on g4
  have g := (g2.trans g3).trans g4
  have hnp := hne F1 σ H1 v (A.on g1) r1
  obtain ⟨b, ys, rfl, hb, rb⟩ := r1.lst g1.s
  have hb4 := g.h _ _ hb
  obtain ⟨xs, hx, rx⟩ := (A4.ow _ (List.mem_of_getElem? hk)).1
  refine ⟨p, b, xs, ys, a, z, rfl, rfl, rfl, rfl, hx, hb4, fun e => hnp (by rw [e]), h0, haz, by rw [rx.len]; exact hz, sz_of (by rw [rx.len, rb.len]; exact hs), ?_⟩
  exact q F4 σ _ (A4.upd hk ⟨_, upd_same, ((rx.take _).app (rb.mono g.f)).app (rx.drop _)⟩ fun _ e => nomatch e)
/-- a list in F is no own object -/
theorem ne_own {F H : Hp} {σ : L2.St} {v : V} {d e : D} (A : At c G ρ F σ H) (r : Rp F v (.lst es)) (m : (p, e) ∈ G) : v ≠ .ref p := by
  cases r with
  | lst h1 h2 =>
    intro q
    cases q
    rw [(A.ow _ m).2.1] at h1
    cases h1
theorem sx_slP (k : Nat) (hv : EvP c G ρ tv (.lst es)) (ha : EvP c G ρ ta (.ref p)) (hk : G[k]? = some (p, .lst ds)) (h1 : EvO c G ρ tl (some a)) (h2 : EvO c G ρ th (some z)) (h0 : 0 ≤ a) (haz : a ≤ z) (hz : z ≤ (ds.length : Int)) (hs : ds.length + es.length ≤ 100000)
    (q : Sx c (G.set k (p, .lst (ds.take a.toNat ++ es ++ ds.drop z.toNat))) ρ tz E) : Sx c G ρ (tSeq (sSlL ta tl th tv) tz) E := fun F σ H A => by
  refine hv F σ H A _ fun v F1 H1 g1 r1 => ha F1 σ H1 (A.on g1) _ fun w F2 H2 g2 r2 => h1 F2 σ H2 ((A.on g1).on g2) _ fun F3 H3 g3 => h2 F3 σ H3 (((A.on g1).on g2).on g3) _ fun F4 H4 g4 => ?_
  cases r2
  have A4 := (((A.on g1).on g2).on g3).on g4
  have g := (g2.trans g3).trans g4
  have hnp := ne_own (d := .non) (A.on g1) r1 (List.mem_of_getElem? hk)
  cases r1 with
  | @lst b ys _ hb rb =>
    obtain ⟨xs, hx, rx⟩ := (A4.ow _ (List.mem_of_getElem? hk)).1
    refine ⟨p, b, xs, ys, a, z, rfl, rfl, rfl, rfl, hx, g.h _ _ (g1.s _ _ hb), fun e => hnp (by rw [e]), h0, haz, by rw [rx.len]; exact hz, sz_of (by rw [rx.len, rb.len]; exact hs), ?_⟩
    exact q F4 σ _ (A4.upd hk ⟨_, upd_same, ((rx.take _).app (rb.mono g.f)).app (rx.drop _)⟩ fun _ e => nomatch e)
end
end Dl

namespace Dl
open PySem PySem.Spec PyProof.Rows L2 Evl Xb
/-! ### tables of names -/
abbrev KD := List (Str × D)
def kdD (l : KD) : D := .dK (l.map fun e => .inr e.1) (l.map fun e => e.2)
def dropA {α β : Type} [DecidableEq α] (l : List (α × β)) (k : α) : List (α × β) := l.filter fun e => decide (e.1 ≠ k)
theorem kd_val {F : Hp} {s : Str} : ∀ {kvs : List (Key × V)} {l : KD}, kvs.map (·.1) = l.map (fun e => (.inr e.1 : Key)) → RpA F (kvs.map (·.2)) (l.map fun e => e.2) →
    (valA l s = none ∧ valV kvs (.inr s) = none) ∨ ∃ d v, valA l s = some d ∧ valV kvs (.inr s) = some v ∧ Rp F v d
  | [], [], _, _ => .inl ⟨rfl, rfl⟩
  | [], _ :: _, h, _ => by simp at h
  | _ :: _, [], h, _ => by simp at h
  | (k, v) :: kvs, (x, d) :: l, h, r => by
    rw [List.map_cons, List.map_cons] at h
    obtain ⟨h1, h2⟩ := List.cons.inj h
    have h1' : k = .inr x := h1
    subst h1'
    cases r with
    | cons r1 r2 =>
      rw [valA_cons]
      by_cases q : x = s
      · subst q
        rw [if_pos rfl, valV_pos rfl]
        exact .inr ⟨d, v, rfl, rfl, r1⟩
      · rw [if_neg q, valV_neg (fun e => q (Sum.inr.inj e))]
        exact kd_val h2 r2
theorem kd_keysIf {s : Str} {v : V} : ∀ {kvs : List (Key × V)}, (kvs.map fun kv => if kv.1 = (.inr s : Key) then (kv.1, v) else kv).map (·.1) = kvs.map (·.1)
  | [] => rfl
  | kv :: kvs => by
    rw [List.map_cons, List.map_cons, List.map_cons, kd_keysIf]
    congr 1
    split <;> rfl
theorem kd_valsIf {F : Hp} {s : Str} {v : V} {d : D} (rv : Rp F v d) : ∀ {kvs : List (Key × V)} {l : KD}, kvs.map (·.1) = l.map (fun e => (.inr e.1 : Key)) → RpA F (kvs.map (·.2)) (l.map fun e => e.2) →
    RpA F ((kvs.map fun kv => if kv.1 = (.inr s : Key) then (kv.1, v) else kv).map (·.2)) ((l.map fun e => if e.1 = s then (e.1, d) else e).map fun e => e.2)
  | [], [], _, _ => .nil
  | [], _ :: _, h, _ => by simp at h
  | _ :: _, [], h, _ => by simp at h
  | (k, u) :: kvs, (x, e) :: l, h, r => by
    rw [List.map_cons, List.map_cons] at h
    obtain ⟨h1, h2⟩ := List.cons.inj h
    have h1' : k = .inr x := h1
    subst h1'
    cases r with
    | cons r1 r2 =>
      have ih := kd_valsIf (s := s) rv h2 r2
      rw [List.map_cons, List.map_cons, List.map_cons, List.map_cons]
      refine .cons ?_ ih
      by_cases q : x = s
      · subst q; simp; exact rv
      · have q' : ¬ (Sum.inr x : Key) = .inr s := fun z => q (Sum.inr.inj z)
        simp [q, q']
        exact r1
theorem kd_put {F : Hp} {s : Str} {v : V} {d : D} {kvs : List (Key × V)} {l : KD} (rv : Rp F v d) (h : kvs.map (·.1) = l.map (fun e => (.inr e.1 : Key))) (r : RpA F (kvs.map (·.2)) (l.map fun e => e.2)) :
    (putK kvs (.inr s) v).map (·.1) = (putA l s d).map (fun e => (.inr e.1 : Key)) ∧ RpA F ((putK kvs (.inr s) v).map (·.2)) ((putA l s d).map fun e => e.2) := by
  unfold putK putA
  rw [valV_any]
  rcases kd_val (s := s) h r with ⟨h1, h2⟩ | ⟨d0, v0, h1, h2, _⟩
  · rw [h1, h2]
    refine ⟨?_, ?_⟩
    · simp [h]
    · simp only [Option.isSome_none, Bool.false_eq_true, if_false, List.map_append]
      exact r.app (.cons rv .nil)
  · rw [h1, h2]
    refine ⟨?_, ?_⟩
    · simp only [Option.isSome_some, if_true]
      rw [kd_keysIf, h, List.map_map]
      refine List.map_congr_left fun e _ => ?_
      show _ = (Sum.inr (if e.1 = s then (e.1, d) else e).1 : Key)
      split <;> rfl
    · simp only [Option.isSome_some, if_true]
      exact kd_valsIf rv h r
theorem kd_drop {F : Hp} {s : Str} : ∀ {kvs : List (Key × V)} {l : KD}, kvs.map (·.1) = l.map (fun e => (.inr e.1 : Key)) → RpA F (kvs.map (·.2)) (l.map fun e => e.2) →
    (dropK kvs (.inr s)).map (·.1) = (dropA l s).map (fun e => (.inr e.1 : Key)) ∧ RpA F ((dropK kvs (.inr s)).map (·.2)) ((dropA l s).map fun e => e.2)
  | [], [], _, _ => ⟨rfl, .nil⟩
  | [], _ :: _, h, _ => by simp at h
  | _ :: _, [], h, _ => by simp at h
  | (k, u) :: kvs, (x, e) :: l, h, r => by
    rw [List.map_cons, List.map_cons] at h
    obtain ⟨h1, h2⟩ := List.cons.inj h
    have h1' : k = .inr x := h1
    subst h1'
    cases r with
    | cons r1 r2 =>
      obtain ⟨i1, i2⟩ := kd_drop (s := s) h2 r2
      unfold dropK dropA at i1 i2 ⊢
      by_cases q : x = s
      · subst q
        rw [List.filter_cons_of_neg (by simp), List.filter_cons_of_neg (by simp)]
        exact ⟨i1, i2⟩
      · have q' : ¬ (Sum.inr x : Key) = .inr s := fun z => q (Sum.inr.inj z)
        rw [List.filter_cons_of_pos (by simpa using q'), List.filter_cons_of_pos (by simpa using q)]
        exact ⟨by rw [List.map_cons, List.map_cons, i1], .cons r1 i2⟩
section
variable {c : Ct} {G : Res} {ρ : En} {ta tb te td ty tv tx : TE} {tz : TS} {E : Ends} {p : Addr} {l : KD} {s : Str} {d : D}
theorem shl_kd {K : PySem.W.Frag} {F H : Hp} {v : V} (e : Ex F H) (h : Shl K F H v (kdD l)) : ∃ a kvs, v = .ref a ∧ H a = some (.dK kvs) ∧ kvs.map (·.1) = l.map (fun e => (.inr e.1 : Key)) ∧ RpA F (kvs.map (·.2)) (l.map fun e => e.2) := h.dK e
theorem n_dnewK : EvN c G ρ tDNewK (kdD []) := fun F σ H A Q q p hp => q p F _ (Go.newH A.ex hp) hp (fresh_back A.ex hp) ⟨[], upd_same, rfl, .nil⟩ fun _ e => nomatch e
theorem p_dinK (hy : EvP c G ρ ty (.str s)) (hd : EvS c G ρ td (kdD l)) : EvP c G ρ (tDIn ty td) (.bl (valA l s).isSome) := fun F σ H A Q q => hy F σ H A _ fun y F1 H1 g1 r1 => hd F1 σ H1 (A.on g1) _ fun x F2 H2 g2 r2 => by
  cases r1
  obtain ⟨a, kvs, rfl, h1, h2, h3⟩ := shl_kd g2.s r2
  refine ⟨a, _, rfl, DGet.k (k := .inr s) h1, ?_⟩
  have : (valV kvs (.inr s)).isSome = (valA l s).isSome := by
    rcases kd_val (s := s) h2 h3 with ⟨e1, e2⟩ | ⟨d0, v0, e1, e2, _⟩ <;> rw [e1, e2] <;> rfl
  rw [this]
  exact q _ F2 H2 (g1.trans g2) (.bl _)
theorem p_dninK (hy : EvP c G ρ ty (.str s)) (hd : EvS c G ρ td (kdD l)) : EvP c G ρ (tDNotIn ty td) (.bl (!(valA l s).isSome)) := fun F σ H A Q q => hy F σ H A _ fun y F1 H1 g1 r1 => hd F1 σ H1 (A.on g1) _ fun x F2 H2 g2 r2 => by
  cases r1
  obtain ⟨a, kvs, rfl, h1, h2, h3⟩ := shl_kd g2.s r2
  refine ⟨a, _, rfl, DGet.k (k := .inr s) h1, ?_⟩
  have : (valV kvs (.inr s)).isSome = (valA l s).isSome := by
    rcases kd_val (s := s) h2 h3 with ⟨e1, e2⟩ | ⟨d0, v0, e1, e2, _⟩ <;> rw [e1, e2] <;> rfl
  rw [this]
  exact q _ F2 H2 (g1.trans g2) (.bl _)
theorem p_getK (hd : EvS c G ρ td (kdD l)) (hy : EvP c G ρ ty (.str s)) (h : valA l s = some d) : EvP c G ρ (tDGet td ty) d := fun F σ H A Q q => hd F σ H A _ fun x F1 H1 g1 r1 => hy F1 σ H1 (A.on g1) _ fun y F2 H2 g2 r2 => by
  cases r2
  obtain ⟨a, kvs, rfl, h1, h2, h3⟩ := shl_kd g1.s r1
  rcases kd_val (s := s) h2 h3 with ⟨e1, e2⟩ | ⟨d0, v0, e1, e2, rv⟩
  · rw [h] at e1; cases e1
  · rw [h] at e1
    cases e1
    refine ⟨a, v0, rfl, ?_, q v0 F2 H2 (g1.trans g2) (rv.mono g2.f)⟩
    have := DGet.k (k := .inr s) (g2.h _ _ h1)
    rwa [e2] at this
theorem p_lenK (hd : EvS c G ρ td (kdD l)) : EvP c G ρ (tCB (fun xs H Q => ∃ a kvs, xs = [V.ref a] ∧ H a = some (.dK kvs) ∧ Q (.int kvs.length) H) (tCons td tNil)) (.int (l.length : Int)) := fun F σ H A Q q => hd F σ H A _ fun x F1 H1 g1 r1 => by
  obtain ⟨a, kvs, rfl, h1, h2, h3⟩ := shl_kd g1.s r1
  have hl : kvs.length = l.length := by
    have := congrArg List.length h2
    simpa using this
  refine ⟨a, kvs, rfl, h1, ?_⟩
  rw [hl]
  exact q _ F1 H1 g1 (.int _)
/-- list(d): the names -/
theorem n_listK (hd : EvS c G ρ td (kdD l)) : EvN c G ρ (tCB (fun xs H Q => ∃ (a : Addr) (kvs : List (Key × V)), xs = [.ref a] ∧ Rd H a (.dK kvs) ∧ ∀ p, H p = none → Q (.ref p) (upd H p (.lst (kvs.map fun kv => kV kv.1)))) (tCons td tNil)) (.lst (l.map fun e => D.str e.1)) := fun F σ H A Q q => hd F σ H A _ fun x F1 H1 g1 r1 => by
  obtain ⟨a, kvs, rfl, h1, h2, h3⟩ := shl_kd g1.s r1
  refine ⟨a, kvs, rfl, .of h1, fun p hp => ?_⟩
  refine q p F1 _ (g1.trans (Go.newH g1.s hp)) (fresh_back g1.h hp) (fresh_back g1.s hp) ⟨_, upd_same, ?_⟩ fun _ e => nomatch e
  have e1 : (kvs.map fun kv => kV kv.1) = (l.map fun e => e.1).map V.str := by
    have := congrArg (List.map kV) h2
    rw [List.map_map, List.map_map] at this
    rw [List.map_map]
    exact this
  have e2 : (l.map fun e => D.str e.1) = (l.map fun e => e.1).map D.str := by rw [List.map_map]; rfl
  rw [e1, e2]
  exact RpA.ofStrs _
theorem sx_dputK (k : Nat) (hv : EvP c G ρ tv d) (ha : EvP c G ρ td (.ref p)) (hy : EvP c G ρ ty (.str s)) (hk : G[k]? = some (p, kdD l)) (hz : l.length < 100000) (q : Sx c (G.set k (p, kdD (putA l s d))) ρ tz E) :
    Sx c G ρ (tSeq (sDPut td ty tv) tz) E := fun F σ H A => hv F σ H A _ fun v F1 H1 g1 r1 => ha F1 σ H1 (A.on g1) _ fun w F2 H2 g2 r2 => hy F2 σ H2 ((A.on g1).on g2) _ fun y F3 H3 g3 r3 => by
  cases r2
  cases r3
  have A3 := ((A.on g1).on g2).on g3
  obtain ⟨a, kvs, e, h1, h2, h3⟩ := shl_kd (l := l) A3.ex (A3.read (.inr (List.mem_of_getElem? hk)))
  cases e
  have hl : kvs.length = l.length := by
    have := congrArg List.length h2
    simpa using this
  have rv : Rp F3 v d := (r1.mono g2.f).mono g3.f
  obtain ⟨p1, p2⟩ := kd_put (s := s) rv h2 h3
  refine ⟨p, upd H3 p (.dK (putK kvs (.inr s) v)), rfl, DPut.k (k := .inr s) h1 (sz_lt (by rw [hl]; exact hz)), ?_⟩
  exact q F3 σ _ (A3.upd hk ⟨_, upd_same, p1, p2⟩ fun _ e => nomatch e)
/-- d.pop(k) -/
theorem m_popK (k : Nat) (ha : EvP c G ρ td (.ref p)) (hy : EvP c G ρ ty (.str s)) (hk : G[k]? = some (p, kdD l)) (h : valA l s = some d) : EvM c G ρ (tDPop1 td ty) d (G.set k (p, kdD (dropA l s))) := fun F σ H A Q q => ha F σ H A _ fun w F1 H1 g1 r1 => by
  cases r1
  have A1 := A.on g1
  obtain ⟨a, kvs, e, h1, h2, h3⟩ := shl_kd (l := l) A1.ex (A1.read (.inr (List.mem_of_getElem? hk)))
  cases e
  refine ⟨p, rfl, .inl ⟨_, .inl h1⟩, hy F1 σ H1 A1 _ fun y F2 H2 g2 r2 => ?_⟩
  cases r2
  have A2 := A1.on g2
  have h1' := g2.h _ _ h1
  rcases kd_val (s := s) h2 h3 with ⟨e1, e2⟩ | ⟨d0, v0, e1, e2, rv⟩
  · rw [h] at e1; cases e1
  · rw [h] at e1
    cases e1
    obtain ⟨p1, p2⟩ := kd_drop (s := s) h2 h3
    refine ⟨kvs, .inr s, v0, h1', rfl, e2, q v0 F2 _ (A2.upd hk ⟨_, upd_same, p1, p2.mono g2.f⟩ fun _ e => nomatch e) (rv.mono g2.f)⟩
end
end Dl

namespace Dl
open PySem PySem.Spec PyProof.Rows L2 Evl Xb
/-! ### f-texts -/
def tJoin (ts : List TE) : TE := fun σ H Q => tJs ts Str.empty σ H fun out H1 => Q (.str out) H1
theorem pe_joinD {X : Cx} {v1 v2 : Expr} {rest : List Expr} {ts : List TE} {pos : Pos} (h : PJ X (v1 :: v2 :: rest) ts) : PE X (.JoinedStr (v1 :: v2 :: rest) pos) (tJoin ts) := pe_joined h
/-! ### the truth of a value -/
def tTruD (K : PySem.W.Frag) (ta : TE) : TT := fun σ H Q => ta σ H fun x H' => ∃ k, TruV K x H' k ∧ Q k H'
theorem pt_truthD {X : Cx} {a : Expr} {ta : TE} (ha : PE X a ta) (he : ∀ whole, isTrue a X.env whole = (do let v ← whole; standAt a.pos; holding [v] (truthy v))) : PT X a (tTruD X.K ta) := pt_truth ha he
section
variable {c : Ct} {G : Res} {ρ : En} {ta tb te : TE} {ts : List TE} {d e : D} {ds : List D} {s x acc : Str}
/-- the parts of an f-text -/
inductive Pts (c : Ct) (G : Res) (ρ : En) : List TE → List Str → Prop
  | nil : Pts c G ρ [] []
  | cons {te : TE} {ts : List TE} {y : Str} {ys : List Str} (h : EvP c G ρ te (.str y)) (r : Pts c G ρ ts ys) : Pts c G ρ (te :: ts) (y :: ys)
theorem pts_run {ys : List Str} (h : Pts c G ρ ts ys) : ∀ (acc : Str) (n : Nat), acc.length + (ys.map (·.length)).sum ≤ n → n ≤ 100000 → ∀ F σ H, At c G ρ F σ H → ∀ Q : Str → Hp → Prop, (∀ F' H', Go F H F' H' → Q (ys.foldl (· ++ ·) acc) H') → tJs ts acc σ H Q := by
  induction h with
  | nil => exact fun acc n _ _ F σ H A Q q => q F H (Go.refl A.ex)
  | @cons te ts y ys h r ih =>
    intro acc n hn hz F σ H A Q q
    refine h F σ H A _ fun v F1 H1 g1 r1 => ?_
    cases r1
    rw [List.map_cons, List.sum_cons] at hn
    have hl : (acc ++ y).length = acc.length + y.length := by
      show (acc.cps ++ y.cps).size = _
      rw [Array.size_append]; rfl
    refine ⟨y, rfl, sz_of (by omega), ih (acc ++ y) n (by omega) hz F1 σ H1 (A.on g1) Q fun F' H' g => q F' H' (g1.trans g)⟩
theorem p_join' {ys : List Str} (h : Pts c G ρ ts ys) (hz : (ys.map (·.length)).sum ≤ 100000) : EvP c G ρ (tJoin ts) (.str (ys.foldl (· ++ ·) Str.empty)) := fun F σ H A Q q =>
  pts_run h Str.empty 100000 (by show 0 + _ ≤ _; omega) (Nat.le_refl _) F σ H A _ fun F' H' g => q _ F' H' g (.str _)
theorem p_fmtI {i : Int} (h : EvP c G ρ te (.int i)) (hz : i.natAbs.log2 < 1920) : EvP c G ρ (tFmt te) (.str (toString i : String)) := fun F σ H A Q q => h F σ H A _ fun v F1 H1 g1 r1 => by
  cases r1
  exact .inr ⟨i, rfl, hz, q _ F1 H1 g1 (.str _)⟩
theorem p_strI {i : Int} (h : EvP c G ρ te (.int i)) (hz : i.natAbs.log2 < 1920) : EvP c G ρ (tCB (fun xs H Q => ∃ i, xs = [.int i] ∧ i.natAbs.log2 < 1920 ∧ Q (.str (toString i : String)) H) (tCons te tNil)) (.str (toString i : String)) := fun F σ H A Q q => h F σ H A _ fun v F1 H1 g1 r1 => by
  cases r1
  exact ⟨i, rfl, hz, q _ F1 H1 g1 (.str _)⟩
theorem p_intB {b : Bool} (h : EvP c G ρ te (.bl b)) : EvP c G ρ (tCB (fun xs H Q => (∃ i, xs = [.int i] ∧ Q (.int i) H) ∨ ∃ k, xs = [.bl k] ∧ Q (.int (if k then 1 else 0)) H) (tCons te tNil)) (.int (if b then 1 else 0)) := fun F σ H A Q q => h F σ H A _ fun v F1 H1 g1 r1 => by
  cases r1
  exact .inr ⟨b, rfl, q _ F1 H1 g1 (.int _)⟩
/-- a list's truth -/
theorem t_truL (h : EvS c G ρ te (.lst ds)) : EvT c G ρ (tTruD c.K te) (!ds.isEmpty) := fun F σ H A Q q => h F σ H A _ fun v F1 H1 g1 r1 => by
  obtain ⟨a, vs, rfl, h1, h2⟩ := r1.lst g1.s
  have e : ds.isEmpty = vs.isEmpty := by cases h2 <;> rfl
  rw [e] at q
  exact ⟨_, .inl ⟨vs, sq_of h1, rfl⟩, q F1 H1 g1⟩
/-- a text in a text -/
def inS (s x : Str) : Bool := !(Builtin.Str.occurrences s x 0 s.length 1).isEmpty
theorem p_inS (h : EvP c G ρ ta (.str x)) (h2 : EvP c G ρ tb (.str s)) : EvP c G ρ (tOp (fun x y H Q => ∃ i j, x = .str i ∧ y = .str j ∧ Q (.bl (!(Builtin.Str.occurrences j i 0 j.length 1).isEmpty)) H) ta tb) (.bl (inS s x)) := fun F σ H A Q q => h F σ H A _ fun v F1 H1 g1 r1 => h2 F1 σ H1 (A.on g1) _ fun w F2 H2 g2 r2 => by
  cases r1; cases r2
  exact ⟨x, s, rfl, rfl, q _ F2 H2 (g1.trans g2) (.bl _)⟩
theorem p_ninS (h : EvP c G ρ ta (.str x)) (h2 : EvP c G ρ tb (.str s)) : EvP c G ρ (tOp (fun x y H Q => ∃ i j, x = .str i ∧ y = .str j ∧ Q (.bl (!(!(Builtin.Str.occurrences j i 0 j.length 1).isEmpty))) H) ta tb) (.bl (!inS s x)) := fun F σ H A Q q => h F σ H A _ fun v F1 H1 g1 r1 => h2 F1 σ H1 (A.on g1) _ fun w F2 H2 g2 r2 => by
  cases r1; cases r2
  exact ⟨x, s, rfl, rfl, q _ F2 H2 (g1.trans g2) (.bl _)⟩
/-- xs.index(x), of texts -/
theorem p_index {ns : List Str} {n : Str} {j : Nat} (h : EvS c G ρ ta (.lst (ns.map D.str))) (h2 : EvP c G ρ tb (.str n)) (hj : ns[j]? = some n) (hno : ∀ m, m < j → ns[m]? ≠ some n) : EvP c G ρ (tBM c.K "list" (rIndex c.K) ta (tCons tb tNil)) (.int (j : Nat)) := fun F σ H A Q q => h F σ H A _ fun v F1 H1 g1 r1 => by
  obtain ⟨a, vs, rfl, h1, r2⟩ := r1.lst g1.s
  have e1 := r2.strs
  subst e1
  refine ⟨.inl ⟨rfl, _, sq_of h1⟩, h2 F1 σ H1 (A.on g1) _ fun w F2 H2 g2 r3 => ?_⟩
  cases r3
  refine ⟨a, ns.map V.str, .str n, j, .str n, rfl, rfl, sq_of (g2.h _ _ h1), rfl, ?_, ?_, ?_, ?_, q _ F2 H2 (g1.trans g2) (.int _)⟩
  · rw [List.all_eq_true]
    intro y hy
    obtain ⟨z, _, rfl⟩ := List.mem_map.mp hy
    rfl
  · rw [List.getElem?_map, hj]; rfl
  · simp [eqV]
  · intro m z' hm hz
    rw [List.getElem?_map] at hz
    obtain ⟨u, hu, rfl⟩ := Option.map_eq_some_iff.mp hz
    have : u ≠ n := fun e => hno m hm (e ▸ hu)
    simp [eqV, this]
end
end Dl

/-! a dict made by two fors without ifs, its keys tuples -/
namespace Xg
open PySem PySem.Spec PyProof.Rows L2
abbrev twoFor (kx vx t0 i0 t1 i1 : Expr) (sc : Scope) (ps : Pos) : Expr := .DictComp kx vx [⟨t0, i0, [], 0⟩, ⟨t1, i1, [], 0⟩] sc ps
section
variable {P : Program} {w : World} {A : Around} {R : Result → Shared → Prop} {kx vx t0 i0 t1 i1 : Expr} {sc : Scope} {ps : Pos} {itr : Value} {D : Addr} {en : Env}
theorem turnOut : compTurn (twoFor kx vx t0 i0 t1 i1 sc ps) 0 itr (.ref D) en = (do
    standAt i0.pos
    match ← pyNext itr with
    | none => pure (.done .next)
    | some v =>
      letOwnedTupleGo t0 itr v
      assign t0 en v
      let mut go := true
      for c in ([] : List Expr) do
        if go then go ← isTrue c en (eval c en)
      if go then
        let y ← eval i1 en
        standAt i1.pos
        let y ← foldedSetIterable i1 en y
        let _ ← runOwn (.compStart (twoFor kx vx t0 i0 t1 i1 sc ps) 1 (← holding [y] (pyIter y)) (.ref D) en) en
      again (.compLoop (twoFor kx vx t0 i0 t1 i1 sc ps) 0 itr (.ref D) en)) := by rfl
theorem turnIn : compTurn (twoFor kx vx t0 i0 t1 i1 sc ps) 1 itr (.ref D) en = (do
    standAt i1.pos
    match ← pyNext itr with
    | none => pure (.done .next)
    | some v =>
      letOwnedTupleGo t1 itr v
      assign t1 en v
      let mut go := true
      for c in ([] : List Expr) do
        if go then go ← isTrue c en (eval c en)
      if go then
        (do
          let a ← eval kx en
          let b ← holding [a] (eval vx en)
          standAt { kx.pos with endLine := vx.pos.endLine, endCol := vx.pos.endCol }
          holding [a, b] (dictSet D a b))
      again (.compLoop (twoFor kx vx t0 i0 t1 i1 sc ps) 1 itr (.ref D) en)) := by rfl
/-- where an error goes -/
abbrev Lost (P : Program) (w : World) (A : Around) (en : Env) (R : Result → Shared → Prop) : Value → Shared → Prop := notedBy (model P w) A en fun e z => R (.error e) z
/-- the outer loop -/
theorem loopOut (hs : ∀ y, foldedSetIterable i1 en y = pure y) (J : Nat → Shared → Prop)
    (step : ∀ k z, J k z → wpAny (model P w) A (pyNext itr) (fun r z1 => match r with
      | none => R (.ok .next) z1
      | some v => wpAny (model P w) A (letOwnedTupleGo t0 itr v) (fun _ z2 => wpAny (model P w) A (assign t0 en v) (fun _ z3 => wpAny (model P w) A (eval i1 en) (fun y z4 => wpAny (model P w) A (pyIter y) (fun itr1 z5 =>
          codeAny (model P w) A (.compStart (twoFor kx vx t0 i0 t1 i1 sc ps) 1 itr1 (.ref D) en) (fun r z6 => match r with
            | .ok _ => ∃ j, j < k ∧ J j z6
            | .error _ => False) z5) (Lost P w A en R) z4) (Lost P w A en R) z3) (Lost P w A en R) z2) (Lost P w A en R) z1) (Lost P w A en R) z) (k0 : Nat) {z0 : Shared} (h0 : J k0 z0) :
    codeAny (model P w) A (.compLoop (twoFor kx vx t0 i0 t1 i1 sc ps) 0 itr (.ref D) en) R z0 := by
  refine codeAny_loop rfl J (fun k z hJ => ?_) k0 h0
  show wpAny _ A ((compTurn (twoFor kx vx t0 i0 t1 i1 sc ps) 0 itr (.ref D) en).onRaise (fun e => do noteFrame e en; theTreesLotGoes e)) _ _ z
  refine wpAny_noted ?_
  rw [turnOut]
  refine wpAny_bind (wpAny_standAt (wpAny_bind (wpAny_mono (step k z hJ) (fun r z1 g1 => ?_) fun _ _ e => e)))
  cases r with
  | none => exact wpAny_pure g1
  | some v =>
    refine wpAny_bind (wpAny_mono g1 (fun _ z2 g2 => wpAny_bind (wpAny_mono g2 (fun _ z3 g3 => ?_) fun _ _ e => e)) fun _ _ e => e)
    refine wpAny_bind (wpAny_pure ?_)
    refine wpAny_bind (wpAny_mono g3 (fun y z4 g4 => ?_) fun _ _ e => e)
    refine wpAny_bind (wpAny_standAt (wpAny_bind (wpAny_of_eq (hs y) (wpAny_bind (wpAny_holding (wpAny_mono g4 (fun itr1 z5 g5 => ?_) fun _ _ e => e))))))
    refine wpAny_bind (wpAny_runOwn ?_)
    rw [Around.mark_none]
    refine codeAny_mono g5 fun r z6 g6 => ?_
    cases r with
    | ok f =>
      first
        | exact wpAny_pure ⟨rfl, g6⟩
        | exact wpAny_bind (wpAny_pure (wpAny_pure ⟨rfl, g6⟩))
    | error e => exact g6.elim
/-- the inner loop -/
theorem loopIn (J : Nat → Shared → Prop)
    (step : ∀ k z, J k z → wpAny (model P w) A (pyNext itr) (fun r z1 => match r with
      | none => R (.ok .next) z1
      | some v => wpAny (model P w) A (letOwnedTupleGo t1 itr v) (fun _ z2 => wpAny (model P w) A (assign t1 en v) (fun _ z3 => wpAny (model P w) A (eval kx en) (fun a z4 => wpAny (model P w) A (eval vx en) (fun b z5 =>
          wpAny (model P w) A (dictSet D a b) (fun _ z6 => ∃ j, j < k ∧ J j z6) (Lost P w A en R) z5) (Lost P w A en R) z4) (Lost P w A en R) z3) (Lost P w A en R) z2) (Lost P w A en R) z1) (Lost P w A en R) z) (k0 : Nat) {z0 : Shared} (h0 : J k0 z0) :
    codeAny (model P w) A (.compLoop (twoFor kx vx t0 i0 t1 i1 sc ps) 1 itr (.ref D) en) R z0 := by
  refine codeAny_loop rfl J (fun k z hJ => ?_) k0 h0
  show wpAny _ A ((compTurn (twoFor kx vx t0 i0 t1 i1 sc ps) 1 itr (.ref D) en).onRaise (fun e => do noteFrame e en; theTreesLotGoes e)) _ _ z
  refine wpAny_noted ?_
  rw [turnIn]
  refine wpAny_bind (wpAny_standAt (wpAny_bind (wpAny_mono (step k z hJ) (fun r z1 g1 => ?_) fun _ _ e => e)))
  cases r with
  | none => exact wpAny_pure g1
  | some v =>
    refine wpAny_bind (wpAny_mono g1 (fun _ z2 g2 => wpAny_bind (wpAny_mono g2 (fun _ z3 g3 => ?_) fun _ _ e => e)) fun _ _ e => e)
    refine wpAny_bind (wpAny_pure ?_)
    exact wpAny_bind (wpAny_bind (wpAny_mono g3 (fun a z4 g4 => wpAny_bind (wpAny_holding (wpAny_mono g4 (fun b z5 g5 => wpAny_bind (wpAny_standAt (wpAny_holding (wpAny_mono g5 (fun _ z6 g6 => wpAny_pure ⟨rfl, g6⟩) fun _ _ e => e)))) fun _ _ e => e))) fun _ _ e => e))
/-- where the inner one begins -/
theorem startIn (h0 : codeAny (model P w) A (.compLoop (twoFor kx vx t0 i0 t1 i1 sc ps) 1 itr (.ref D) en) R z0)
    (h : wpAny (model P w) A (pyIter itr) (fun y z => codeAny (model P w) A (.compLoop (twoFor kx vx t0 i0 t1 i1 sc ps) 1 y (.ref D) en) R z) (Lost P w A en R) z0) :
    codeAny (model P w) A (.compStart (twoFor kx vx t0 i0 t1 i1 sc ps) 1 itr (.ref D) en) R z0 := by
  refine codeAny_of_tree ?_
  show wpAny _ _ ((compStart (twoFor kx vx t0 i0 t1 i1 sc ps) 1 itr (.ref D) en).onRaise (fun e => do noteFrame e en; standAt theWindowsPlace)) _ _ z0
  refine wpAny_notedAt ?_
  unfold compStart
  show wpAny _ _ (ask >>= _) _ _ z0
  refine wpAny_bind (wpAny_askSetting (wpAny_ite ?_))
  split
  · first
      | exact wpAny_bind (wpAny_pure (wpAny_pure ⟨rfl, h0⟩))
      | exact wpAny_pure ⟨rfl, h0⟩
  · first
      | exact wpAny_bind (wpAny_rule (wpAny_bind (wpAny_standAt (wpAny_bind (wpAny_mono h (fun y z g => wpAny_pure ⟨rfl, g⟩) fun _ _ e => e)))))
      | (refine wpAny_bind (wpAny_rule ?_); show wpAny _ _ (standAt i1.pos >>= _) _ _ z0; exact wpAny_bind (wpAny_standAt (wpAny_bind (wpAny_mono h (fun y z g => wpAny_pure ⟨rfl, g⟩) fun _ _ e => e))))
end
section
variable {X : Cx}
/-- one entry more, its key a tuple -/
theorem setT {pn : List (Addr × Obj)} {σ : L2.St} {H : Hp} {z : Shared} {E : Value → Shared → Prop} {D b : Addr} {kvs : List (List L2.Key × V)} {k : List L2.Key} {v : V} {r : Value} {Q : Unit → Shared → Prop} (hu : X.A.units + 1 < cLine) (I : Inv X pn σ H z) (hD : H D = some (.dT kvs))
    (hb : H b = some (.tup (k.map kV))) (hz : kvs.length < sizeLine) (rv : RelV v r) (h : ∀ z', Inv X pn σ (upd H D (.dT (putK kvs k v))) z' → Q () z') : wpAny (model X.prog X.w) X.A (dictSet D (.ref b) r) Q E z := by
  obtain ⟨z1, nsm, ls, rl, dd⟩ := dt_of I.hok hD
  have z2 : ls.length ≤ sizeLine := by rw [← Paired.length rl]; exact z1
  have z3 : (putK kvs k v).length ≤ sizeLine := by have q := length_putK kvs k v; omega
  refine wpAny_dictSet_heap (hsz := z2) (show X.A.units < cLine by omega) (key_of I.hok hb) dd fun hp dq keep => h _ ?_
  obtain ⟨o, es, ep, q1, q2, q3, q4, _, q5⟩ := dq
  refine d_write I (by rw [hD]; exact True.intro) keep ⟨o, q1⟩ ⟨z3, nsm, _, (rl.put k hb rv).keeps fun a ys ea => ?_, o, es, ep, q1, q2, q3, q4, q5⟩
  rw [upd_ne (ne_of ea hD (fun y => nomatch y))]
  exact ea
/-- {k: v for .. in .. for .. in ..}: D the new dict -/
def tTwo (wi : TI) (g : TG) (wi1 : TI) (g1 : TG) (tk tv : TE) (vs vs1 : List Nat) : TE := fun σ H Q => wi σ H fun J H1 => ∀ D, H1 D = none → ∃ W : Nat → Nat → Hp → Prop, (∃ m, W 0 m (upd H1 D (.dT []))) ∧ ∀ i m H2, W i m H2 →
  (J.stop i H2 ∧ Q (.ref D) H2) ∨ (J.go i H2 ∧ ∃ N : Hp → Prop, (∀ H3, N H3 → ∃ m', m' < m ∧ W (i + 1) m' H3) ∧ ∀ x H3, J.yld i H2 x H3 → g x (wipe σ vs) H3 fun σ2 H4 => wipe σ2 vs = wipe σ vs ∧
    wi1 σ2 H4 fun J1 H5 => ∃ W1 : Nat → Nat → Hp → Prop, (∃ m, W1 0 m H5) ∧ ∀ j k H6, W1 j k H6 →
      (J1.stop j H6 ∧ N H6) ∨ (J1.go j H6 ∧ ∃ N1 : Hp → Prop, (∀ H7, N1 H7 → ∃ k', k' < k ∧ W1 (j + 1) k' H7) ∧ ∀ x H7, J1.yld j H6 x H7 → g1 x (wipe σ2 vs1) H7 fun σ3 H8 => wipe σ3 vs1 = wipe σ2 vs1 ∧
        tk σ3 H8 fun y H9 => tv σ3 H9 fun v H10 => ∃ b kvs k, y = .ref b ∧ H10 D = some (.dT kvs) ∧ H10 b = some (.tup (k.map kV)) ∧ kvs.length < sizeLine ∧ N1 (upd H10 D (.dT (putK kvs k v)))))
/-- a rule of the block's own context, at any such block -/
abbrev InBlk (X : Cx) (sc : Scope) (p : Cx → Prop) : Prop := ∀ (z : Shared) (H : Hp) (C : Addr) (cl : List (Str × Addr)) (fp : List Addr), p (X.blk z H sc (compEnvC sc cl C X.env) fp)
theorem twoCore {pn : List (Addr × Obj)} {z : Shared} {σ : L2.St} {H : Hp} {Q : VK} {kx vx t0 i0 t1 i1 : Expr} {sc : Scope} {own : List (Str × Nat)} {vs1 : List Nat} {ps ps' : Pos} {wi wi1 : TI} {g g1 : TG} {tk tv : TE} {use : Option (Value → Sem Unit)} {Qf : Value → Shared → Prop}
    (hc : X.calm = true) (hu : X.A.units + 1 < cLine) (hN : X.N.Nodup) (I : Inv X pn σ H z) (hi : PI X t0 i0 wi) (ok : BlkOk X.N X.env.scope sc own) (hv : ∀ i ∈ vs1, i ∈ own.map (·.2)) (hg : InBlk X sc fun Y => PG Y t0 g) (hk : InBlk X sc fun Y => PE Y kx tk) (he : InBlk X sc fun Y => PE Y vx tv)
    (hs : ∀ y, foldedSetIterable i0 X.env y = pure y) (hi1 : InBlk X sc fun Y => PI Y t1 i1 wi1) (hg1 : InBlk X sc fun Y => PG Y t1 g1) (hs1 : ∀ e y, foldedSetIterable i1 e y = pure y) (h : tTwo wi g wi1 g1 tk tv (own.map (·.2)) vs1 σ H Q)
    (fin : ∀ D C z' m H', Inv X pn σ H' z' → Q (.ref D) H' → z'.heap.Ns C m → FpOk X pn H' C → compPost (model X.prog X.w) X.A X.xe use Qf (.ref D) C (.ok .next) z') :
    wpAny (model X.prog X.w) X.A (comprehension (twoFor kx vx t0 i0 t1 i1 sc ps) sc X.env ps' newDict false (eval i0 X.env) use) Qf X.xe z := by
  have fr : ∀ y ∈ sc.names, y.2 = .free → ∃ c, X.env.cells.lookup y.1 = some c := fun y hy q => (ok.free y hy q).elim (fun e => I.ok.has _ (.inl e)) fun e => I.ok.has _ (.inr e)
  refine wpAny_comprehension_free (use := use) rfl hs (closure_ok fr) ok.kind (fun y hy q => by rw [ok.uniq y hy, q]) (thn (hi.run pn z σ H _ I h) fun xv za hx => thn hx fun itv zb hb => ?_)
  obtain ⟨ia, fp, tn, J, Hb, rfl, Ib, Tb, stb, fb, q⟩ := hb
  refine wpAny_newObj_type (newEnv_comp ?_)
  generalize eD : zb.heap.objs.size = D
  have nD : Hb D = none := Ib.hok.fresh (Nat.le_of_eq eD)
  obtain ⟨W, ⟨ma, wa⟩, turn⟩ := q D nD
  generalize ez : ({ zb with heap := zb.heap.push { cls := .type "dict", data := .dict #[] } } : Shared) = zc
  have hzc : zc.heap = zb.heap.push { cls := .type "dict", data := .dict #[] } := by rw [← ez]
  have Ic : Inv X pn σ (upd Hb D (.dT [])) zc := by
    rw [← ez]
    refine Ib.laid (t' := zb.toks) (fun b o q => Heap.get?_push_of_some _ q) (Nat.le_of_eq eD) ?_
    rw [← eD]
    exact dt_empty zb.heap Ib.big
  have small : ∀ b ∈ fp, b < zb.heap.objs.size := fun b m => let ⟨o, q, _⟩ := Tb.obj _ _ stb b m; Heap.lt_size q
  have fc : ∀ b ∈ fp, FpOk X pn (upd Hb D (.dT [])) b ∧ b < zc.heap.objs.size := fun b m => by
    have lt := small b m
    refine ⟨⟨(upd_ne (by rw [← eD]; exact Nat.ne_of_lt lt)).trans (fb b m).1, (fb b m).2⟩, ?_⟩
    rw [hzc, Heap.size_push]
    exact Nat.lt_succ_of_lt lt
  have stc : tn 0 zc.heap := Tb.keep _ _ _ stb fun b _ o q => by rw [hzc]; exact Heap.get?_push_of_some _ q
  have Id := block_start Ic ok hN fc
  have rg := hg zc (upd Hb D (.dT [])) zc.heap.objs.size (cellsFrom (zc.heap.objs.size + 1) sc.names (cloFrom X.env.cells sc.names [])) fp
  have rk := hk zc (upd Hb D (.dT [])) zc.heap.objs.size (cellsFrom (zc.heap.objs.size + 1) sc.names (cloFrom X.env.cells sc.names [])) fp
  have re := he zc (upd Hb D (.dT [])) zc.heap.objs.size (cellsFrom (zc.heap.objs.size + 1) sc.names (cloFrom X.env.cells sc.names [])) fp
  have ri1 := hi1 zc (upd Hb D (.dT [])) zc.heap.objs.size (cellsFrom (zc.heap.objs.size + 1) sc.names (cloFrom X.env.cells sc.names [])) fp
  have rg1 := hg1 zc (upd Hb D (.dT [])) zc.heap.objs.size (cellsFrom (zc.heap.objs.size + 1) sc.names (cloFrom X.env.cells sc.names [])) fp
  show codeAny _ _ (.compStart (twoFor kx vx t0 i0 t1 i1 sc ps) 0 (.ref ia) (.ref D) (compEnvC sc (cellsFrom (zc.heap.objs.size + 1) sc.names (cloFrom X.env.cells sc.names [])) zc.heap.objs.size X.env)) (compPost (model X.prog X.w) X.A X.xe use Qf (.ref D) zc.heap.objs.size) { zc with heap := pushCells (zc.heap.push { cls := .type "dict", data := .dict #[] }) sc.names }
  have nfp : ∀ b ∈ fp, (upd Hb D (.dT [])) b = none := fun b m => (fc b m).1.1
  generalize eE : compEnvC sc (cellsFrom (zc.heap.objs.size + 1) sc.names (cloFrom X.env.cells sc.names [])) zc.heap.objs.size X.env = en at Id rg rk re ri1 rg1 ⊢
  have eL : en.locals = zc.heap.objs.size := by subst eE; rfl
  generalize eH : upd Hb D (.dT []) = Hc at Ic Id rg rk re ri1 rg1 wa nfp fc
  generalize eS : ({ zc with heap := pushCells (zc.heap.push { cls := .type "dict", data := .dict #[] }) sc.names } : Shared) = zd at Id ⊢
  have std : tn 0 zd.heap := Tb.keep _ _ _ stc fun b _ o q => by rw [← eS]; exact pushCells_keeps _ _ _ _ (Heap.get?_push_of_some _ q)
  have stay : ∀ {σ' : L2.St} {H' : Hp} {z' : Shared}, Inv (X.blk zc Hc sc en fp) [] σ' H' z' → (∀ b ∈ fp, H' b = none) → ∀ b ∈ fp, FpOk (X.blk zc Hc sc en fp) [] H' b := fun {σ' H' z'} I' n b m =>
    ⟨n b m, (I'.ok.exf b m).1, I'.ok.exfs b m, .inl m, fun x c e => (I'.ok.exf b m).2 x c e, fun p hp => absurd (show p ∈ ([] : List (Addr × Obj)) ++ [] from hp) (by simp)⟩
  have all : codeAny (model X.prog X.w) X.A (.compLoop (twoFor kx vx t0 i0 t1 i1 sc ps) 0 (.ref ia) (.ref D) en) (compPost (model X.prog X.w) X.A X.xe use Qf (.ref D) zc.heap.objs.size) zd := by
    refine loopOut (hs1 en) (fun n z' => ∃ i H', Inv (X.blk zc Hc sc en fp) [] (wipe σ (own.map (·.2))) H' z' ∧ tn i z'.heap ∧ (∀ b ∈ fp, H' b = none) ∧ W i n H') ?_ ma ⟨0, Hc, Id, std, nfp, wa⟩
    rintro n ze ⟨i, He, Ie, ste, ne, we⟩
    rcases turn i n He we with ⟨stop, qq⟩ | ⟨go, N, hNx, step⟩
    · refine thnF (Tb.done (X.blk zc Hc sc en fp) rfl rfl rfl hc i [] ze _ He (fun _ _ => False) Ie (stay Ie ne) ste stop) fun r zf ⟨hr, If⟩ => ?_
      subst hr
      have Ig : Inv X pn σ He zf := Ic.call' (ch := fp) If.os If.base If.hok If.bare fun b m => ⟨(fc b m).1.2.2.2.1, (fc b m).1.2.1, (fc b m).1.2.2.2.2.1, (fc b m).1.2.2.2.2.2⟩
      have nC : He zc.heap.objs.size = none := by
        have q : He en.locals = none := If.free
        rwa [eL] at q
      obtain ⟨m, hn, _⟩ := If.loc
      have hn' : zf.heap.Ns en.locals m := hn
      rw [eL] at hn'
      exact fin D zc.heap.objs.size zf m He Ig qq hn' (Ic.fpOk (Nat.le_refl _) nC)
    · refine thnF (Tb.item (X.blk zc Hc sc en fp) rfl rfl rfl hc i [] ze _ He (fun _ _ => False) Ie (stay Ie ne) ste go) fun r zf ⟨u, hr, hf⟩ => ?_
      subst hr
      refine thnF hf fun _ zg ⟨x, Hg, Ig, rx, yx, stg, ng⟩ => ?_
      have Ig' := Ig.pinned (stay Ig ng) (Tb.obj _ _ stg)
      refine thnF (rg.run _ zg _ Hg x u _ Ig' rx (step x Hg yx)) fun _ zh ⟨σh, Hh, Ih, wh, qh⟩ => ?_
      have lh : (wipe σ (own.map (·.2))).length = σh.length := by rw [← wh, wipe_length]
      -- back to the outer loop's head
      have back : ∀ {σ9 : L2.St} {z' : Shared} {H' : Hp}, Inv (X.blk zc Hc sc en fp) ([] ++ pinsAt fp zg.heap) σ9 H' z' → (wipe σ (own.map (·.2))).length = σ9.length → (∀ (j : Nat) v, (wipe σ (own.map (·.2)))[j]? = some (some v) → σ9[j]? = some (some v)) → N H' →
          ∃ m, m < n ∧ ∃ i H', Inv (X.blk zc Hc sc en fp) [] (wipe σ (own.map (·.2))) H' z' ∧ tn i z'.heap ∧ (∀ b ∈ fp, H' b = none) ∧ W i m H' := fun {σ9 z' H'} I' l9 k9 nx => by
        obtain ⟨m', lt, w'⟩ := hNx H' nx
        have pin : ∀ b ∈ fp, ∀ o, zg.heap.get? b = some o → z'.heap.get? b = some o ∧ H' b = none := fun b m o q =>
          have y := I'.pin (b, o) (List.mem_append_right _ (List.mem_append_right _ (mem_pinsAt m q)))
          ⟨y.1, y.2.1⟩
        refine ⟨m', lt, i + 1, H', (I'.unpinned (pins := [])).weak l9 k9, Tb.keep _ _ _ stg fun b m o q => (pin b m o q).1, fun b m => ?_, w'⟩
        obtain ⟨o, q, _⟩ := Tb.obj _ _ stg b m
        exact (pin b m o q).2
      have keep9 : ∀ (j : Nat) v, (wipe σ (own.map (·.2)))[j]? = some (some v) → (wipe σh vs1)[j]? = some (some v) := fun j v q => by
        rw [← wh] at q
        obtain ⟨q1, q2⟩ := wipe_some q
        rw [L2.wipe_out fun y => q2 (hv j y)]
        exact q1
      refine thnF (ri1.run _ zh σh Hh _ Ih qh) fun xw zi hxw => thnF hxw fun iw zj hj => ?_
      obtain ⟨ib, fq, tm, J1, Hj, rfl, Ij, Tj, stj, fj, W1, ⟨mb, wb⟩, turn1⟩ := hj
      have stay1 : ∀ {H' : Hp}, (∀ b ∈ fq, H' b = none) → ∀ b ∈ fq, FpOk (X.blk zc Hc sc en fp) ([] ++ pinsAt fp zg.heap) H' b := fun n b m => ⟨n b m, (fj b m).2⟩
      have inner : codeAny (model X.prog X.w) X.A (.compLoop (twoFor kx vx t0 i0 t1 i1 sc ps) 1 (.ref ib) (.ref D) en)
          (fun r z' => match r with
            | .ok _ => ∃ m, m < n ∧ ∃ i H', Inv (X.blk zc Hc sc en fp) [] (wipe σ (own.map (·.2))) H' z' ∧ tn i z'.heap ∧ (∀ b ∈ fp, H' b = none) ∧ W i m H'
            | .error _ => False) zj := by
        refine loopIn (fun k z' => ∃ j H', Inv (X.blk zc Hc sc en fp) ([] ++ pinsAt fp zg.heap) (wipe σh vs1) H' z' ∧ tm j z'.heap ∧ (∀ b ∈ fq, H' b = none) ∧ W1 j k H') ?_ mb ⟨0, Hj, Ij.weak (wipe_length _ _) (fun j v q => (wipe_some q).1), stj, fun b m => (fj b m).1, wb⟩
        rintro k zk ⟨j, Hk, Ik, stk, nk, wk⟩
        rcases turn1 j k Hk wk with ⟨stop1, nx1⟩ | ⟨go1, N1, hN1, step1⟩
        · refine thnF (Tj.done (X.blk zc Hc sc en fp) rfl rfl rfl hc j _ zk (wipe σh vs1) Hk (fun _ _ => False) Ik (stay1 nk) stk stop1) fun r zl ⟨hr, Il⟩ => ?_
          subst hr
          exact back Il (lh.trans (wipe_length σh vs1).symm) keep9 nx1
        · refine thnF (Tj.item (X.blk zc Hc sc en fp) rfl rfl rfl hc j _ zk (wipe σh vs1) Hk (fun _ _ => False) Ik (stay1 nk) stk go1) fun r zl ⟨u1, hr, hl⟩ => ?_
          subst hr
          refine thnF hl fun _ zm ⟨x1, Hm, Im, rm, ym, stm, nm⟩ => ?_
          have Im' := Im.pinned (stay1 nm) (Tj.obj _ _ stm)
          refine thnF (rg1.run _ zm (wipe σh vs1) Hm x1 u1 _ Im' rm (step1 x1 Hm ym)) fun _ zn ⟨σn, Hn, In, wn, qn⟩ => ?_
          refine thnF (rk.run _ zn σn Hn _ In qn) fun uk zo ⟨yk, Ho, Io, rko, qo⟩ => ?_
          refine thnF (re.run _ zo σn Ho _ Io qo) fun uv zp ⟨yv, Hp', Ip, rv, b, kvs, ky, eb, hD, hb, hz, nx⟩ => ?_
          subst eb
          obtain rfl : uk = Value.ref b := rko
          refine setT (X := X.blk zc Hc sc en fp) hu Ip hD hb hz rv fun zq Iq => ?_
          obtain ⟨m', lt, w'⟩ := hN1 _ nx
          have pin : ∀ a ∈ fq, ∀ o, zm.heap.get? a = some o → zq.heap.get? a = some o ∧ (upd Hp' D (.dT (putK kvs ky yv))) a = none := fun a m o q =>
            have y := Iq.pin (a, o) (List.mem_append_right _ (List.mem_append_right _ (mem_pinsAt m q)))
            ⟨y.1, y.2.1⟩
          refine ⟨m', lt, j + 1, _, Iq.unpinned.weak (by rw [← wn, wipe_length]) (fun j v q => by rw [← wn] at q; exact (wipe_some q).1), Tj.keep _ _ _ stm fun a m o q => (pin a m o q).1, fun a m => ?_, w'⟩
          obtain ⟨o, q, _⟩ := Tj.obj _ _ stm a m
          exact (pin a m o q).2
      exact startIn inner (Tj.self X.A 0 _ _ _ stj inner)
  exact codeAny_compStart_dict all (Tb.self X.A 0 _ _ _ std all)
/-- as a value -/
theorem pe_two {kx vx t0 i0 t1 i1 : Expr} {sc : Scope} {own : List (Str × Nat)} {vs1 : List Nat} {ps : Pos} {wi wi1 : TI} {g g1 : TG} {tk tv : TE} (hc : X.calm = true) (hu : X.A.units + 1 < cLine) (hN : X.N.Nodup) (hi : PI X t0 i0 wi) (ok : BlkOk X.N X.env.scope sc own) (hv : ∀ i ∈ vs1, i ∈ own.map (·.2))
    (hg : InBlk X sc fun Y => PG Y t0 g) (hi1 : InBlk X sc fun Y => PI Y t1 i1 wi1) (hg1 : InBlk X sc fun Y => PG Y t1 g1) (hk : InBlk X sc fun Y => PE Y kx tk) (he : InBlk X sc fun Y => PE Y vx tv)
    (hs : ∀ y, foldedSetIterable i0 X.env y = pure y := by intro _; rfl) (hs1 : ∀ e y, foldedSetIterable i1 e y = pure y := by intro _ _; rfl) : PE X (.DictComp kx vx [⟨t0, i0, [], 0⟩, ⟨t1, i1, [], 0⟩] sc ps) (tTwo wi g wi1 g1 tk tv (own.map (·.2)) vs1) := by
  refine ⟨fun pn z σ H Q I h => ?_⟩
  rw [arm_eval_DictComp]
  refine twoCore hc hu hN I hi ok hv hg hk he hs hi1 hg1 hs1 h fun D C z' m H' I' q hn f => ⟨m, hn, fun hp keep => ?_⟩
  exact ⟨.ref D, H', I'.turned (t' := z'.toks) (fun b o nb e => (keep.2 b nb).trans e) f.1 f.2.1 f.2.2.2.1 f.2.2.2.2.1 f.2.2.2.2.2, rfl, q⟩
end
end Xg

namespace Dl
open PySem PySem.Spec PyProof.Rows L2 Evl Xb
section
variable {c : Ct} {G : Res} {ρ ρ' : En} {F H : Hp} {σ σ' : L2.St}
theorem Slots.nil : Slots F [] [] := ⟨rfl, fun i d q => by simp at q⟩
/-- other slots -/
theorem At.re (A : At c G ρ' F σ' H) (s : Slots F ρ σ) : At c G ρ F σ H := ⟨A.go, s, A.sh, A.ow, A.nd, A.ns⟩
/-- a new object beside changes -/
theorem At.beside {D : Addr} {o : HO} (A : At c G ρ F σ H) (hB : c.B D = none) (hF : F D = none) (hG : ∀ x ∈ G, x.1 ≠ D) : At c G ρ F σ (L2.upd H D o) :=
  ⟨⟨Ex.mut A.go.h hB, A.go.f, fun a u e => by rw [upd_ne (ne_of_none e hF)]; exact A.go.s a u e, A.go.n⟩, A.sl, A.sh, fun z hz => by
    obtain ⟨w1, w2, w3⟩ := A.ow z hz
    exact ⟨w1.keep (Ex.refl _) (fun o e => by rw [upd_ne (hG z hz)]; exact e), w2, w3⟩, A.nd, A.ns⟩
/-- so far: the dict at D holds td -/
structure Sofar (c : Ct) (G : Res) (F1 H1 : Hp) (D : Addr) (td : TD) (F H : Hp) : Prop where
  at0 : At c G [] F [] H
  go : Go F1 H1 F H
  out : F D = none
  dic : H D = some (.dT (tdV td))
theorem Sofar.on {F1 H1 F' H' : Hp} {D : Addr} {td : TD} (s : Sofar c G F1 H1 D td F H) (g : Go F H F' H') : Sofar c G F1 H1 D td F' H' :=
  ⟨s.at0.on g, s.go.trans g, g.out (by rw [s.dic]; exact fun z => nomatch z) s.out, g.h _ _ s.dic⟩
theorem Sofar.put {F1 H1 : Hp} {D : Addr} {td : TD} {p : Spot} {n : Str} (s : Sofar c G F1 H1 D td F H) (h1 : H1 D = none) (hB : c.B D = none) (hG : ∀ x ∈ G, x.1 ≠ D) : Sofar c G F1 H1 D (putA td p n) F (upd H D (.dT (putK (tdV td) (spotK p) (.str n)))) :=
  ⟨s.at0.beside hB s.out hG, ⟨Ex.mut s.go.h h1, s.go.f, fun a o e => by rw [upd_ne (ne_of_none e s.out)]; exact s.go.s a o e, s.go.n⟩, s.out, by rw [upd_same, td_put]⟩
end
theorem putA_len {α β : Type} [DecidableEq α] (l : List (α × β)) (k : α) (v : β) : (putA l k v).length ≤ l.length + 1 := by unfold putA; split <;> simp
/-- the entries of one outer item -/
def putAll (td : TD) (ss : List Spot) (n : Str) : TD := ss.foldl (fun td s => putA td s n) td
theorem putAll_succ {td : TD} {ss : List Spot} {n : Str} {j : Nat} {s : Spot} (h : ss[j]? = some s) : putAll td (ss.take (j + 1)) n = putA (putAll td (ss.take j) n) s n := by
  unfold putAll
  rw [List.take_add_one, h, List.foldl_append]
  rfl
theorem putAll_len (n : Str) : ∀ (ss : List Spot) (td : TD), (putAll td ss n).length ≤ td.length + ss.length
  | [], td => Nat.le_refl _
  | s :: ss, td => by
    have h1 := putAll_len n ss (putA td s n)
    have h2 := putA_len td s n
    show (putAll (putA td s n) ss n).length ≤ _
    rw [List.length_cons]
    omega
section
variable {α : Type}
def putTwo (us : List α) (ks : α → List Spot) (nm : α → Str) (td : TD) : TD := us.foldl (fun td u => putAll td (ks u) (nm u)) td
theorem putTwo_succ {us : List α} {ks : α → List Spot} {nm : α → Str} {td : TD} {i : Nat} {u : α} (h : us[i]? = some u) : putTwo (us.take (i + 1)) ks nm td = putAll (putTwo (us.take i) ks nm td) (ks u) (nm u) := by
  unfold putTwo
  rw [List.take_add_one, h, List.foldl_append]
  rfl
theorem putTwo_len {ks : α → List Spot} {nm : α → Str} {m : Nat} : ∀ (us : List α) (td : TD), (∀ u ∈ us, (ks u).length ≤ m) → (putTwo us ks nm td).length ≤ td.length + m * us.length
  | [], td, _ => Nat.le_add_right _ _
  | u :: us, td, h => by
    have h1 := putTwo_len (nm := nm) us (putAll td (ks u) (nm u)) fun x hx => h x (List.mem_cons_of_mem _ hx)
    have h2 := putAll_len (nm u) (ks u) td
    have h3 := h u List.mem_cons_self
    show (putTwo us ks nm (putAll td (ks u) (nm u))).length ≤ _
    rw [List.length_cons, Nat.mul_add]
    omega
variable {c : Ct} {G g : Res} {ρ : En} {us : List α} {enc : α → D} {ks : α → List Spot} {nm : α → Str} {wi wi1 : TI} {gt gt1 : TG} {tk tv : TE} {vs vs1 js js1 : List Nat} {ρu : α → En} {ρs : α → Spot → En} {m : Nat}
theorem n_two (hi : EvI c G ρ wi (us.map enc) g) (hg : ∀ x ∈ g, x ∈ G) (ht : ∀ u ∈ us, EvG c G (wipeE ρ vs) gt (enc u) (ρu u) js) (hj : ∀ j ∈ js, j ∈ vs) (hi1 : ∀ u ∈ us, EvI c G (ρu u) wi1 ((ks u).map encSpot) [])
    (ht1 : ∀ u ∈ us, ∀ s ∈ ks u, EvG c G (wipeE (ρu u) vs1) gt1 (encSpot s) (ρs u s) js1) (hj1 : ∀ j ∈ js1, j ∈ vs1) (hk : ∀ u ∈ us, ∀ s ∈ ks u, EvP c G (ρs u s) tk (encSpot s)) (hv : ∀ u ∈ us, ∀ s ∈ ks u, EvP c G (ρs u s) tv (.str (nm u)))
    (hm : ∀ u ∈ us, (ks u).length ≤ m) (hz : m * us.length + m ≤ 16000000) : EvN c G ρ (Xg.tTwo wi gt wi1 gt1 tk tv vs vs1) (tdD (putTwo us ks nm [])) := fun F σ H A Q q => hi F σ H A _ fun J F1 H1 pins g1 hp iok D hD => by
  have A1 := A.on g1
  have s1 : Slots F1 (wipeE ρ vs) (L2.wipe σ vs) := (A1.wipe vs).sl
  have DB : c.B D = none := fresh_back A1.go.h hD
  have hDG : ∀ x ∈ G, x.1 ≠ D := fun x hx e => ((A1.ow x hx).1.there (A1.ns x hx)) (by rw [e]; exact hD)
  have hlen : (us.map enc).length = us.length := by simp
  refine ⟨fun i k H' => k = us.length - i ∧ i ≤ us.length ∧ ∃ F', Sofar c G F1 H1 D (putTwo (us.take i) ks nm []) F' H', ⟨us.length, by simp, Nat.zero_le _, F1, (A1.on (Go.newH g1.s hD)).re Slots.nil, Go.newH g1.s hD, fresh_back g1.s hD, upd_same⟩, ?_⟩
  rintro i k H2 ⟨rfl, hi2, F2, S2⟩
  have hpin : ∀ x ∈ pins, Shl c.K F2 H2 (.ref x.1) x.2 := fun x hx => by
    rcases hp x hx with y | y
    · rcases y with y | ⟨a, y1, y2⟩
      · exact .inl (y.mono S2.go.f)
      · exact .inr ⟨a, y1, y2.mono S2.go.f S2.at0.go.h⟩
    · exact S2.at0.read (.inr (hg x y))
  by_cases hlt : i < us.length
  · have hu : us[i]? = some us[i] := List.getElem?_eq_getElem hlt
    have hmem : us[i] ∈ us := List.getElem_mem hlt
    generalize us[i] = u at hu hmem
    refine .inr ⟨iok.goes i F2 H2 (by rw [hlen]; exact hlt) S2.go.s hpin, fun H' => ∃ F', Sofar c G F1 H1 D (putTwo (us.take (i + 1)) ks nm []) F' H', fun H' h => ⟨us.length - (i + 1), by omega, rfl, hlt, h⟩, fun x H3 y => ?_⟩
    obtain ⟨F3, d, g3, hd, rd⟩ := iok.yields i F2 H2 x H3 (by rw [hlen]; exact hlt) S2.go.s hpin y
    have hd' : d = enc u := by
      rw [List.getElem?_map, hu] at hd
      exact (Option.some.inj hd).symm
    subst hd'
    have S3 := S2.on g3
    refine ht u hmem F3 _ H3 x (S3.at0.re (s1.mono S3.go.f)) rd _ fun σ4 A4 l4 k4 => ⟨wipe_ext l4 hj k4, ?_⟩
    refine hi1 u hmem F3 σ4 H3 A4 _ fun J1 F5 H5 pins1 g5 hp1 iok1 => ?_
    have S5 := S3.on g5
    have s5 : Slots F5 (wipeE (ρu u) vs1) (L2.wipe σ4 vs1) := ((A4.on g5).wipe vs1).sl
    have hlen1 : ((ks u).map encSpot).length = (ks u).length := by simp
    rw [putTwo_succ hu]
    have hb := putTwo_len (nm := nm) (us.take i) [] fun x hx => hm x (List.mem_of_mem_take hx)
    rw [List.length_take] at hb
    have hbi : m * min i us.length ≤ m * us.length := Nat.mul_le_mul_left _ (Nat.min_le_right _ _)
    have hmu := hm u hmem
    simp only [List.length_nil, Nat.zero_add] at hb
    generalize putTwo (us.take i) ks nm [] = acc at S5 hb
    refine ⟨fun j k H' => k = (ks u).length - j ∧ j ≤ (ks u).length ∧ ∃ F', Sofar c G F1 H1 D (putAll acc ((ks u).take j) (nm u)) F' H' ∧ Ex F5 F', ⟨(ks u).length, by simp, Nat.zero_le _, F5, S5, Ex.refl _⟩, ?_⟩
    rintro j k H6 ⟨rfl, hj2, F6, S6, e6⟩
    have hpin1 : ∀ x ∈ pins1, Shl c.K F6 H6 (.ref x.1) x.2 := fun x hx => by
      rcases hp1 x hx with y | y
      · rcases y with y | ⟨a, y1, y2⟩
        · exact .inl (y.mono e6)
        · exact .inr ⟨a, y1, y2.mono e6 S6.at0.go.h⟩
      · cases y
    by_cases hjl : j < (ks u).length
    · have hs : (ks u)[j]? = some (ks u)[j] := List.getElem?_eq_getElem hjl
      have hsm : (ks u)[j] ∈ ks u := List.getElem_mem hjl
      generalize (ks u)[j] = s at hs hsm
      refine .inr ⟨iok1.goes j F6 H6 (by rw [hlen1]; exact hjl) S6.go.s hpin1, fun H' => ∃ F', Sofar c G F1 H1 D (putAll acc ((ks u).take (j + 1)) (nm u)) F' H' ∧ Ex F5 F', fun H' h => ⟨(ks u).length - (j + 1), by omega, rfl, hjl, h⟩, fun x H7 y => ?_⟩
      obtain ⟨F7, d, g7, hd, rd⟩ := iok1.yields j F6 H6 x H7 (by rw [hlen1]; exact hjl) S6.go.s hpin1 y
      have hd' : d = encSpot s := by
        rw [List.getElem?_map, hs] at hd
        exact (Option.some.inj hd).symm
      subst hd'
      have S7 := S6.on g7
      refine ht1 u hmem s hsm F7 _ H7 x (S7.at0.re (s5.mono (e6.trans g7.f))) rd _ fun σ8 A8 l8 k8 => ⟨wipe_ext l8 hj1 k8, ?_⟩
      refine hk u hmem s hsm F7 σ8 H7 A8 _ fun v F9 H9 g9 r9 => hv u hmem s hsm F9 σ8 H9 (A8.on g9) _ fun w F10 H10 g10 r10 => ?_
      obtain ⟨b, rfl, hb9⟩ := spot_key r9
      cases r10
      have S10 := (S7.on g9).on g10
      have hl := putAll_len (nm u) ((ks u).take j) acc
      rw [List.length_take] at hl
      refine ⟨b, tdV (putAll acc ((ks u).take j) (nm u)), spotK s, rfl, S10.dic, S10.go.s _ _ (g10.f _ _ hb9), ?_, F10, ?_, ((e6.trans g7.f).trans g9.f).trans g10.f⟩
      · rw [sizeLine_eq]
        unfold tdV
        rw [List.length_map]
        omega
      · rw [putAll_succ hs]
        exact S10.put hD DB hDG
    · have e : j = (ks u).length := by omega
      subst e
      refine .inl ⟨by have := iok1.stops F6 H6 S6.go.s hpin1; rwa [hlen1] at this, F6, ?_⟩
      rw [List.take_length] at S6
      exact S6
  · have e : i = us.length := by omega
    subst e
    refine .inl ⟨by have := iok.stops F2 H2 S2.go.s hpin; rwa [hlen] at this, ?_⟩
    rw [List.take_length] at S2
    exact q D F2 H2 (g1.trans S2.go) (fresh_back g1.h hD) S2.out (ow_td S2.dic) fun _ e => nomatch e
end
end Dl

/-! l.remove(x) of data -/
namespace Xg
open PySem PySem.Spec PyProof.Rows L2
def rRemD (K : PySem.W.Frag) : V → List V → Hp → VK → Prop := fun x xs H Q => ∃ (l : Addr) (vs : List V) (y : V) (d : PyData) (ds : List PyData) (j : Nat) (e : PyData), x = .ref l ∧ xs = [y] ∧ H l = some (.lst vs) ∧ DpAll K H vs ds ∧ Dp K H y d ∧ SeqAt.shaped (.list ds) = true ∧ SeqAt.shaped d = true ∧
  ds[j]? = some e ∧ PyData.eqv e d = true ∧ (∀ (m : Nat) (f : PyData), m < j → ds[m]? = some f → PyData.eqv f d = false) ∧ Q .non (upd H l (.lst (vs.eraseIdx j)))
theorem mt_removeD {X : Cx} (hu : X.A.units + 65 < cLine) : MtM X "list.remove" (rRemD X.K) := by
  intro pn z σ H x xs v us Q I rx rxs h
  obtain ⟨l, vs, y, d, ds, j, e, rfl, rfl, hl, ha, hy, sl, sd, hj, hje, hno, q⟩ := h
  cases rx
  obtain ⟨u, rfl, ru⟩ := rxs.one
  obtain ⟨bs, r1⟩ := Dp.reads I d y u hy ru
  obtain ⟨zl, its, n, rv, hle, eo⟩ := I.lstM hl
  obtain ⟨as, r4⟩ := Dp.readsAll I ds vs its ha rv
  have lay : PyData.canLayAll0 ds = true := SeqAt.canLay_of_shaped sl
  have room : X.A.units + 1 + min (PyData.depthAll ds) d.depth < cLine := room_in_shaped sd hu
  have hn : its.length = ds.length := SeqAt.ReadsAll.length ds its as r4
  have hmap : its.map (SeqAt.readOf z.heap) = ds := SeqAt.readsAll_map ds its as lay r4
  have hjd := (List.getElem?_eq_some_iff.mp hj).1
  have hja : j < its.toArray.size := by rw [List.size_toArray]; omega
  have rd : ∀ (m : Nat) (hm : m < its.toArray.size) (f : PyData), ds[m]? = some f → SeqAt.readOf z.heap its.toArray[m] = f := fun m hm f hf => by
    have hm' : m < its.length := by simpa using hm
    rw [← hmap, List.getElem?_map, List.getElem?_eq_getElem hm'] at hf
    simpa using Option.some.inj hf
  refine call_meets PySem.F.slot_list_remove ⟨_, eo, rfl⟩ PySem.F.entry_list_remove (PySem.F.args_list_remove_2 _ _)
    (SeqAt.list_removeAt l its.toArray n none #[] u (fun y => PyData.eqv (SeqAt.readOf z.heap y) d) j hja ?_ ?_ (by rw [List.size_toArray]; have := rv.length; omega)) ⟨eo, SeqAt.items_eqAt (vs := its.toArray) r4 r1 lay (SeqAt.canLay_of_shaped sd) room, ?_⟩
  · show PyData.eqv (SeqAt.readOf z.heap its.toArray[j]) d = true
    rw [rd j hja e hj]
    exact hje
  · intro m hm hmj
    have hmd : m < ds.length := by omega
    show PyData.eqv (SeqAt.readOf z.heap its.toArray[m]) d = false
    rw [rd m hm _ (List.getElem?_eq_getElem hmd)]
    exact hno m _ hmj (List.getElem?_eq_getElem hmd)
  · refine ⟨.non, _, I.lset (its' := its.eraseIdx j) (t' := z.toks) hl eo ?_ (rv.eraseIdx j) ?_, rfl, q⟩
    · show its.toArray.eraseIdxIfInBounds j = (its.eraseIdx j).toArray
      rw [List.eraseIdxIfInBounds_toArray]
    · have := List.length_eraseIdx_le vs j
      omega
end Xg

namespace Dl
open PySem PySem.Spec PyProof.Rows L2 Evl Xb
theorem pl_runD (r : Rn) : Pl 1 (encRun r) := by
  intro d hd
  simp at hd
  rcases hd with rfl | rfl | rfl <;> trivial
theorem run_eqv (a b : Rn) : PyData.eqv (encRun a).py (encRun b).py = decide (a = b) := by
  obtain ⟨a1, a2, a3⟩ := a
  obtain ⟨b1, b2, b3⟩ := b
  simp [encRun, D.py, D.pyA, PyData.eqv, PyData.eqvAll]
  rfl
theorem pyA_runs (rs : List Rn) : D.pyA (rs.map encRun) = rs.map fun r => (encRun r).py := by
  induction rs with
  | nil => rfl
  | cons r rs ih => rw [List.map_cons, List.map_cons, ← ih]; rfl
theorem rpA_dp {K : PySem.W.Frag} {F H : Hp} (ex : Ex F H) : ∀ {vs : List V} {rs : List Rn}, RpA F vs (rs.map encRun) → DpAll K H vs (rs.map fun r => (encRun r).py)
  | [], [], .nil => .nil
  | _ :: _, r :: rs, .cons h t => .cons (pl_dp ex 1 (pl_runD r) h) (rpA_dp ex t)
section
variable {c : Ct} {G : Res} {ρ : En} {ta te : TE} {tz : TS} {E : Ends} {p : Addr} {rs : List Rn} {r : Rn} {j : Nat}
/-- xs.remove(run) -/
theorem sx_remR (k : Nat) (ha : EvP c G ρ ta (.ref p)) (hk : G[k]? = some (p, .lst (rs.map encRun))) (he : EvP c G ρ te (encRun r)) (hj : rs[j]? = some r) (hno : ∀ m, m < j → rs[m]? ≠ some r) (q : Sx c (G.set k (p, .lst ((rs.eraseIdx j).map encRun))) ρ tz E) :
    Sx c G ρ (tSeq (tDrop (tBM c.K "list" (Xg.rRemD c.K) ta (tCons te tNil))) tz) E := fun F σ H A => ha F σ H A _ fun v F1 H1 g1 r1 => by
  cases r1
  have A1 := A.on g1
  obtain ⟨vs, hv, rv⟩ := at_G A1 hk
  refine ⟨.inl ⟨rfl, vs, sq_of hv⟩, he F1 σ H1 A1 _ fun w F2 H2 g2 r2 => ?_⟩
  have A2 := A1.on g2
  have rv2 := rv.mono g2.f
  have pl : Pl 2 (.lst (rs.map encRun)) := fun d hd => by
    obtain ⟨x, _, rfl⟩ := List.mem_map.mp hd
    exact pl_runD x
  refine ⟨p, vs, w, (encRun r).py, rs.map fun r => (encRun r).py, j, (encRun r).py, rfl, rfl, g2.h _ _ hv, rpA_dp g2.s rv2, pl_dp g2.s 1 (pl_runD r) r2, ?_, pl_shaped (by decide) (pl_runD r), by rw [List.getElem?_map, hj]; rfl, by rw [run_eqv]; simp, fun m f hm hf => ?_, ?_⟩
  · have := pl_shaped (n := 2) (by decide) pl
    have e : D.py (.lst (rs.map encRun)) = .list (D.pyA (rs.map encRun)) := rfl
    rw [e, pyA_runs] at this
    exact this
  · rw [List.getElem?_map] at hf
    obtain ⟨x, hx, rfl⟩ := Option.map_eq_some_iff.mp hf
    rw [run_eqv]
    have : x ≠ r := fun e => hno m hm (e ▸ hx)
    simp [this]
  · refine q F2 σ _ (A2.upd hk ⟨_, upd_same, ?_⟩ fun _ e => nomatch e)
    have er : ∀ (i : Nat) {vs : List V} {ds : List D}, RpA F2 vs ds → RpA F2 (vs.eraseIdx i) (ds.eraseIdx i) := by
      intro i
      induction i with
      | zero => intro vs ds h; cases h with
        | nil => exact .nil
        | cons _ t => exact t
      | succ i ih => intro vs ds h; cases h with
        | nil => exact .nil
        | cons a t => exact .cons a (ih t)
    have := er j rv2
    rwa [show (rs.map encRun).eraseIdx j = (rs.eraseIdx j).map encRun by
      clear er this rv2 hv rv pl A2 r2 g2 A1 g1 q hno hj hk
      induction rs generalizing j with
      | nil => cases j <;> rfl
      | cons x rs ih => cases j with
        | zero => rfl
        | succ j => show encRun x :: (rs.map encRun).eraseIdx j = encRun x :: (rs.eraseIdx j).map encRun; rw [ih]] at this
end
end Dl

/-! sorted(xs) of triples of ints -/
namespace SrtO
open PySem PySem.Spec PyProof.Rows Srt
section
variable {prog : Program} {w : World} {A : Around} {E : Value → Shared → Prop} {s : Shared}
def IsTri (h : Heap) (v : Value) (t : Int × Int × Int) : Prop := ∃ a o u1 u2 u3 n, v = .ref a ∧ h.get? a = some o ∧ o.cls = .type "tuple" ∧ o.data = .seq #[.int t.1 u1, .int t.2.1 u2, .int t.2.2 u3] n
theorem IsTri.stay {h h' : Heap} {v : Value} {t : Int × Int × Int} (p : IsTri h v t) (k : ∀ b o, h.get? b = some o → o.cls = .type "tuple" → h'.get? b = some o) : IsTri h' v t :=
  let ⟨a, o, u1, u2, u3, n, e, q1, q2, q3⟩ := p
  ⟨a, o, u1, u2, u3, n, e, k _ _ q1 q2, q2, q3⟩
def lexT (p q : Int × Int × Int) : Bool := if p.1 = q.1 then (if p.2.1 = q.2.1 then decide (p.2.2 < q.2.2) else decide (p.2.1 < q.2.1)) else decide (p.1 < q.1)
theorem lexT_iff {p q : Int × Int × Int} : lexT p q = true ↔ p.1 < q.1 ∨ (p.1 = q.1 ∧ (p.2.1 < q.2.1 ∨ (p.2.1 = q.2.1 ∧ p.2.2 < q.2.2))) := by
  unfold lexT
  split
  · split
    · rw [decide_eq_true_eq]; omega
    · rw [decide_eq_true_eq]; omega
  · rw [decide_eq_true_eq]; omega
theorem lexT_no {p q : Int × Int × Int} : lexT p q = false ↔ ¬ (p.1 < q.1 ∨ (p.1 = q.1 ∧ (p.2.1 < q.2.1 ∨ (p.2.1 = q.2.1 ∧ p.2.2 < q.2.2)))) := by
  rw [← lexT_iff]
  cases lexT p q <;> simp
theorem swoT {α : Type} (k : α → Int × Int × Int) : Swo fun v u => lexT (k v) (k u) := by
  refine ⟨fun x y g => ?_, fun x y z g1 g2 => ?_⟩
  · have a := lexT_iff.mp g
    exact lexT_no.mpr (by omega)
  · have a := lexT_no.mp g1
    have b := lexT_no.mp g2
    exact lexT_no.mpr (by omega)
theorem tri_cmp {vs : List Value} {k : Value → Int × Int × Int} (hp : ∀ v ∈ vs, IsTri s.heap v (k v)) : Cmp prog w A s (tuples' true) (fun p => p.1 ∈ vs) (lt2 fun v u => lexT (k v) (k u)) := by
  intro p q hm hm'
  have g1 := hp _ hm
  have g2 := hp _ hm'
  show wpAny (model prog w) A (keyLt' (tuples' true) p.1 q.1) (fun r z => z = s ∧ r = lexT (k p.1) (k q.1)) (fun _ _ => False) s
  generalize k p.1 = t1 at g1 ⊢
  generalize k q.1 = t2 at g2 ⊢
  obtain ⟨x, y, z⟩ := t1
  obtain ⟨x', y', z'⟩ := t2
  obtain ⟨a, o, u1, u2, u3, n, e, ho, hc, hd⟩ := g1
  obtain ⟨b, o', u1', u2', u3', n', e', ho', hc', hd'⟩ := g2
  rw [e, e']
  refine PySem.W.kat_lt ho hd ho' hd' ?_
  show PySem.W.KatLex prog w A true (decide (3 < 3)) _ [(.int x u1, .int x' u1'), (.int y u2, .int y' u2'), (.int z u3, .int z' u3')] 0 s
  refine PySem.W.kat_cons (SeqAt.EqAt.int_int x u1 x' u1' prog w _ _ ?_)
  refine PySem.W.kat_go (fun c1 => ?_) (fun c1 => ?_)
  · have ex : x = x' := by simpa using c1
    refine PySem.W.kat_yes (PySem.W.kat_cons (SeqAt.EqAt.int_int y u2 y' u2' prog w _ _ ?_))
    refine PySem.W.kat_go (fun c2 => ?_) (fun c2 => ?_)
    · have ey : y = y' := by simpa using c2
      refine PySem.W.kat_yes (PySem.W.kat_cons (SeqAt.EqAt.int_int z u3 z' u3' prog w _ _ ?_))
      refine PySem.W.kat_go (fun c3 => ?_) (fun c3 => ?_)
      · have ez : z = z' := by simpa using c3
        have r : lexT (x, y, z) (x', y', z') = false := lexT_no.mpr (by simp only; omega)
        exact PySem.W.kat_yes (PySem.W.kat_nil ⟨rfl, r.symm⟩)
      · have r : lexT (x, y, z) (x', y', z') = decide (z < z') := by unfold lexT; rw [if_pos ex, if_pos ey]
        refine PySem.W.kat_no (PySem.W.kat_one _ _ (PyProof.Rows.lt_int ?_))
        exact (show s = s ∧ decide (z < z') = lexT (x, y, z) (x', y', z') from ⟨rfl, r.symm⟩)
    · have ey : ¬ y = y' := by simpa using c2
      have r : lexT (x, y, z) (x', y', z') = decide (y < y') := by unfold lexT; rw [if_pos ex, if_neg ey]
      refine PySem.W.kat_no (PySem.W.kat_one _ _ (PyProof.Rows.lt_int ?_))
      exact (show s = s ∧ decide (y < y') = lexT (x, y, z) (x', y', z') from ⟨rfl, r.symm⟩)
  · have ex : ¬ x = x' := by simpa using c1
    have r : lexT (x, y, z) (x', y', z') = decide (x < x') := by unfold lexT; rw [if_neg ex]
    exact PySem.W.kat_no (oneLt_int ⟨rfl, r.symm⟩)
theorem tri_firsts {h : Heap} {k : Value → Int × Int × Int} : ∀ {vs : List Value}, (∀ v ∈ vs, IsTri h v (k v)) → ∃ fs : List Value, PySem.W.KatTups h vs fs ∧ fs.length = vs.length ∧ ∀ f ∈ fs, ∃ x t, f = Value.int x t
  | [], _ => ⟨[], .nil, rfl, fun f m => nomatch m⟩
  | v :: vs, hp => by
    obtain ⟨fs, g1, g2, g3⟩ := tri_firsts (k := k) (vs := vs) fun u m => hp u (.tail _ m)
    obtain ⟨a, o, u1, u2, u3, n, e, q1, q2, q3⟩ := hp v (.head _)
    subst e
    refine ⟨.int _ u1 :: fs, .cons q1 q2 q3 rfl g1, congrArg (· + 1) g2, fun f m => ?_⟩
    cases m with
    | head => exact ⟨_, _, rfl⟩
    | tail _ m => exact g3 f m
theorem tri_sortable {a : Addr} {vs : List Value} {k : Value → Int × Int × Int} (h0 : 0 < vs.length) (hp : ∀ v ∈ vs, IsTri s.heap v (k v)) (ha : ∀ o, s.heap.get? a = some o → o.cls ≠ .type "tuple") : SortableO prog w A s a vs fun v u => lexT (k v) (k u) := by
  intro hn keep
  have hq : ∀ v ∈ vs, IsTri hn v (k v) := fun v m => (hp v m).stay fun b o e c => keep b o (fun z => by subst z; exact ha o e c) e
  obtain ⟨fs, g1, g2, g3⟩ := tri_firsts hq
  refine ⟨tuples' true, fun Q E go => ?_, tri_cmp hq⟩
  refine PySem.W.kat_kind (T := .type "int") g1 (by omega) (fun f m => ?_) (by rfl) ?_
  · obtain ⟨x, t, rfl⟩ := g3 f m
    exact .now
  · have c : (Value.type "int" != Value.type "tuple") = true := by first | decide +kernel | rfl | decide
    rw [c]
    exact go
theorem sorted_tris {l : Addr} {vs : List Value} {k : Value → Int × Int × Int} {Q : Value → Shared → Prop} (hl : s.heap.IsList l vs.toArray) (hz : vs.length ≤ sizeLine) (hp : ∀ v ∈ vs, IsTri s.heap v (k v))
    (h : ∀ (hn : Heap) (d : Addr) (out : List Value), Srtd (fun v u => lexT (k v) (k u)) out → Stb (fun v u => lexT (k v) (k u)) out vs → (∀ b o, s.heap.get? b = some o → hn.get? b = some o) → s.heap.objs.size ≤ d → (∃ n, hn.get? d = some (seqObj "list" out.toArray n)) → Q (.ref d) { s with heap := hn }) :
    wpAny (model prog w) A (call (.builtin "sorted") [.ref l]) Q E s := by
  refine sorted_ord (swoT k) hl hz (fun l2 hx a ea kk => ?_) fun out g1 g2 => ?_
  · refine tri_sortable (s := { s with heap := hx }) (by omega) (fun v m => (hp v m).stay fun b o e _ => (kk b o e).2) fun o e => ?_
    cases (e.symm.trans ea)
    intro c
    exact absurd (Value.type.inj c) (by decide)
  · exact h _ _ out g1 g2 (fun b o e => sortedAll_old e) (Nat.le_succ _) (sortedAll_at s.heap vs out.toArray)
end
end SrtO

namespace L2
open PySem PySem.Spec PyProof.Rows
/-- sorted(xs), xs a list of triples of ints -/
def rSortedTO (K : PySem.W.Frag) : List V → Hp → VK → Prop := fun vs H Q => ∃ (a : Addr) (xs : List V) (k : V → Int × Int × Int), vs = [V.ref a] ∧ SqL K H a xs ∧ (∀ x ∈ xs, ∃ t, x = V.ref t ∧ H t = some (.tup [.int (k x).1, .int (k x).2.1, .int (k x).2.2])) ∧
  ∀ ys p, SrtO.Srtd (fun x y => SrtO.lexT (k x) (k y)) ys → ys.Perm xs → H p = none → Q (.ref p) (upd H p (.lst ys))
theorem vals3 {a b c : V} {us : List Value} (r : Vals [a, b, c] us) : ∃ u v w, us = [u, v, w] ∧ RelV a u ∧ RelV b v ∧ RelV c w := by
  cases r with
  | cons r1 r =>
    cases r with
    | cons r2 r =>
      cases r with
      | cons r3 r =>
        cases r
        exact ⟨_, _, _, rfl, r1, r2, r3⟩
theorem cr_sortedTO {X : Cx} : CallR X (.builtin "sorted") (rSortedTO X.K) := by
  intro pn z σ H vs us Q I r h
  obtain ⟨a, xs, k, rfl, hs, hx, q⟩ := h
  obtain ⟨its, rv, hl, hz⟩ := I.list hs
  obtain ⟨u, rfl, ru⟩ := vals1 r
  obtain rfl : u = Value.ref a := ru
  obtain ⟨e1, e2⟩ := refs_back rv fun x m => let ⟨t, e, _⟩ := hx x m; ⟨t, e⟩
  refine SrtO.sorted_tris (k := fun v => k (backV v)) hl.isList (by rw [← rv.length]; exact hz) (fun v hv => ?_) fun hp d out g1 g2 kp hd hn => ?_
  · obtain ⟨t, rfl⟩ := e2 v hv
    have hm : V.ref t ∈ xs := by rw [e1]; exact List.mem_map.mpr ⟨_, hv, rfl⟩
    obtain ⟨t', e, ht⟩ := hx _ hm
    cases e
    obtain ⟨_, its2, r2, o, ho, hc, n, hdt⟩ := I.hok _ _ ht
    obtain ⟨w1, w2, w3, rfl, r3, r4, r5⟩ := vals3 r2
    obtain ⟨t1, rfl⟩ := r3
    obtain ⟨t2, rfl⟩ := r4
    obtain ⟨t3, rfl⟩ := r5
    exact ⟨t, o, t1, t2, t3, n, rfl, ho, hc, hdt⟩
  · have g3 : ∀ u ∈ out, ∃ a, u = Value.ref a := fun u hu => e2 u (g2.perm.mem_iff.mp hu)
    obtain ⟨n, hn⟩ := hn
    have pm : (out.map backV).Perm xs := by rw [e1]; exact g2.perm.map backV
    refine ⟨.ref d, upd H d (.lst (out.map backV)), I.laid (t' := z.toks) kp hd ⟨?_, out, n, vals_back g3, hn⟩, rfl, q _ d (SrtO.srtd_map g1) pm (I.hok.fresh hd)⟩
    rw [pm.length_eq]
    exact hz
end L2

namespace Dl
open PySem PySem.Spec PyProof.Rows L2 Evl Xb
/-- the three numbers of a tuple -/
def kOf (H : Hp) : V → Int × Int × Int
  | .ref a => match H a with
    | some (.tup [.int x, .int y, .int z]) => (x, y, z)
    | _ => (0, 0, 0)
  | _ => (0, 0, 0)
theorem kOf_run {F H : Hp} (ex : Ex F H) {v : V} {t : Rn} (r : Rp F v (encRun t)) : kOf H v = t ∧ ∃ b, v = .ref b ∧ F b = some (.tup [.int t.1, .int t.2.1, .int t.2.2]) := by
  unfold encRun at r
  cases r with
  | tup h1 h2 =>
    have e := RpA.ints (ns := [t.1, t.2.1, t.2.2]) h2
    rw [e] at h1
    refine ⟨?_, _, rfl, h1⟩
    show (match H _ with | some (.tup [.int x, .int y, .int z]) => ((x, y, z) : Int × Int × Int) | _ => (0, 0, 0)) = t
    rw [ex _ _ h1]
    rfl
theorem runs_map {F H : Hp} (ex : Ex F H) : ∀ {vs : List V} {ts : List Rn}, RpA F vs (ts.map encRun) → vs.map (kOf H) = ts
  | [], [], .nil => rfl
  | v :: vs, t :: ts, .cons h r => by rw [List.map_cons, (kOf_run ex h).1, runs_map ex r]
theorem runs_each {F : Hp} : ∀ {vs : List V} {ts : List Rn}, RpA F vs (ts.map encRun) → ∀ v ∈ vs, ∃ t, Rp F v (encRun t)
  | [], [], .nil => fun v h => nomatch h
  | v :: vs, t :: ts, .cons h r => fun u hu => by
    rcases List.mem_cons.mp hu with rfl | hu
    · exact ⟨t, h⟩
    · exact runs_each r u hu
theorem rpA_each {F : Hp} {f : V → D} : ∀ {vs : List V}, (∀ v ∈ vs, Rp F v (f v)) → RpA F vs (vs.map f)
  | [], _ => .nil
  | v :: vs, h => .cons (h v List.mem_cons_self) (rpA_each fun u hu => h u (List.mem_cons_of_mem _ hu))
section
variable {c : Ct} {G : Res} {ρ : En} {te : TE} {ts m : List Rn}
/-- sorted(xs) of triples: m is what stands sorted -/
theorem n_sortT (h : EvS c G ρ te (.lst (ts.map encRun))) (hs : m.Pairwise fun x y => SrtO.lexT y x = false) (hp : m.Perm ts) : EvN c G ρ (tCB (rSortedTO c.K) (tCons te tNil)) (.lst (m.map encRun)) := fun F σ H A Q q => h F σ H A _ fun v F1 H1 g1 r1 => by
  obtain ⟨a, vs, rfl, h1, h2⟩ := r1.lst g1.s
  have hm := runs_map g1.s h2
  have he := runs_each h2
  refine ⟨a, vs, kOf H1, rfl, sq_of h1, fun x hx => ?_, fun ys p k1 k2 k3 => ?_⟩
  · obtain ⟨t, rt⟩ := he x hx
    obtain ⟨e1, b, e2, e3⟩ := kOf_run g1.s rt
    rw [e1]
    exact ⟨b, e2, g1.s _ _ e3⟩
  · have e : ys.map (kOf H1) = m := by
      refine List.Perm.eq_of_pairwise (le := fun x y => SrtO.lexT y x = false) (fun x y _ _ a1 a2 => ?_) (List.pairwise_map.mpr k1) hs ?_
      · have b1 := SrtO.lexT_no.mp a1
        have b2 := SrtO.lexT_no.mp a2
        obtain ⟨x1, x2, x3⟩ := x
        obtain ⟨y1, y2, y3⟩ := y
        simp only at b1 b2
        have : x1 = y1 ∧ x2 = y2 ∧ x3 = y3 := by omega
        obtain ⟨rfl, rfl, rfl⟩ := this
        rfl
      · exact (k2.map _).trans (by rw [hm]; exact hp.symm)
    refine q p F1 _ (g1.trans (Go.newH g1.s k3)) (fresh_back g1.h k3) (fresh_back g1.s k3) ⟨ys, upd_same, ?_⟩ fun _ e => nomatch e
    rw [← e, List.map_map]
    refine rpA_each fun y hy => ?_
    obtain ⟨t, rt⟩ := he y (k2.mem_iff.mp hy)
    show Rp F1 y (encRun (kOf H1 y))
    rw [(kOf_run g1.s rt).1]
    exact rt
end
/-! pairs -/
def kOf2 (H : Hp) : V → Int × Int
  | .ref a => match H a with
    | some (.tup [.int x, .int y]) => (x, y)
    | _ => (0, 0)
  | _ => (0, 0)
theorem kOf_spot {F H : Hp} (ex : Ex F H) {v : V} {t : Spot} (r : Rp F v (encSpot t)) : kOf2 H v = t ∧ ∃ b, v = .ref b ∧ F b = some (.tup [.int t.1, .int t.2]) := by
  unfold encSpot at r
  cases r with
  | tup h1 h2 =>
    have e := RpA.ints (ns := [t.1, t.2]) h2
    rw [e] at h1
    refine ⟨?_, _, rfl, h1⟩
    show (match H _ with | some (.tup [.int x, .int y]) => ((x, y) : Int × Int) | _ => (0, 0)) = t
    rw [ex _ _ h1]
    rfl
theorem spots_map {F H : Hp} (ex : Ex F H) : ∀ {vs : List V} {ts : List Spot}, RpA F vs (ts.map encSpot) → vs.map (kOf2 H) = ts
  | [], [], .nil => rfl
  | v :: vs, t :: ts, .cons h r => by rw [List.map_cons, (kOf_spot ex h).1, spots_map ex r]
theorem spots_each {F : Hp} : ∀ {vs : List V} {ts : List Spot}, RpA F vs (ts.map encSpot) → ∀ v ∈ vs, ∃ t, Rp F v (encSpot t)
  | [], [], .nil => fun v h => nomatch h
  | v :: vs, t :: ts, .cons h r => fun u hu => by
    rcases List.mem_cons.mp hu with rfl | hu
    · exact ⟨t, h⟩
    · exact spots_each r u hu
section
variable {c : Ct} {G : Res} {ρ : En} {te : TE} {ts m : List Spot}
theorem n_sortP (h : EvS c G ρ te (.lst (ts.map encSpot))) (hs : m.Pairwise fun x y => SrtO.lexB y x = false) (hp : m.Perm ts) : EvN c G ρ (tCB (rSortedPO c.K) (tCons te tNil)) (.lst (m.map encSpot)) := fun F σ H A Q q => h F σ H A _ fun v F1 H1 g1 r1 => by
  obtain ⟨a, vs, rfl, h1, h2⟩ := r1.lst g1.s
  have hm := spots_map g1.s h2
  have he := spots_each h2
  refine ⟨a, vs, kOf2 H1, rfl, sq_of h1, fun x hx => ?_, fun ys p k1 k2 k3 => ?_⟩
  · obtain ⟨t, rt⟩ := he x hx
    obtain ⟨e1, b, e2, e3⟩ := kOf_spot g1.s rt
    rw [e1]
    exact ⟨b, e2, g1.s _ _ e3⟩
  · have e : ys.map (kOf2 H1) = m := by
      refine List.Perm.eq_of_pairwise (le := fun x y => SrtO.lexB y x = false) (fun x y _ _ a1 a2 => ?_) (List.pairwise_map.mpr k1) hs ?_
      · have b1 := SrtO.lexB_no.mp a1
        have b2 := SrtO.lexB_no.mp a2
        obtain ⟨x1, x2⟩ := x
        obtain ⟨y1, y2⟩ := y
        simp only at b1 b2
        have : x1 = y1 ∧ x2 = y2 := by omega
        obtain ⟨rfl, rfl⟩ := this
        rfl
      · exact (k2.perm.map _).trans (by rw [hm]; exact hp.symm)
    refine q p F1 _ (g1.trans (Go.newH g1.s k3)) (fresh_back g1.h k3) (fresh_back g1.s k3) ⟨ys, upd_same, ?_⟩ fun _ e => nomatch e
    rw [← e, List.map_map]
    refine rpA_each fun y hy => ?_
    obtain ⟨t, rt⟩ := he y (k2.perm.mem_iff.mp hy)
    show Rp F1 y (encSpot (kOf2 H1 y))
    rw [(kOf_spot g1.s rt).1]
    exact rt
end
end Dl

namespace Dl
open PySem PySem.Spec PyProof.Rows L2 Evl Xb
/-! ### pairs, not below -/
def geI (ns ms : List Int) : Bool := Ob.lexAt (fun j => decide (ns.getD j 0 = ms.getD j 0)) (fun j => decide (ms.getD j 0 ≤ ns.getD j 0)) (decide (ns.length ≥ ms.length)) 0 (min ns.length ms.length)
def rGeT (K : PySem.W.Frag) : R2 := fun x y H Q => ∃ (a b : Addr) (ns ms : List Int), x = .ref a ∧ y = .ref b ∧ SqT K H a (ns.map V.int) ∧ SqT K H b (ms.map V.int) ∧ Q (.bl (geI ns ms)) H
theorem eq_dec (i j : Int) : (i == j) = decide (i = j) := by
  by_cases q : i = j
  · subst q; simp
  · simp [q]
theorem op_geT {X : Cx} (hu : X.A.units < cLine) : OpR X (compareOp .GtE) (rGeT X.K) := fun pins s σ H x y v u Q I rx ry h => by
  obtain ⟨a, b, ns, ms, rfl, rfl, ha, hb, q⟩ := h
  cases rx; cases ry
  obtain ⟨its, r1, p1, _⟩ := I.tuple ha
  obtain ⟨its2, r2, p2, _⟩ := I.tuple hb
  have i1 : IntsAre its ns := Vals.ints r1
  have i2 : IntsAre its2 ms := Vals.ints r2
  have z1 : its.toArray.size = ns.length := List.size_toArray.trans i1.length
  have z2 : its2.toArray.size = ms.length := List.size_toArray.trans i2.length
  have g1 : ∀ j (hj : j < its.toArray.size), ∃ t, its.toArray[j] = .int (ns.getD j 0) t := fun j hj => i1.int_at _ _ (by simpa using hj)
  have g2 : ∀ j (hj : j < its2.toArray.size), ∃ t, its2.toArray[j] = .int (ms.getD j 0) t := fun j hj => i2.int_at _ _ (by simpa using hj)
  have R := Ob.RcOp.tuples_ge (A := X.A) (s := s) (e := fun j => decide (ns.getD j 0 = ms.getD j 0)) (r := fun j => decide (ms.getD j 0 ≤ ns.getD j 0)) p1 p2 hu
    (fun j q1 q2 => let ⟨t, e⟩ := g1 j q1; let ⟨t', e'⟩ := g2 j q2; by rw [e, e', ← eq_dec]; exact SeqAt.EqAt.int_int _ _ _ _)
    (fun j q1 q2 _ => let ⟨t, e⟩ := g1 j q1; let ⟨t', e'⟩ := g2 j q2; by rw [e, e']; exact Ob.RcOp.ge_int _ _ _ _)
  rw [z1, z2] at R
  exact R X.prog X.w _ _ ⟨.bl (geI ns ms), H, I, rfl, q⟩
theorem geI_two (a b x y : Int) : geI [a, b] [x, y] = !SrtO.lexB (a, b) (x, y) := by
  show (if decide (a = x) = true then (if decide (b = y) = true then decide (2 ≥ 2) else decide (y ≤ b)) else decide (x ≤ a)) = _
  unfold SrtO.lexB
  by_cases h1 : a = x
  · subst h1
    by_cases h2 : b = y
    · subst h2; simp
    · simp [h2]
      by_cases h3 : y ≤ b
      · have : ¬ b < y := by omega
        simp [h3, this]
      · have : b < y := by omega
        simp [h3, this]
  · simp [h1]
    by_cases h3 : x ≤ a
    · have : ¬ a < x := by omega
      simp [h3, this]
    · have : a < x := by omega
      simp [h3, this]
/-! ### a list taken apart -/
theorem pg_lstD {X : Cx} {pos : Pos} {es : List Expr} {k : Nat} {t : TGs} {n : Nat} (hc : X.calm = true) (h : PGs X es t) (hn : (assignEach es X.env).length = n := by rfl) (hst : (assignEach es X.env).findIdx? (·.1) = none := by rfl) : PG X (.Tuple es k pos) (gLst X.K n t) := pg_lst hc h hn hst
section
variable {c : Ct} {G : Res} {ρ : En} {ta tb te td tx : TE} {tz : TS} {E : Ends} {d e : D} {ds : List D} {p : Addr}
theorem p_geT {s t : Spot} (ha : EvP c G ρ ta (encSpot s)) (hb : EvP c G ρ tb (encSpot t)) : EvP c G ρ (tOp (rGeT c.K) ta tb) (.bl (!SrtO.lexB s t)) := fun F σ H A Q q => ha F σ H A _ fun v F1 H1 g1 r1 => hb F1 σ H1 (A.on g1) _ fun w F2 H2 g2 r2 => by
  unfold encSpot at r1 r2
  cases r1 with
  | tup h1 k1 =>
    cases r2 with
    | tup h2 k2 =>
      have e1 := RpA.ints (ns := [s.1, s.2]) k1
      have e2 := RpA.ints (ns := [t.1, t.2]) k2
      subst e1 e2
      refine ⟨_, _, [s.1, s.2], [t.1, t.2], rfl, rfl, st_of (g2.h _ _ (g1.s _ _ h1)), st_of (g2.s _ _ h2), ?_⟩
      rw [geI_two]
      exact q _ F2 H2 (g1.trans g2) (.bl _)
theorem g_lst {gs : TGs} {n : Nat} {ρ' : En} {js : List Nat} (h : EvGs c G ρ gs ds ρ' js) (hn : ds.length = n) : EvG c G ρ (gLst c.K n gs) (.lst ds) ρ' js := fun F σ H v A r Q q => by
  cases r with
  | lst h1 h2 => exact ⟨_, _, rfl, sq_of (A.ex _ _ h1), by rw [h2.len, hn], h F σ H _ A h2 Q q⟩
/-! ### texts cut, read -/
theorem n_split {s x : Str} (h : EvP c G ρ ta (.str s)) (h2 : EvP c G ρ tb (.str x)) (h0 : (x.length == 0) = false) (hz : s.length ≤ 99000) : EvN c G ρ (tM1 (fun x xs H Q => ∃ a b, x = .str a ∧ xs = [.str b] ∧ (b.length == 0) = false ∧ a.length + 2 ≤ sizeLine ∧ rNewStrs (Txt.split a b) H Q) ta tb) (.lst ((Txt.split s x).map D.str)) := fun F σ H A Q q => h F σ H A _ fun v F1 H1 g1 r1 => by
  cases r1
  refine ⟨⟨_, rfl⟩, h2 F1 σ H1 (A.on g1) _ fun w F2 H2 g2 r2 => ?_⟩
  cases r2
  refine ⟨s, x, rfl, rfl, h0, sz_of (by omega), fun p hp => ?_⟩
  have g := g1.trans g2
  exact q p F2 _ (g.trans (Go.newH g2.s hp)) (fresh_back g.h hp) (fresh_back g2.s hp) ⟨_, upd_same, RpA.ofStrs _⟩ fun _ e => nomatch e
theorem p_intS {s : Str} {n : Int} (h : EvP c G ρ te (.str s)) (hn : PySem.intText? s = some n) (hz : s.length ≤ 640) : EvP c G ρ (tCB (fun xs H Q => ∃ a n, xs = [.str a] ∧ PySem.intText? a = some n ∧ a.length ≤ 640 ∧ Q (.int n) H) (tCons te tNil)) (.int n) := fun F σ H A Q q => h F σ H A _ fun v F1 H1 g1 r1 => by
  cases r1
  exact ⟨s, n, rfl, hn, hz, q _ F1 H1 g1 (.int _)⟩
/-! ### an own class's instance -/
structure Isi (K : PySem.W.Frag) (C : Addr) : Prop where
  cl : Cls K C
  ha : PySem.W.findIn K (.ref C) "__class__" = some (some (.builtin "object.__class__"))
  hn : PySem.W.specialIn K (.builtin "object.__class__") "__get__" = some (some (.builtin "getset_descriptor.__get__"))
  ht : PySem.W.takesIn K (.builtin "object.__class__") = some true
  hm : PySem.W.mroIn K C (.type "object") = some true
theorem kit_self (K : PySem.W.Frag) (v : Value) (h : (v == v) = true) : PySem.W.kitOne K v v = some true := by
  unfold PySem.W.kitOne
  rw [if_pos h]
theorem p_isiC {C : Addr} {ks : List Str} (I : Isi c.K C) (h : EvP c G ρ ta (.ins C ks ds)) (hc : EvP c G ρ tb (.ref C)) : EvP c G ρ (tCB (rIsi c.K) (tCons ta (tCons tb tNil))) (.bl true) := fun F σ H A Q q => h F σ H A _ fun v F1 H1 g1 r1 => hc F1 σ H1 (A.on g1) _ fun w F2 H2 g2 r2 => by
  cases r2
  cases r1 with
  | ins e1 e2 e3 => exact ⟨_, _, _, _, true, rfl, .own C, .base (.ins (g2.h _ _ (g1.s _ _ e1)) I.cl I.ha I.hn I.ht I.hm), kit_self _ _ (by simp), q _ F2 H2 (g1.trans g2) (.bl _)⟩
end
end Dl

namespace L2
open PySem PySem.Spec PyProof.Rows
/-! ### list(d.values()) -/
def tListVals (td : TE) : TE := fun σ H Q => td σ H fun x H1 => ∃ a kvs, x = .ref a ∧ Rd H1 a (.dK kvs) ∧ ∀ p, H1 p = none → Q (.ref p) (upd H1 p (.lst (kvs.map fun kv => kv.2)))
theorem kv_vals {κ : Type} {kvs : List (κ × V)} {vs : List (κ × Value)} (r : KV kvs vs) : Vals (kvs.map fun kv => kv.2) (vs.map fun kv => kv.2) := by
  unfold KV at r
  induction r with
  | nil => exact .nil
  | cons h t ih => exact .cons h.2 ih
theorem items_eq {κ : Type} {vs : List (κ × Value)} {us : List Value} (hl : us.length = vs.length) (h : ∀ (j : Nat) v, us[j]? = some v → ∃ k, vs[j]? = some (k, v)) : us = vs.map fun kv => kv.2 := by
  refine List.ext_getElem? fun j => ?_
  rw [List.getElem?_map]
  by_cases hj : j < us.length
  · obtain ⟨k, e⟩ := h j _ (List.getElem?_eq_getElem hj)
    rw [e, List.getElem?_eq_getElem hj]
    rfl
  · rw [List.getElem?_eq_none (by omega), List.getElem?_eq_none (by omega)]
    rfl
theorem pe_listVals {X : Cx} {p apos mpos pos : Pos} {o : Expr} {td : TE} (hc : X.calm = true) (hg : Gl X "list") (hm : X.mg "list" = none) (hd : PE X o td) (hbase : attributeBase o "values" X.env (eval o X.env) = eval o X.env := by rfl) (hline : (apos.endLine == mpos.line) = true := by rfl)
    (hse : starEach [Expr.Call (.Attribute o "values" apos) [] [] mpos] X.env = [(false, eval (Expr.Call (.Attribute o "values" apos) [] [] mpos) X.env)] := by rfl) : PE X (.Call (.Name "list" p) [.Call (.Attribute o "values" apos) [] [] mpos] [] pos) (tListVals td) := by
  refine ⟨fun pins s σ H Q I h => ?_⟩
  refine wpAny_Call_Name_kw (ld_blt I hg hm (u := .type "list") PyProof.Rows.boot_list ?_ (by first | decide +kernel | decide) (by first | decide +kernel | decide))
  rw [hse]
  refine PySem.callWith_type1 (wpAny_Call_method0_late hbase hline (thn (hd.run pins s σ H _ I h) fun v s1 ⟨x, H1, I1, r1, a, kvs, ex, ha, q⟩ => ?_))
  subst ex
  obtain rfl : v = Value.ref a := r1
  obtain ⟨hz, hsys, vs, rel, dof⟩ := dk_rd I1.hok ha
  obtain ⟨ep, dat⟩ := dof.dictAt
  have dat2 := dat
  obtain ⟨ob, es, ho, ex, hdat, _⟩ := dat2
  refine ⟨"dict", "dict.values", F.plainAttrs_dict, F.slot_dict_values, F.type_dict_values, ⟨ob, ho, ex.1⟩, fun b e => ?_, Calls.callWith_builtin rfl (PySem.evalArgs_none ?_)⟩
  · cases e; exact ⟨ob, ho, ex.2.1⟩
  refine call_meetsIn F.slot_dict_values ⟨ob, ho, ex.1⟩ F.entry_dict_values (F.args_dict_values_1 _) (meets_dict_values (mixKind X.prog X.w) a hsys) ⟨⟨vs, dof⟩, ?_⟩
  have k1 : ∀ b u, s1.heap.get? b = some u → (s1.heap.push { cls := .type "dict_values", data := .fields #[.ref a] }).get? b = some u := fun b u e => Heap.get?_push_of_some _ e
  have hsz : (s1.heap.push { cls := .type "dict_values", data := .fields #[.ref a] }).objs.size = s1.heap.objs.size + 1 := Heap.size_push _ _
  have hok : (s1.heap.push { cls := .type "dict_values", data := .fields #[.ref a] }).IsValuesView s1.heap.objs.size a ∧ (s1.heap.push { cls := .type "dict_values", data := .fields #[.ref a] }).DictAt (mixKind X.prog X.w) a vs ep := ⟨⟨_, Heap.get?_push_size _ rfl, rfl, rfl⟩, dat.keep k1⟩
  refine PySem.W.kdl_call (s := { s1 with heap := s1.heap.push { cls := .type "dict_values", data := .fields #[.ref a] } }) (PySem.W.kdl_values (knd := mixKind X.prog X.w) (r := s1.heap.objs.size) (d := a) (kvs := vs) (ep := ep)) (I1.ok.hd hc) hok (by rw [← rel.length]; exact hz) fun h' tk acc c' hk hD hacc => ?_
  have hv : acc.toList = vs.map fun kv => kv.2 := items_eq (by rw [Array.length_toList]; exact hacc.1) fun j v e => hacc.2 j v (by rw [← Array.getElem?_toList]; exact e)
  have hle : s1.heap.objs.size ≤ (s1.heap.push { cls := .type "dict_values", data := .fields #[.ref a] }).objs.size := by rw [hsz]; exact Nat.le_succ _
  refine ⟨.ref _, upd H1 _ (.lst (kvs.map fun kv => kv.2)), I1.laid (t' := tk) (fun b u e => hk b u (k1 b u e)) hle
    (show ObjOk X.prog X.w _ _ _ (.lst (kvs.map fun kv => kv.2)) from ⟨by rw [List.length_map]; exact hz, acc.toList, c', by rw [hv]; exact kv_vals rel, by rw [Array.toArray_toList]; exact hD⟩), rfl, q _ (I1.hok.fresh hle)⟩
end L2
namespace Dl
open PySem PySem.Spec PyProof.Rows L2 Evl Xb
theorem pe_listVals {X : Cx} {p apos mpos pos : Pos} {o : Expr} {td : TE} (hc : X.calm = true) (hg : Gl X "list") (hm : X.mg "list" = none) (hd : PE X o td) (hbase : attributeBase o "values" X.env (eval o X.env) = eval o X.env := by rfl) (hline : (apos.endLine == mpos.line) = true := by rfl)
    (hse : starEach [Expr.Call (.Attribute o "values" apos) [] [] mpos] X.env = [(false, eval (Expr.Call (.Attribute o "values" apos) [] [] mpos) X.env)] := by rfl) : PE X (.Call (.Name "list" p) [.Call (.Attribute o "values" apos) [] [] mpos] [] pos) (tListVals td) := L2.pe_listVals hc hg hm hd hbase hline hse
/-! ### tables of pairs, copies -/
def putsA (acc l : KD) : KD := l.foldl (fun acc e => putA acc e.1 e.2) acc
def pairD (e : Str × D) : D := .tup [.str e.1, e.2]
def rDictP (K : PySem.W.Frag) : List V → Hp → VK → Prop := fun xs H Q => ∃ (a : Addr) (ps : List Addr) (kvs : List (Key × V)), xs = [.ref a] ∧ SqL K H a (ps.map V.ref) ∧ Paired (fun p kv => SqT K H p [kV kv.1, kv.2]) ps kvs ∧ ∀ p, H p = none → Q (.ref p) (upd H p (.dK (mergeK [] kvs)))
theorem pairs_at {F : Hp} : ∀ {vs : List V} {l : KD}, RpA F vs (l.map pairD) → ∃ (ps : List Addr) (kvs : List (Key × V)), vs = ps.map V.ref ∧ Paired (fun p kv => F p = some (.tup [kV kv.1, kv.2])) ps kvs ∧ kvs.map (·.1) = l.map (fun e => (.inr e.1 : Key)) ∧ RpA F (kvs.map (·.2)) (l.map fun e => e.2)
  | [], [], .nil => ⟨[], [], rfl, .nil, rfl, .nil⟩
  | v :: vs, e :: l, .cons h r => by
    obtain ⟨ps, kvs, h1, h2, h3, h4⟩ := pairs_at r
    unfold pairD at h
    cases h with
    | @tup a ws _ k1 k2 =>
      cases k2 with
      | cons r1 k2 =>
        cases k2 with
        | @cons y _ _ _ r2 k2 =>
          cases k2
          cases r1
          exact ⟨a :: ps, (.inr e.1, y) :: kvs, by rw [h1]; rfl, .cons k1 h2, by rw [List.map_cons, List.map_cons, h3], .cons r2 h4⟩
theorem merge_at {F : Hp} : ∀ {kvs : List (Key × V)} {l : KD} {acc : List (Key × V)} {ac : KD}, kvs.map (·.1) = l.map (fun e => (.inr e.1 : Key)) → RpA F (kvs.map (·.2)) (l.map fun e => e.2) → acc.map (·.1) = ac.map (fun e => (.inr e.1 : Key)) → RpA F (acc.map (·.2)) (ac.map fun e => e.2) →
    (mergeK acc kvs).map (·.1) = (putsA ac l).map (fun e => (.inr e.1 : Key)) ∧ RpA F ((mergeK acc kvs).map (·.2)) ((putsA ac l).map fun e => e.2)
  | [], [], _, _, _, _, h3, h4 => ⟨h3, h4⟩
  | [], _ :: _, _, _, h, _, _, _ => by simp at h
  | _ :: _, [], _, _, h, _, _, _ => by simp at h
  | (k, v) :: kvs, (x, d) :: l, acc, ac, h1, h2, h3, h4 => by
    rw [List.map_cons, List.map_cons] at h1
    obtain ⟨e1, e2⟩ := List.cons.inj h1
    have e1' : k = .inr x := e1
    subst e1'
    cases h2 with
    | cons r1 r2 =>
      obtain ⟨p1, p2⟩ := kd_put (s := x) r1 h3 h4
      exact merge_at (kvs := kvs) (l := l) (acc := putK acc (.inr x) v) (ac := putA ac x d) e2 r2 p1 p2
section
variable {c : Ct} {G : Res} {ρ : En} {ta tb te td tx : TE} {tz : TS} {E : Ends} {d e : D} {ds : List D} {p : Addr} {l : KD}
theorem paired_mono {α β : Type} {R S : α → β → Prop} (h : ∀ a b, R a b → S a b) : ∀ {xs : List α} {ys : List β}, Paired R xs ys → Paired S xs ys
  | _, _, .nil => .nil
  | _, _, .cons a b => .cons (h _ _ a) (paired_mono h b)
theorem n_dictP (h : EvS c G ρ te (.lst (l.map pairD))) : EvN c G ρ (tCB (rDictP c.K) (tCons te tNil)) (kdD (putsA [] l)) := fun F σ H A Q q => h F σ H A _ fun v F1 H1 g1 r1 => by
  obtain ⟨a, vs, rfl, h1, h2⟩ := r1.lst g1.s
  obtain ⟨ps, kvs, e1, e2, e3, e4⟩ := pairs_at h2
  subst e1
  refine ⟨a, ps, kvs, rfl, sq_of h1, paired_mono (fun _ _ k => st_of (g1.s _ _ k)) e2, fun p hp => ?_⟩
  obtain ⟨m1, m2⟩ := merge_at (acc := []) (ac := []) e3 e4 rfl .nil
  exact q p F1 _ (g1.trans (Go.newH g1.s hp)) (fresh_back g1.h hp) (fresh_back g1.s hp) ⟨_, upd_same, m1, m2⟩ fun _ e => nomatch e
theorem n_copyK (h : EvS c G ρ te (kdD l)) : EvN c G ρ (tCB (fun xs H Q => ∃ (a : Addr) (kvs : List (Key × V)), xs = [.ref a] ∧ Rd H a (.dK kvs) ∧ ∀ p, H p = none → Q (.ref p) (upd H p (.dK kvs))) (tCons te tNil)) (kdD l) := fun F σ H A Q q => h F σ H A _ fun v F1 H1 g1 r1 => by
  obtain ⟨a, kvs, rfl, h1, h2, h3⟩ := shl_kd g1.s r1
  exact ⟨a, kvs, rfl, .of h1, fun p hp => q p F1 _ (g1.trans (Go.newH g1.s hp)) (fresh_back g1.h hp) (fresh_back g1.s hp) ⟨kvs, upd_same, h2, h3⟩ fun _ e => nomatch e⟩
theorem n_valsK (h : EvS c G ρ td (kdD l)) : EvN c G ρ (tListVals td) (.lst (l.map fun e => e.2)) := fun F σ H A Q q => h F σ H A _ fun v F1 H1 g1 r1 => by
  obtain ⟨a, kvs, rfl, h1, h2, h3⟩ := shl_kd g1.s r1
  exact ⟨a, kvs, rfl, .of h1, fun p hp => q p F1 _ (g1.trans (Go.newH g1.s hp)) (fresh_back g1.h hp) (fresh_back g1.s hp) ⟨_, upd_same, h3⟩ fun _ e => nomatch e⟩
end
end Dl

namespace Dl
open PySem PySem.Spec PyProof.Rows L2 Evl Xb
/-! ### own lists within an own table -/
abbrev NL := List (Str × Addr × List D)
def refsD (l : NL) : KD := l.map fun e => (e.1, .ref e.2.1)
def nOwn (p : Addr) (l : NL) : Res := (p, kdD (refsD l)) :: l.map fun e => (e.2.1, .lst e.2.2)
theorem refs_names (l : NL) : (refsD l).map (·.1) = l.map (·.1) := by unfold refsD; rw [List.map_map]; rfl
theorem set_same {α : Type} : ∀ {l : List α} {j : Nat} {x : α}, l[j]? = some x → l.set j x = l
  | [], _, _, h => by simp at h
  | y :: l, 0, x, h => by simp at h; subst h; rfl
  | y :: l, j + 1, x, h => by rw [List.set_cons_succ, set_same (by simpa using h)]
theorem nOwn_set {p : Addr} {l : NL} {j : Nat} {e : Str × Addr × List D} (h : l[j]? = some e) (ds : List D) : (nOwn p l).set (j + 1) (e.2.1, .lst ds) = nOwn p (l.set j (e.1, e.2.1, ds)) := by
  unfold nOwn
  rw [List.set_cons_succ, List.map_set]
  congr 2
  unfold refsD
  rw [List.map_set, set_same]
  rw [List.getElem?_map, h]
  rfl
section
variable {c : Ct} {G G1 G2 G' : Res} {ρ ρ' : En} {ta tb te td ty tx : TE} {tz ts : TS} {t : TT} {E : Ends} {d e : D} {ds : List D} {p : Addr} {s : Str} {l : NL}
theorem At.permO {F H : Hp} {σ : L2.St} (p : List.Perm G G') (A : At c G ρ F σ H) : At c G' ρ F σ H :=
  ⟨A.go, A.sl, A.sh, fun x hx => A.ow x (p.mem_iff.mpr hx), (p.map (·.1)).nodup_iff.mp A.nd, fun x hx => A.ns x (p.mem_iff.mpr hx)⟩
theorem sx_setdA (hG : G = nOwn p l) (hz : l.length < 100000) (hsz : ∀ e ∈ l, e.2.2.length < 100000) (ha : EvP c G ρ td (.ref p)) (hy : EvP c G ρ ty (.str s)) (hd : ∀ G', EvP c G' ρ te d)
    (q1 : ∀ j e, l[j]? = some e → e.1 = s → Sx c (nOwn p (l.set j (e.1, e.2.1, e.2.2 ++ [d]))) ρ tz E) (q2 : s ∉ l.map (·.1) → ∀ a, Sx c (nOwn p (l ++ [(s, a, [d])])) ρ tz E) :
    Sx c G ρ (tSeq (tDrop (tBM c.K "list" rAppend (tDSetd td ty (tLst tNil)) (tCons te tNil))) tz) E := fun F σ H A => ha F σ H A _ fun v F1 H1 g1 r1 => by
  subst hG
  cases r1
  have A1 := A.on g1
  have hp0 : (nOwn p l)[0]? = some (p, kdD (refsD l)) := rfl
  obtain ⟨a, kvs, e0, h1, h2, h3⟩ := shl_kd (l := refsD l) A1.ex (A1.read (.inr (List.mem_of_getElem? hp0)))
  cases e0
  have hl : kvs.length = l.length := by
    have := congrArg List.length h2
    simpa [refsD] using this
  refine ⟨p, rfl, .inl ⟨_, .inl h1⟩, hy F1 σ H1 A1 _ fun y F2 H2 g2 r2 => ?_⟩
  cases r2
  have A2 := A1.on g2
  refine ⟨sz_of (by simp), fun z hz0 => ?_⟩
  have h12 := g2.h _ _ h1
  have hpz : p ≠ z := fun q => by rw [q, hz0] at h12; cases h12
  have g3 : Go F2 H2 F2 (upd H2 z (.lst [])) := Go.newH A2.ex hz0
  have h13 := g3.h _ _ h12
  have h32 := h3.mono g2.f
  refine ⟨kvs, .inr s, h13, rfl, sz_lt (by rw [hl]; exact hz), fun v hv => ?_, fun hn => ?_⟩
  · rcases kd_val (s := s) h2 h32 with ⟨e1, e2⟩ | ⟨d0, v0, e1, e2, rv⟩
    · rw [e2] at hv; cases hv
    · rw [e2] at hv
      cases hv
      obtain ⟨e, he, hee⟩ := List.mem_map.mp (valA_some_mem e1)
      obtain ⟨j, hj⟩ := List.mem_iff_getElem?.mp he
      have hs1 : e.1 = s := congrArg Prod.fst hee
      have hd1 : D.ref e.2.1 = d0 := congrArg Prod.snd hee
      subst hd1
      cases rv
      have A3 := A2.on g3
      have hk : (nOwn p l)[j + 1]? = some (e.2.1, .lst e.2.2) := by
        show (l.map fun e => (e.2.1, D.lst e.2.2))[j]? = _
        rw [List.getElem?_map, hj]
        rfl
      obtain ⟨vs, hv, rv⟩ := at_G A3 hk
      refine ⟨.inl ⟨rfl, vs, sq_of hv⟩, hd (nOwn p l) F2 σ _ A3 _ fun w F4 H4 g4 r4 => ?_⟩
      have A4 := A3.on g4
      refine ⟨e.2.1, vs, w, rfl, rfl, g4.h _ _ hv, sz_lt (by rw [rv.len]; exact hsz e he), ?_⟩
      have A5 := A4.upd hk (e := .lst (e.2.2 ++ [d])) ⟨_, upd_same, (rv.mono g4.f).snoc r4⟩ fun _ e => nomatch e
      rw [nOwn_set hj] at A5
      exact q1 j e hj hs1 F4 σ _ A5
  · rcases kd_val (s := s) h2 h32 with ⟨e1, e2⟩ | ⟨d0, v0, e1, e2, rv⟩
    · have hnot : s ∉ l.map (·.1) := by
        rw [← refs_names]
        exact valA_none.mp e1
      have A3 : At c ((z, .lst []) :: nOwn p l) ρ F2 σ (upd H2 z (.lst [])) := A2.own g3 hz0 (fresh_back A2.ex hz0) ⟨[], upd_same, .nil⟩ fun _ e => nomatch e
      obtain ⟨p1, p2⟩ := kd_put (s := s) (v := .ref z) (d := .ref z) (.ref z) h2 h32
      have A4 := A3.upd (k := 1) (p := p) (d := kdD (refsD l)) (e := kdD (putA (refsD l) s (.ref z))) rfl ⟨_, upd_same, p1, p2⟩ fun _ e => nomatch e
      obtain ⟨vs, hv, rv⟩ := at_G (k := 0) (p := z) (ds := []) A4 rfl
      refine ⟨.inl ⟨rfl, vs, sq_of hv⟩, hd _ F2 σ _ A4 _ fun w F4 H4 g4 r4 => ?_⟩
      have A5 := A4.on g4
      refine ⟨z, vs, w, rfl, rfl, g4.h _ _ hv, sz_lt (by rw [rv.len]; exact Nat.zero_lt_of_lt (by decide : 0 < 100000)), ?_⟩
      have A6 := A5.upd (k := 0) (p := z) (d := .lst []) (e := .lst ([] ++ [d])) rfl ⟨_, upd_same, (rv.mono g4.f).snoc r4⟩ fun _ e => nomatch e
      have hpn : putA (refsD l) s (.ref z) = refsD (l ++ [(s, z, [d])]) := by
        rw [putA_new (by rw [refs_names]; exact hnot)]
        unfold refsD
        rw [List.map_append]
        rfl
      refine q2 hnot z F4 σ _ (At.permO ?_ A6)
      show List.Perm ((z, D.lst [d]) :: (p, kdD (putA (refsD l) s (.ref z))) :: l.map fun e => (e.2.1, D.lst e.2.2)) _
      rw [hpn]
      unfold nOwn
      rw [List.map_append]
      refine (List.Perm.swap _ _ _).trans (List.Perm.cons _ ?_)
      exact (List.perm_append_singleton (z, D.lst [d]) (l.map fun e => (e.2.1, D.lst e.2.2))).symm
    · rw [e2] at hn; cases hn
/-! frozen, all of them -/
theorem freeze_all {H : Hp} {σ : L2.St} : ∀ {qs G : Res} {F : Hp}, At c (qs ++ G) ρ F σ H → ∃ F', At c G ρ F' σ H ∧ Ex F F' ∧ ∀ x ∈ qs, Rp F' (.ref x.1) x.2
  | [], G, F, A => ⟨F, A, Ex.refl _, fun x hx => nomatch hx⟩
  | x :: qs, G, F, A => by
    obtain ⟨F1, A1, r1, e1⟩ := At.freeze (p := x.1) (d := x.2) A
    obtain ⟨F2, A2, e2, r2⟩ := freeze_all A1
    refine ⟨F2, A2, e1.trans e2, fun y hy => ?_⟩
    rcases List.mem_cons.mp hy with rfl | hy
    · exact r1.mono e2
    · exact r2 y hy
theorem refs_rp {F : Hp} : ∀ {vs : List V} {l : NL}, RpA F vs ((refsD l).map fun e => e.2) → (∀ e ∈ l, Rp F (.ref e.2.1) (.lst e.2.2)) → RpA F vs (l.map fun e => D.lst e.2.2)
  | [], [], .nil, _ => .nil
  | v :: vs, e :: l, .cons h r, k => by
    have h' : Rp F v (.ref e.2.1) := h
    cases h'
    exact .cons (k e List.mem_cons_self) (refs_rp r fun x hx => k x (List.mem_cons_of_mem _ hx))
theorem sx_freezeN (hG : G = nOwn p l) (q : Sx c [(p, kdD (l.map fun e => (e.1, .lst e.2.2)))] ρ ts E) : Sx c G ρ ts E := fun F σ H A => by
  subst hG
  have A0 : At c ((l.map fun e => (e.2.1, D.lst e.2.2)) ++ [(p, kdD (refsD l))]) ρ F σ H := At.permO (List.perm_append_singleton (p, kdD (refsD l)) (l.map fun e => (e.2.1, D.lst e.2.2))).symm A
  obtain ⟨F', A1, ex, r⟩ := freeze_all (H := H) (σ := σ) (F := F) A0
  obtain ⟨ho, hf, hB⟩ := A1.ow _ List.mem_cons_self
  obtain ⟨kvs, h1, h2, h3⟩ := ho
  refine q F' σ H ⟨A1.go, A1.sl, A1.sh, fun x hx => ?_, A1.nd, fun x hx ns => ?_⟩
  · rw [List.mem_singleton] at hx
    subst hx
    refine ⟨⟨kvs, h1, ?_, ?_⟩, hf, hB⟩
    · rw [h2]
      unfold refsD
      rw [List.map_map, List.map_map]
      rfl
    · rw [List.map_map]
      exact refs_rp h3 fun e he => r _ (List.mem_map.mpr ⟨e, he, rfl⟩)
  · rw [List.mem_singleton] at hx
    subst hx
    exact fun e => nomatch e
/-! ### a loop whose objects are not foreseen -/
theorem sx_forX {ι : Type} {wi : TI} {g : TG} {js : List Nat} (P : Nat → ι → Prop) (Gs : Nat → ι → Res) (ρs : Nat → En) (ρb : Nat → D → En) (hi : EvI c G ρ wi ds []) (x0 : ι) (p0 : P 0 x0) (h0 : G = Gs 0 x0) (l0 : Le (ρs 0) ρ)
    (ht : ∀ i d, ds[i]? = some d → ∀ x, P i x → ∀ S' : Res, EvG (c.wS S') (Gs i x) (ρs i) g d (ρb i d) js)
    (hs : ∀ i d, ds[i]? = some d → ∀ x, P i x → ∀ S' : Res, (∀ x ∈ c.S, x ∈ S') → Sx (c.wS S') (Gs i x) (ρb i d) ts { E with nx := fun σ H => ∃ y, P (i + 1) y ∧ StE (c.wS S') (Gs (i + 1) y) (ρs (i + 1)) σ H, ct := fun σ H => ∃ y, P (i + 1) y ∧ StE (c.wS S') (Gs (i + 1) y) (ρs (i + 1)) σ H, bk := tz E })
    (q : ∀ x, P ds.length x → Sx c (Gs ds.length x) (ρs ds.length) tz E) : Sx c G ρ (tSeq (tFor wi g ts) tz) E := fun F σ H A => hi F σ H A _ fun J F1 H1 pins g1 hp iok => by
  have A1 := A.on g1
  have pinS : ∀ x ∈ pins, Shl c.K F1 c.B (.ref x.1) x.2 := fun x hx => (hp x hx).resolve_right fun z => nomatch z
  have toS : ∀ {G ρ F σ H}, Ex F1 F → At c G ρ F σ H → At (c.wS (pins ++ c.S)) G ρ F σ H := fun {G ρ F σ H} e A => ⟨A.go, A.sl, fun x hx => by
    rcases List.mem_append.mp hx with hx | hx
    · rcases pinS x hx with k | ⟨a, k1, k2⟩
      · exact .inl (k.mono e)
      · exact .inr ⟨a, k1, k2.mono e (Ex.refl _)⟩
    · exact A.sh x hx, A.ow, A.nd, A.ns⟩
  have ofS : ∀ {G ρ F σ H}, At (c.wS (pins ++ c.S)) G ρ F σ H → At c G ρ F σ H := fun A => ⟨A.go, A.sl, fun x hx => A.sh x (List.mem_append_right _ hx), A.ow, A.nd, A.ns⟩
  refine ⟨fun i m σ H => m = ds.length - i ∧ i ≤ ds.length ∧ ∃ x, P i x ∧ StE (c.wS (pins ++ c.S)) (Gs i x) (ρs i) σ H, ⟨ds.length, by simp, Nat.zero_le _, x0, p0, F1, ?_⟩, ?_⟩
  · rw [← h0]
    exact toS (Ex.refl _) (A1.le l0)
  · rintro i m σ2 H2 ⟨rfl, hi2, x, px, F2, A2⟩
    have hpin : ∀ x ∈ pins, Shl c.K F2 H2 (.ref x.1) x.2 := fun x hx => A2.read (.inl (List.mem_append_left _ hx))
    by_cases hlt : i < ds.length
    · refine .inr ⟨iok.goes i F2 H2 hlt A2.ex hpin, fun σ H => ∃ y, P (i + 1) y ∧ StE (c.wS (pins ++ c.S)) (Gs (i + 1) y) (ρs (i + 1)) σ H, fun σ' H' ⟨y, py, k⟩ => ⟨ds.length - (i + 1), by omega, rfl, hlt, y, py, k⟩, fun y H3 z => ?_⟩
      obtain ⟨F3, d, g3, hd, rd⟩ := iok.yields i F2 H2 y H3 hlt A2.ex hpin z
      exact ht i d hd x px _ F3 σ2 H3 y (A2.on g3) rd _ fun σ4 A4 _ _ => hs i d hd x px _ (fun x hx => List.mem_append_right _ hx) F3 σ4 H3 A4
    · have e : i = ds.length := by omega
      subst e
      exact .inl ⟨iok.stops F2 H2 A2.ex hpin, q x px F2 σ2 H2 (ofS A2)⟩
theorem sx_forRX {ι : Type} {wi : TI} {j : Nat} {lo : Int} {n : Nat} (P : Nat → ι → Prop) (Gs : Nat → ι → Res) (ρs : Nat → En) (hi : EvI c G ρ wi (rangeD lo n) []) (x0 : ι) (p0 : P 0 x0) (h0 : G = Gs 0 x0) (l0 : Le (ρs 0) ρ)
    (hs : ∀ (i : Nat), i < n → ∀ x, P i x → ∀ S' : Res, (∀ x ∈ c.S, x ∈ S') → Sx (c.wS S') (Gs i x) ((ρs i).set j (some (.int (lo + (i : Int))))) ts { E with nx := fun σ H => ∃ y, P (i + 1) y ∧ StE (c.wS S') (Gs (i + 1) y) (ρs (i + 1)) σ H, ct := fun σ H => ∃ y, P (i + 1) y ∧ StE (c.wS S') (Gs (i + 1) y) (ρs (i + 1)) σ H, bk := tz E })
    (q : ∀ x, P n x → Sx c (Gs n x) (ρs n) tz E) : Sx c G ρ (tSeq (tFor wi (gName j) ts) tz) E := by
  have hl : (rangeD lo n).length = n := by unfold rangeD; simp
  refine sx_forX P Gs ρs (fun i d => (ρs i).set j (some d)) hi x0 p0 h0 l0 (fun i d _ x _ S' => g_name) (fun i d hd x px S' hS => ?_) (by rw [hl]; exact q)
  have hil : i < n := by
    have := (List.getElem?_eq_some_iff.mp hd).1
    omega
  have e : d = .int (lo + (i : Int)) := by
    unfold rangeD at hd
    rw [List.getElem?_map, List.getElem?_range hil] at hd
    exact (Option.some.inj hd).symm
  subst e
  exact hs i hil x px S' hS
theorem sx_endX {ι : Type} {P : ι → Prop} {Gs : ι → Res} (y : ι) (hn : E.nx = fun σ H => ∃ y, P y ∧ StE c (Gs y) ρ' σ H) (py : P y) (e : G = Gs y) (le : Le ρ' ρ) : Sx c G ρ tNext E := fun F σ H A => by
  show E.nx σ H
  rw [hn]
  exact ⟨y, py, F, by rw [← e]; exact A.le le⟩
/-! ### several clauses -/
def tTryMD (K : PySem.W.Frag) (tb : WX → TS) (l : List (Value × (Addr → Value → Option Addr → TS))) (Wout : WX) : TS := fun D σ H => tb (wMany K Wout D l) D σ H
theorem ps_tryMD {X : Cx} {body : List Stmt} {h₀ : ExceptHandler} {hds : List ExceptHandler} {l : List (Value × (Addr → Value → Option Addr → TS))} {pos : Pos} {tb : WX → TS} {Wout : WX} (hs : X.stack = X.env :: X.outer) (hf : X.env.frame = some X.env.locals) (tk : Takes X Wout)
    (hb : ∀ (W : WX) (pn : List (Addr × Obj)) (xe : Value → Shared → Prop), Takes (X.tr pn xe) W → PassesOwn (model X.prog X.w) X.A X.env xe → PSs (X.tr pn xe) body (tb W)) (hh : HdsOk X (h₀ :: hds) l) : PS X (.Try body (h₀ :: hds) [] [] pos) (tTryMD X.K tb l Wout) := ps_try_many hs hf tk hb hh
theorem sx_tryMD {K : PySem.W.Frag} {tb : WX → TS} {hl : List (Value × (Addr → Value → Option Addr → TS))} {Wout : WX} (h : Sx c G ρ (tb (wMany K Wout E hl)) E) : Sx c G ρ (tTryMD K tb hl Wout) E := h
theorem w_hit {K : PySem.W.Frag} {X : Addr} {cv : Value} {Dn : Ends} {tsu : Addr → Value → Option Addr → TS} {hl : List (Value × (Addr → Value → Option Addr → TS))} {Wout : WX} {σ : L2.St} {H : Hp} (e : PySem.W.exmOne K (.ref X) cv = some true) (q : ∀ a, H a = none → tsu a (.ref X) none Dn σ H) : wMany K Wout Dn ((cv, tsu) :: hl) (.ref X) none σ H :=
  ⟨true, e, fun _ => q, fun z => nomatch z⟩
theorem w_miss {K : PySem.W.Frag} {X : Addr} {cv : Value} {Dn : Ends} {tsu : Addr → Value → Option Addr → TS} {hl : List (Value × (Addr → Value → Option Addr → TS))} {Wout : WX} {σ : L2.St} {H : Hp} (e : PySem.W.exmOne K (.ref X) cv = some false) (q : wMany K Wout Dn hl (.ref X) none σ H) : wMany K Wout Dn ((cv, tsu) :: hl) (.ref X) none σ H :=
  ⟨false, e, fun z => (nomatch z), fun _ => q⟩
theorem exm_not {K : PySem.W.Frag} {S T : Addr} (h1 : PySem.W.subIn K (.ref T) (.type "BaseException") = some true) (h2 : PySem.W.isClsIn K T = true) (h3 : PySem.W.typeIn K (.ref T) = some (.type "type")) (h4 : PySem.W.subIn K (.ref S) (.ref T) = some false) : PySem.W.exmOne K (.ref S) (.ref T) = some false := by
  have k2 : (PySem.W.clsIn K T).isSome = true := h2
  simp only [PySem.W.exmOne, PySem.W.kitCls, h1, k2, h3, h4, Bool.true_and]
  rfl
/-! ### calls that change, within larger expressions -/
theorem m_andV {b : Bool} (h1 : EvM c G ρ ta (.bl true) G1) (h2 : EvM c G1 ρ tb (.bl b) G2) : EvM c G ρ (tAndV ta tb) (.bl b) G2 := fun F σ H A Q q => h1 F σ H A _ fun v F1 H1 A1 r1 => by
  cases r1
  exact ⟨true, rfl, by rw [if_pos rfl]; exact h2 F1 σ H1 A1 Q q⟩
theorem m_isN (h1 : EvM c G ρ ta d G1) (hn : D.isN d = true) (hr : ∀ F v, Rp F v d → v = V.non) : EvM c G ρ (tOp (fun x y H Q => y = V.non ∧ Q (V.bl (decide (x = V.non))) H) ta (tC V.non)) (.bl true) G1 := fun F σ H A Q q => h1 F σ H A _ fun v F1 H1 A1 r1 => by
  refine ⟨rfl, ?_⟩
  have := hr F1 v r1
  subst this
  exact q _ F1 H1 A1 (.bl _)
theorem m_neD {n k : Nat} (ha : EvM c G ρ ta d G') (hb : EvS c G' ρ tb e) (hd : Pl n d) (he : Pl k e) (hn : n ≤ 64) (hk : k ≤ 64) : EvM c G ρ (tOp (rNeD c.K) ta tb) (.bl (!D.eq d e)) G' := fun F σ H A Q q => ha F σ H A _ fun v F1 H1 A1 r1 => hb F1 σ H1 A1 _ fun w F2 H2 g2 r2 =>
  ⟨_, _, pl_dp g2.s n hd (r1.mono g2.f), pl_shl g2.s he r2, pl_shaped hn hd, pl_shaped hk he, q _ F2 H2 (A1.on g2) (.bl _)⟩
/-- xs.pop() -/
theorem m_popL (k : Nat) {d0 : List D} (ha : EvP c G ρ ta (.ref p)) (hk : G[k]? = some (p, .lst (d0 ++ [d]))) : EvM c G ρ (tBM0 c.K "list" rPop ta) d (G.set k (p, .lst d0)) := fun F σ H A Q q => ha F σ H A _ fun v F1 H1 g1 r1 => by
  cases r1
  have A1 := A.on g1
  obtain ⟨vs, hv, rv⟩ := at_G A1 hk
  obtain ⟨us, w, e1, r1, r2⟩ : ∃ us w, vs = us ++ [w] ∧ RpA F1 us d0 ∧ Rp F1 w d := by
    have hl := rv.len
    rw [List.length_append, List.length_singleton] at hl
    have e : vs = vs.take d0.length ++ vs.drop d0.length := (List.take_append_drop _ _).symm
    have ht := rv.take d0.length
    have hdp := rv.drop d0.length
    rw [List.take_left] at ht
    rw [List.drop_left] at hdp
    generalize vs.take d0.length = us at e ht
    generalize vs.drop d0.length = ws at e hdp
    cases hdp with
    | cons h k => cases k; exact ⟨us, _, e, ht, h⟩
  subst e1
  refine ⟨.inl ⟨rfl, _, sq_of hv⟩, p, us ++ [w], w, rfl, rfl, hv, by simp, ?_⟩
  rw [List.dropLast_concat]
  exact q w F1 _ (A1.upd hk ⟨us, upd_same, r1⟩ fun _ e => nomatch e) r2
theorem sx_asgTM {g : TG} {js : List Nat} (h : EvM c G ρ te d G') (hg : EvG c G' ρ g d ρ' js) (q : Sx c G' ρ' tz E) : Sx c G ρ (tSeq (tAsg te g) tz) E := fun F σ H A => h F σ H A _ fun v F1 H1 A1 r1 => hg F1 σ H1 v A1 r1 _ fun σ' A2 _ _ => q F1 σ' H1 A2
end
end Dl

namespace Dl
open PySem PySem.Spec PyProof.Rows L2 Evl Xb
section
variable {c : Ct} {G G' : Res} {ρ : En} {ta te : TE} {tz : TS} {En' : Ends} {E1 E : XK} {C Cx : Addr}
theorem At.forgetD {F H : Hp} {σ : L2.St} {x : Addr × D} (A : At c (x :: G) ρ F σ H) : At c G ρ F σ H :=
  ⟨A.go, A.sl, A.sh, fun y hy => A.ow y (List.mem_cons_of_mem _ hy), (List.nodup_cons.mp A.nd).2, fun y hy => A.ns y (List.mem_cons_of_mem _ hy)⟩
/-- x.f = .. where what stands behind raises -/
theorem sx_fldX {f : Str} (h : EvX c G ρ te Cx G' E1) (q : ∀ F' H', AtE c G' F' H' → E1 (.ref Cx) none H') : Sx c G ρ (tSeq (sFld c.K ta te f) tz) En' := fun F σ H A => h F σ H A (fun F' H' A' => q F' H' A'.toE) _
/-- a class whose __init__ raises -/
theorem x_makeD {tr : TA} {es : List D} {prm : PreM} (ha : EvA c G ρ tr es) (hp : ∀ x, prm (.ref x :: es) [] [(x, .ins C [] [])] (Det (.exc Cx) [(x, .ins C [] [])])) : EvX c G ρ (tMake C (spM c.K prm) [] E tr) Cx G E := fun F σ H A hE Q => ha F σ H A _ fun vs F1 H1 g1 r1 x dx nx ndx ne => by
  show spM c.K prm (V.ref x :: (vs ++ [])) _ _ E
  rw [List.append_nil]
  have A1 := A.on g1
  have nx2 : upd H1 dx (.own x) x = none := by rw [upd_ne ne.symm]; exact nx
  have g2 : Go F1 H1 F1 (upd (upd H1 dx (.own x)) x (.ins C dx [])) := (Go.newH A1.ex ndx).trans (Go.newH (A1.ex.trans (Ex.new ndx)) nx2)
  have A2 : At c ((x, .ins C [] []) :: G) ρ F1 σ (upd (upd H1 dx (.own x)) x (.ins C dx [])) := A1.ownAt g2 nx (fresh_back A1.ex nx) ⟨dx, [], upd_same, rfl, .nil⟩ fun _ e => nomatch e
  refine c_outM (R := []) (A0 := []) (M := [(x, .ins C [] [])]) (B0 := G) (W := Det (.exc Cx) [(x, .ins C [] [])]) A2 (.cons (.ref x) r1) (fun y hy => nomatch hy) (hp x) ⟨fun d M' hw v F' H' g o r => (nomatch hw.1), fun X M' hw F' H' g o => ?_⟩
  obtain ⟨hw1, rfl⟩ := hw
  cases hw1
  exact hE F' H' (At.forgetD (A2.callM (A0 := []) (M := [(x, .ins C [] [])]) (B0 := G) g o))
end
end Dl

namespace Dl
open PySem PySem.Spec PyProof.Rows L2 Evl Xb
/-! ### a sign, many times -/
def repS (k n : Nat) : Str := ⟨(List.replicate n k).toArray⟩
theorem fold_rep (k : Nat) : ∀ (n : Nat) (a : Array Nat), (List.replicate n (#[k] : Array Nat)).foldl (· ++ ·) a = a ++ (List.replicate n k).toArray
  | 0, a => by simp
  | n + 1, a => by
    rw [List.replicate_succ, List.foldl_cons, fold_rep k n, Array.append_assoc]
    congr 1
    apply Array.ext'
    simp [List.replicate_succ]
def rMulS : R2 := fun x y H Q => ∃ (k n : Nat), x = .str ⟨#[k]⟩ ∧ y = .int (n : Int) ∧ n ≤ 1000 ∧ Q (.str (repS k n)) H
theorem op_mulS {X : Cx} : OpR X (binaryOp .Mult) rMulS := by
  intro pins s σ H x y v u Q I rx ry h
  obtain ⟨k, n, rfl, rfl, hn, q⟩ := h
  obtain ⟨t, rfl⟩ := rx
  obtain ⟨t', rfl⟩ := ry
  have hl : (⟨#[k]⟩ : Str).length = 1 := rfl
  have hsz := sizeLine_eq
  refine P.mul_str ?_ (fun h1 _ => ?_) (fun h1 _ => ?_) ?_
  · rw [decide_eq_false (by omega), decide_eq_false (by omega)]
    rfl
  · rw [hl]
    have h2 : (1 : Int) ≤ (2 ^ 63 - 1) / (n : Int) := Int.le_ediv_of_mul_le (by omega) (by omega)
    omega
  · rw [hl]
    unfold Builtin.Str.tooLong
    rw [Int.toNat_natCast, Nat.one_mul]
    exact decide_eq_false (by omega)
  · by_cases h0 : (n : Int) < 1
    · rw [if_pos h0]
      have e : n = 0 := by omega
      subst e
      exact ⟨by rw [hsz]; exact Nat.zero_le _, .str (repS k 0), H, I.tok _, ⟨_, rfl⟩, q⟩
    · rw [if_neg h0]
      by_cases h1 : n = 1
      · subst h1
        rw [if_pos (by rfl)]
        exact ⟨.str (repS k 1), H, I, ⟨_, rfl⟩, q⟩
      · have e : ((n : Int) == 1 || (⟨#[k]⟩ : Str).length == 0) = false := by
          have : ¬ (n : Int) = 1 := by omega
          rw [hl]
          simp [this]
        rw [e, if_neg Bool.false_ne_true, Int.toNat_natCast, fold_rep]
        have e2 : (⟨#[] ++ (List.replicate n k).toArray⟩ : Str) = repS k n := by unfold repS; simp
        rw [e2]
        refine ⟨?_, .str (repS k n), H, I.tok _, ⟨_, rfl⟩, q⟩
        rw [hsz]
        show (List.replicate n k).toArray.size ≤ _
        simp
        omega
section
variable {c : Ct} {G G' : Res} {ρ : En} {ta tb te : TE} {tz : TS} {En' : Ends} {E1 E : XK} {d : D} {ds es : List D} {p : Addr}
theorem p_mulS {k n : Nat} (ha : EvP c G ρ ta (.str ⟨#[k]⟩)) (hb : EvP c G ρ tb (.int (n : Int))) (hn : n ≤ 1000) : EvP c G ρ (tOp rMulS ta tb) (.str (repS k n)) := fun F σ H A Q q => ha F σ H A _ fun v F1 H1 g1 r1 => hb F1 σ H1 (A.on g1) _ fun w F2 H2 g2 r2 => by
  cases r1
  cases r2
  exact ⟨k, n, rfl, rfl, hn, q _ F2 H2 (g1.trans g2) (.str _)⟩
/-! a list, many times -/
theorem rp_rep {F : Hp} {vs : List V} (r : RpA F vs ds) : ∀ n : Nat, RpA F (List.replicate n vs).flatten (List.replicate n ds).flatten
  | 0 => .nil
  | n + 1 => by
    rw [List.replicate_succ, List.replicate_succ, List.flatten_cons, List.flatten_cons]
    exact r.app (rp_rep r n)
theorem n_rep {n : Nat} (h : EvS c G ρ ta (.lst ds)) (h2 : EvP c G ρ tb (.int (n : Int))) (hz : ds.length * n ≤ 100000) (hn : n ≤ 100000) : EvN c G ρ (tOp rRep ta tb) (.lst (List.replicate n ds).flatten) := fun F σ H A Q q => h F σ H A _ fun v F1 H1 g1 r1 => h2 F1 σ H1 (A.on g1) _ fun w F2 H2 g2 r2 => by
  obtain ⟨a, vs, rfl, k1, k2⟩ := r1.lst g1.s
  cases r2
  have g := g1.trans g2
  refine ⟨a, _, vs, rfl, rfl, g2.h _ _ k1, by omega, by omega, sz_of (by rw [k2.len, Int.toNat_natCast]; exact hz), fun p hp => ?_⟩
  rw [Int.toNat_natCast]
  exact q p F2 _ (g.trans (Go.newH g.s hp)) (fresh_back g.h hp) (fresh_back g.s hp) ⟨_, upd_same, rp_rep (k2.mono g2.f) n⟩ fun _ e => nomatch e
/-! list.insert -/
theorem sx_ins {i : Int} (k : Nat) (ha : EvP c G ρ ta (.ref p)) (hk : G[k]? = some (p, .lst ds)) (hi : EvP c G ρ tb (.int i)) (h : EvP c G ρ te d) (h0 : 0 ≤ i) (h1 : i ≤ 100000) (hz : ds.length < 100000) (q : Sx c (G.set k (p, .lst (ds.take i.toNat ++ [d] ++ ds.drop i.toNat))) ρ tz En') :
    Sx c G ρ (tSeq (tDrop (tBM c.K "list" (fun x vs H Q => ∃ (l : Addr) (xs : List V) (i : Int) (y : V), x = .ref l ∧ vs = [.int i, y] ∧ H l = some (.lst xs) ∧ xs.length < sizeLine ∧ 0 ≤ i ∧ i < 2 ^ 63 ∧ Q .non (upd H l (.lst (xs.take i.toNat ++ [y] ++ xs.drop i.toNat)))) ta (tCons tb (tCons te tNil)))) tz) En' := fun F σ H A => ha F σ H A _ fun v F1 H1 g1 r1 => by
  cases r1
  have A1 := A.on g1
  obtain ⟨vs, hv, rv⟩ := at_G A1 hk
  refine ⟨.inl ⟨rfl, vs, sq_of hv⟩, hi F1 σ H1 A1 _ fun w F2 H2 g2 r2 => h F2 σ H2 (A1.on g2) _ fun w2 F3 H3 g3 r3 => ?_⟩
  cases r2
  have A3 := (A1.on g2).on g3
  have hv2 := (g2.trans g3).h _ _ hv
  have rv3 := rv.mono (g2.trans g3).f
  refine ⟨p, vs, i, w2, rfl, rfl, hv2, sz_lt (by rw [rv.len]; exact hz), h0, by omega, ?_⟩
  exact q F3 σ _ (A3.upd hk ⟨_, upd_same, ((rv3.take _).snoc r3).app (rv3.drop _)⟩ fun _ e => nomatch e)
end
/-! ### list.count of truth values -/
theorem vals_bl : ∀ {bs : List Bool} {us : List Value}, Vals (bs.map V.bl) us → us = bs.map Value.bool
  | [], _, .nil => rfl
  | b :: bs, _, .cons r t => by rw [vals_bl t]; cases r; rfl
def rCountB (K : PySem.W.Frag) : V → List V → Hp → VK → Prop := fun x vs H Q => ∃ (a : Addr) (bs : List Bool) (k : Bool), x = .ref a ∧ vs = [.bl k] ∧ SqL K H a (bs.map V.bl) ∧ Q (.int ((bs.countP fun b => b == k : Nat) : Int)) H
theorem mt_countB {X : Cx} : MtR X "list.count" (rCountB X.K) := by
  intro pins s σ H x xs v us Q I rx rxs h
  obtain ⟨a, bs, k, rfl, rfl, hs, q⟩ := h
  cases rx
  cases rxs with
  | cons ry rt =>
    rename_i uy ut
    cases rt
    obtain ⟨its, rv, ⟨⟨cls, dd, data, sl⟩, n, ho, hc, hdn, hd⟩, hlen⟩ := I.list hs
    simp only at hc hd
    subst hc hd
    have fys : (bs.map V.bl).all flatV = true := by
      rw [List.all_map, List.all_eq_true]
      intro b hb
      rfl
    refine call_meets PySem.F.slot_list_count ⟨_, ho, rfl⟩ PySem.F.entry_list_count (PySem.F.args_list_count_2 _ _)
      (SeqAt.list_countAt a its.toArray n dd sl uy (eqU (.bl k))) ⟨ho, fun u' hu' => mem_eqAt ry rfl rv fys u' (by simpa using hu'), ?_⟩
    have e := vals_bl rv
    subst e
    have e2 : ((bs.map Value.bool).toArray.toList.countP (eqU (.bl k))) = bs.countP fun b => b == k := by
      show (bs.map Value.bool).countP _ = _
      rw [List.countP_map]
      rfl
    rw [e2]
    exact ⟨.int _, H, I.tok _, ⟨_, rfl⟩, q⟩
/-! ### except X as e -/
def tTryAsD (K : PySem.W.Frag) (cv : Value) (i : Nat) (tb : WX → TS) (ts : Addr → Value → Option Addr → TS) (Wout : WX) : TS := fun Dn σ H => tb (wAs K cv i ts Wout Dn) Dn σ H
theorem ps_tryAsD {X : Cx} {x n : Str} {cv : Value} {i : Nat} {body suite : List Stmt} {b₀ : Stmt} {np pos pos' : Pos} {tb : WX → TS} {ts : Addr → Value → Option Addr → TS} {Wout : WX}
    (hs : X.stack = X.env :: X.outer) (hf : X.env.frame = some X.env.locals) (hN : X.N.Nodup) (hi : X.N[i]? = some n) (hln : X.env.kindOf n = some .local) (hc : Names X x cv) (tk : Takes X Wout)
    (hb : ∀ (W : WX) (pn : List (Addr × Obj)) (xe : Value → Shared → Prop), Takes (X.tr pn xe) W → PassesOwn (model X.prog X.w) X.A X.env xe → PSs (X.tr pn xe) body (tb W))
    (hsu : ∀ (a : Addr) (oe : Obj) (cls : Value) (d : Option Addr) (pn : List (Addr × Obj)), Zc cls d oe → (∃ vs, oe.data = .fields vs) → PSs (X.suite a ((a, oe) :: pn)) (b₀ :: suite) (ts a cls d)) :
    PS X (.Try body [.ExceptHandler (some (.Name x np)) (some n) (b₀ :: suite) pos'] [] [] pos) (tTryAsD X.K cv i tb ts Wout) := ps_try_as hs hf hN hi hln hc tk hb hsu
/-- isinstance of the error that the suite holds, whatever its class is -/
def rIsEc (K : PySem.W.Frag) (a : Addr) (cls : Value) (d : Option Addr) : List V → Hp → VK → Prop := fun xs H Q => ∃ C : Addr, cls = .ref C ∧ d = none ∧ ExcC K C ∧ rIsE K C a xs H Q
theorem call_isEc {X : Cx} {a : Addr} {oe : Obj} {cls : Value} {d : Option Addr} {pn : List (Addr × Obj)} (hz : Zc cls d oe) (hf : ∃ vs, oe.data = .fields vs) : CallR (X.suite a ((a, oe) :: pn)) (.builtin "isinstance") (rIsEc X.K a cls d) := by
  intro pins s σ H xs us Q I r h
  obtain ⟨C, rfl, rfl, hC, h⟩ := h
  exact call_isE hC hz hf pins s σ H xs us Q I r h
section
variable {c : Ct} {G G' : Res} {ρ : En} {ta tb te : TE} {tz : TS} {En' : Ends} {E1 E : XK}
theorem p_isE {a C : Addr} {T : Value} {dt : D} {b : Bool} (h : EvP c G ρ ta (.ref a)) (hc : EvP c G ρ tb dt) (ht : ∀ (F : Hp) (v : V), Rp F v dt → ∀ u, RelV v u → u = T) (e : ExcC c.K C) (hk : PySem.W.kitOne c.K (.ref C) T = some b) : EvP c G ρ (tCB (rIsEc c.K a (.ref C) none) (tCons ta (tCons tb tNil))) (.bl b) := fun F σ H A Q q => h F σ H A _ fun v F1 H1 g1 r1 => hc F1 σ H1 (A.on g1) _ fun w F2 H2 g2 r2 => by
  cases r1
  exact ⟨C, rfl, rfl, e, w, T, b, rfl, ht _ _ r2, hk, q _ F2 H2 (g1.trans g2) (.bl _)⟩
theorem p_isEC {a C T : Addr} {b : Bool} (h : EvP c G ρ ta (.ref a)) (hc : EvP c G ρ tb (.ref T)) (e : ExcC c.K C) (hk : PySem.W.kitOne c.K (.ref C) (.ref T) = some b) : EvP c G ρ (tCB (rIsEc c.K a (.ref C) none) (tCons ta (tCons tb tNil))) (.bl b) :=
  p_isE h hc (fun F v r u q => by cases r; cases q; rfl) e hk
theorem p_isET {a C : Addr} {n : String} {b : Bool} (h : EvP c G ρ ta (.ref a)) (hc : EvP c G ρ tb (.ty n)) (e : ExcC c.K C) (hk : PySem.W.kitOne c.K (.ref C) (.type n) = some b) : EvP c G ρ (tCB (rIsEc c.K a (.ref C) none) (tCons ta (tCons tb tNil))) (.bl b) :=
  p_isE h hc (fun F v r u q => by cases r; cases q; rfl) e hk
/-- list.count of truth values that are data -/
theorem rp_bls {F : Hp} : ∀ {bs : List Bool} {vs : List V}, RpA F vs (bs.map D.bl) → vs = bs.map V.bl
  | [], _, .nil => rfl
  | b :: bs, _, .cons r t => by rw [rp_bls t]; cases r; rfl
theorem p_countB {bs : List Bool} {k : Bool} (h : EvP c G ρ ta (.lst (bs.map D.bl))) (hb : EvP c G ρ tb (.bl k)) : EvP c G ρ (tBM c.K "list" (rCountB c.K) ta (tCons tb tNil)) (.int ((bs.countP fun b => b == k : Nat) : Int)) := fun F σ H A Q q => h F σ H A _ fun v F1 H1 g1 r1 => by
  cases r1 with
  | lst h1 h2 =>
    cases rp_bls h2
    have hv := g1.s _ _ h1
    refine ⟨.inl ⟨rfl, _, sq_of hv⟩, hb F1 σ H1 (A.on g1) _ fun w F2 H2 g2 r2 => ?_⟩
    cases r2
    exact ⟨_, bs, k, rfl, rfl, sq_of (g2.h _ _ hv), q _ F2 H2 (g1.trans g2) (.int _)⟩
/-- except X as e: where the body raises, the clause takes it -/
theorem sx_tryAsD {K : PySem.W.Frag} {cv : Value} {i : Nat} {tb : WX → TS} {ts : Addr → Value → Option Addr → TS} {Wout : WX} (h : Sx c G ρ (tb (wAs K cv i ts Wout En')) En') : Sx c G ρ (tTryAsD K cv i tb ts Wout) En' := h
end
/-! ### own errors among one another -/
section
variable {K : PySem.W.Frag} {S T : Addr}
theorem kit_not (h2 : PySem.W.isClsIn K T = true) (h3 : PySem.W.typeIn K (.ref T) = some (.type "type")) (h4 : PySem.W.subIn K (.ref S) (.ref S) = some true) (h5 : PySem.W.subIn K (.ref S) (.ref T) = some false) : PySem.W.kitOne K (.ref S) (.ref T) = some false := by
  have k2 : (PySem.W.clsIn K T).isSome = true := h2
  have ne : ((.ref S : Value) == .ref T) = false := by
    refine Bool.eq_false_iff.mpr fun q => ?_
    have e : S = T := Value.ref.inj (beq_iff_eq.mp q)
    subst e
    rw [h4] at h5
    cases h5
  unfold PySem.W.kitOne
  rw [ne, if_neg Bool.false_ne_true]
  simp only [PySem.W.kitCls, k2, h3, h5, Bool.true_and]
  rfl
theorem exm_sub (h1 : PySem.W.subIn K (.ref T) (.type "BaseException") = some true) (h2 : PySem.W.isClsIn K T = true) (h3 : PySem.W.typeIn K (.ref T) = some (.type "type")) (h4 : PySem.W.subIn K (.ref S) (.ref T) = some true) : PySem.W.exmOne K (.ref S) (.ref T) = some true := by
  have k2 : (PySem.W.clsIn K T).isSome = true := h2
  simp only [PySem.W.exmOne, PySem.W.kitCls, h1, k2, h3, h4, Bool.true_and]
  rfl
theorem kit_val (h : PySem.W.subIn K (.ref S) (.type "ValueError") = some true) : PySem.W.kitOne K (.ref S) (.type "ValueError") = some true := by
  unfold PySem.W.kitOne
  rw [show ((.ref S : Value) == .type "ValueError") = false from rfl, if_neg Bool.false_ne_true]
  show (if PySem.W.kitMeta "ValueError" = true then PySem.W.subIn K (.ref S) (.type "ValueError") else none) = _
  rw [if_pos (by decide +kernel)]
  exact h
theorem kit_own : PySem.W.kitOne K (.ref S) (.ref S) = some true := by
  unfold PySem.W.kitOne
  rw [show ((.ref S : Value) == .ref S) = true from beq_self_eq_true _, if_pos rfl]
end
/-- what holds of each of a list -/
def AllP (P : Addr → Prop) : List Addr → Prop
  | [] => True
  | x :: xs => P x ∧ AllP P xs
theorem AllP.mem {P : Addr → Prop} : ∀ {l : List Addr}, AllP P l → ∀ {x : Addr}, x ∈ l → P x
  | _ :: _, h, x, hx => by
    rcases List.mem_cons.mp hx with rfl | hx
    · exact h.1
    · exact AllP.mem h.2 hx
/-- the errors i, j: one is under the other only if they are the same -/
def SubRow (K : PySem.W.Frag) (x : Addr) (i : Nat) : Nat → List Addr → Prop
  | _, [] => True
  | j, y :: ys => PySem.W.subIn K (.ref x) (.ref y) = some (decide (i = j)) ∧ SubRow K x i (j + 1) ys
def SubTab (K : PySem.W.Frag) (l : List Addr) : Nat → List Addr → Prop
  | _, [] => True
  | i, x :: xs => SubRow K x i 0 l ∧ SubTab K l (i + 1) xs
theorem SubRow.at {K : PySem.W.Frag} {x : Addr} {i : Nat} : ∀ {l : List Addr} {o : Nat}, SubRow K x i o l → ∀ {j : Nat} {y : Addr}, l[j]? = some y → PySem.W.subIn K (.ref x) (.ref y) = some (decide (i = o + j))
  | _ :: _, o, h, 0, y, e => by cases e; exact h.1
  | _ :: l, o, h, j + 1, y, e => by
    have := SubRow.at h.2 (j := j) (y := y) (by simpa using e)
    rw [show o + (j + 1) = o + 1 + j by omega]
    exact this
theorem SubTab.at {K : PySem.W.Frag} {l : List Addr} : ∀ {m : List Addr} {o : Nat}, SubTab K l o m → ∀ {i : Nat} {x : Addr}, m[i]? = some x → SubRow K x (o + i) 0 l
  | _ :: _, o, h, 0, x, e => by cases e; exact h.1
  | _ :: m, o, h, i + 1, x, e => by
    have := SubTab.at h.2 (i := i) (x := x) (by simpa using e)
    rw [show o + (i + 1) = o + 1 + i by omega]
    exact this
structure ErrP (K : PySem.W.Frag) (S x : Addr) : Prop where
  exc : ExcC K x
  base : PySem.W.exmOne K (.ref x) (.ref S) = some true
  val : PySem.W.kitOne K (.ref x) (.type "ValueError") = some true
  sub : PySem.W.subIn K (.ref x) (.type "BaseException") = some true
  cls : PySem.W.isClsIn K x = true
  ty : PySem.W.typeIn K (.ref x) = some (.type "type")
structure Errs (K : PySem.W.Frag) (S : Addr) (l : List Addr) : Prop where
  per : AllP (ErrP K S) l
  tab : SubTab K l 0 l
section
variable {K : PySem.W.Frag} {S x y : Addr} {l : List Addr} {i j : Nat}
theorem Errs.at (e : Errs K S l) (hx : l[i]? = some x) : ErrP K S x := e.per.mem (List.mem_of_getElem? hx)
theorem Errs.subs (e : Errs K S l) (hx : l[i]? = some x) (hy : l[j]? = some y) : PySem.W.subIn K (.ref x) (.ref y) = some (decide (i = j)) := by
  have := (e.tab.at hx).at hy
  rw [Nat.zero_add, Nat.zero_add] at this
  exact this
theorem Errs.exm (e : Errs K S l) (hx : l[i]? = some x) (hy : l[j]? = some y) : PySem.W.exmOne K (.ref x) (.ref y) = some (decide (i = j)) := by
  have k := e.at hy
  by_cases h : i = j
  · rw [decide_eq_true h]
    have s := e.subs hx hy
    rw [decide_eq_true h] at s
    exact exm_sub k.sub k.cls k.ty s
  · rw [decide_eq_false h]
    have s := e.subs hx hy
    rw [decide_eq_false h] at s
    exact exm_not k.sub k.cls k.ty s
theorem Errs.kit (e : Errs K S l) (hx : l[i]? = some x) (hy : l[j]? = some y) : PySem.W.kitOne K (.ref x) (.ref y) = some (decide (i = j)) := by
  have k := e.at hy
  by_cases h : i = j
  · rw [decide_eq_true h]
    subst h
    rw [hx] at hy
    cases hy
    exact kit_own
  · rw [decide_eq_false h]
    have s := e.subs hx hy
    rw [decide_eq_false h] at s
    have s0 := e.subs hx hx
    rw [decide_eq_true rfl] at s0
    exact kit_not k.cls k.ty s0 s
end
end Dl

/-! ### max(xs, default=d) over a list of ints -/
namespace PySem
namespace P
open Sem (wp)
open Builtin
section
variable {prog : Program} {w : World} {A : Around} {R : Result → Shared → Prop} {I : Addr} {fp wr : List Addr} {n : Nat} {P : Nat → Value → Prop} {St : Nat → Heap → Prop} {dv : Value}
def dfKw (dv : Value) : List (Str × Value) := [(Str.ofString "default", dv)]
theorem mxd_name : (toString "max" ++ toString ".loop" : String) = "max.loop" := by decide
theorem mxd_loop (W : Walks prog w A.in1 I fp wr n P St) (bt : Nat → Nat → Bool) (hc : CmpOf prog w A.in1 .Gt P bt) (S : Addr) (hSf : S ∉ fp) : ∀ (k j : Nat) (s : Shared) (vb : Value) (c : Nat), n - (j + 1) = k → j + 1 ≤ n → St (j + 1) s.heap → P (argBest bt j) vb → s.heap.get? S = some { cls := .type "list", dict := none, data := .seq #[vb, vb] c, slots := #[] } → (∀ v h' tk, P (argBest bt (n - 1)) v → (∀ b o, b ∉ wr → b ≠ S → s.heap.get? b = some o → h'.get? b = some o) → R (.ok (.ret v)) { s with heap := h', toks := tk }) → codeAny (model prog w) A (.builtin "max.loop" ⟨[.ref I, .none, .ref S], dfKw dv⟩) R s := by
  have hSw : S ∉ wr := fun h => hSf (W.sub _ h)
  intro k
  induction k with
  | zero =>
    intro j s vb c hk hj hst hPb hS hR
    have hin : j + 1 = n := by omega
    refine codeAny_builtin F.entry_max_loop ?_; rw [Around.under_plainId F.plain_max_loop _]
    show wpAny _ A.in1 (seqItems? (.ref S) >>= _) _ _ s; refine wpAny_bind (wpAny_seqItems hS rfl ?_)
    show wpAny _ A.in1 (tryCatch (pyNext (.ref I)) _ >>= _) _ _ s; refine wpAny_bind (wpAny_tryCatch (W.done s _ _ (hin ▸ hst) fun h' tk hk' => ?_))
    have hS2 := hk' S _ hSw hS
    show wpAny _ A.in1 (updateSeq S (fun _ => #[]) >>= _) _ _ _; refine wpAny_bind ?_
    refine wpAny_updateSeq hS2 rfl (wpAny_bind (wpAny_letGo (wpAny_pure ?_))); refine hR vb _ tk (by rw [← hin]; exact hPb) fun b o hbw hbS e => (Heap.get?_update_other _ _ (Ne.symm hbS)).trans (hk' b o hbw e)
  | succ k ih =>
    intro j s vb c hk hj hst hPb hS hR
    have hlt : j + 1 < n := by omega
    refine codeAny_builtin F.entry_max_loop ?_; rw [Around.under_plainId F.plain_max_loop _]
    show wpAny _ A.in1 (seqItems? (.ref S) >>= _) _ _ s; refine wpAny_bind (wpAny_seqItems hS rfl ?_)
    show wpAny _ A.in1 (tryCatch (pyNext (.ref I)) _ >>= _) _ _ s; refine wpAny_bind (wpAny_tryCatch (W.item (j + 1) s _ _ hlt hst fun v h' tk hP hst' hk' => ?_))
    have hS2 := hk' S _ hSw hS
    show wpAny _ A.in1 (tryCatch (holding [v, v] (richCompare .Gt v vb >>= _)) _ >>= _) _ _ _; refine wpAny_bind (wpAny_tryCatch (wpAny_holding (wpAny_bind (hc (j + 1) (argBest bt j) v vb _ _ _ hP hPb ?_))))
    refine wpAny_bind (wpAny_holding (wpAny_truthy_bool ?_)); refine wpAny_bind (wpAny_letGo (wpAny_pure ?_))
    cases hb : bt (j + 1) (argBest bt j) with
    | true =>
      simp only [if_true]; refine wpAny_bind ?_
      refine wpAny_updateSeq hS2 rfl (wpAny_bind (wpAny_letGo ?_)); rw [mxd_name]
      refine wpAny_pure ⟨plainId_quiet F.plain_max_loop _, ih (j + 1) _ v _ (by omega) hlt (W.frame _ _ _ hst' fun b hbf o e => ?_) (by simp only [argBest, hb, if_true]; exact hP) (Heap.get?_update_self _ hS2 rfl) fun v' h'' tk'' hP' hk'' => ?_⟩
      · exact (Heap.get?_update_other _ _ (fun h : S = b => hSf (by rw [h]; exact hbf))).trans e
      · exact hR v' h'' tk'' hP' fun b o hbw hbS e => hk'' b o hbw hbS ((Heap.get?_update_other _ _ (Ne.symm hbS)).trans (hk' b o hbw e))
    | false =>
      simp only [Bool.false_eq_true, if_false]; refine wpAny_bind (wpAny_letGo ?_); rw [mxd_name]
      refine wpAny_pure ⟨plainId_quiet F.plain_max_loop _, ih (j + 1) _ vb c (by omega) hlt hst' (by simp only [argBest, hb, Bool.false_eq_true, if_false]; exact hPb) hS2 fun v' h'' tk'' hP' hk'' => ?_⟩
      exact hR v' h'' tk'' hP' fun b o hbw hbS e => hk'' b o hbw hbS (hk' b o hbw e)
theorem mxd_first (W : Walks prog w A.in1 I fp wr n P St) (bt : Nat → Nat → Bool) (hc : CmpOf prog w A.in1 .Gt P bt) (S : Addr) (hSf : S ∉ fp) {s : Shared} {c : Nat} (hst : St 0 s.heap) (hS : s.heap.get? S = some { cls := .type "list", dict := none, data := .seq #[] c, slots := #[] })
    (hR : ∀ v h' tk, ((0 < n ∧ P (argBest bt (n - 1)) v) ∨ (n = 0 ∧ v = dv)) → (∀ b o, b ∉ wr → b ≠ S → s.heap.get? b = some o → h'.get? b = some o) → R (.ok (.ret v)) { s with heap := h', toks := tk }) : codeAny (model prog w) A (.builtin "max.loop" ⟨[.ref I, .none, .ref S], dfKw dv⟩) R s := by
  have hSw : S ∉ wr := fun h => hSf (W.sub _ h)
  refine codeAny_builtin F.entry_max_loop ?_; rw [Around.under_plainId F.plain_max_loop _]
  show wpAny _ A.in1 (seqItems? (.ref S) >>= _) _ _ s; refine wpAny_bind (wpAny_seqItems hS rfl ?_)
  show wpAny _ A.in1 (tryCatch (pyNext (.ref I)) _ >>= _) _ _ s
  by_cases hn : 0 < n
  · refine wpAny_bind (wpAny_tryCatch (W.item 0 s _ _ hn hst fun v h' tk hP hst' hk' => ?_)); have hS2 := hk' S _ hSw hS
    show wpAny _ A.in1 (updateSeq S (fun _ => #[v, v]) >>= _) _ _ _; refine wpAny_bind ?_
    refine wpAny_updateSeq hS2 rfl ?_; rw [mxd_name]
    refine wpAny_pure ⟨plainId_quiet F.plain_max_loop _, mxd_loop W bt hc S hSf _ 0 _ v _ rfl hn (W.frame _ _ _ hst' fun b hbf o e => ?_) hP (Heap.get?_update_self _ hS2 rfl) fun v' h'' tk'' hP' hk'' => ?_⟩
    · exact (Heap.get?_update_other _ _ (fun h : S = b => hSf (by rw [h]; exact hbf))).trans e
    · exact hR v' h'' tk'' (.inl ⟨hn, hP'⟩) fun b o hbw hbS e => hk'' b o hbw hbS ((Heap.get?_update_other _ _ (Ne.symm hbS)).trans (hk' b o hbw e))
  · have h0 : n = 0 := by omega
    subst h0
    refine wpAny_bind (wpAny_tryCatch (W.done s _ _ hst fun h' tk hk' => ?_))
    refine wpAny_bind (wpAny_rule ?_)
    exact wpAny_pure (hR dv h' tk (.inr ⟨rfl, rfl⟩) fun b o hbw hbS e => hk' b o hbw e)
end
section
variable {prog : Program} {w : World} {A : Around} {E : Value → Shared → Prop} {s : Shared} {l : Addr} {xs : Array (Int × Tok)} {dv : Value}
theorem mxd_args (a v : Value) : argsOk "max" ⟨[a], dfKw v⟩ := by unfold argsOk; unfold dfKw; kernel_rfl
theorem mxd_call {Q : Value → Shared → Prop} (hh : A.handled = none) (hl : s.heap.IsList l (intItems xs)) (h : ∀ v h' tk, ((0 < xs.size ∧ (intItems xs)[argBest (fun i j => decide (numAt xs i > numAt xs j)) (xs.size - 1)]? = some v) ∨ (xs.size = 0 ∧ v = dv)) → (∀ b o, s.heap.get? b = some o → h'.get? b = some o) → Q v { s with heap := h', toks := tk }) : wpAny (model prog w) A (call (.builtin "max") [.ref l] (dfKw dv)) Q E s := by
  refine PyProof.Rows.kmk_tree PySem.F.kind_max PySem.F.plain_max PySem.F.entry_max (mxd_args _ _) ?_
  show wpAny _ A.in1 (Builtin.Builtins.bindParams "max" ["key", "default"] 0 ⟨[], dfKw dv⟩ >>= _) _ _ s; refine wpAny_bind (wpAny_of_eq (show Builtin.Builtins.bindParams "max" ["key", "default"] 0 ⟨[], dfKw dv⟩ = pure [none, some dv] from rfl) ?_)
  refine wpAny_bind (wpAny_pure ?_)
  refine wpAny_bind (iter_intList hl fun s₂ e st hfp hlI => ?_)
  subst e
  refine wpAny_bind (wpAny_newObj_type ?_); rw [mxd_name]
  have W := Walks.list (prog := prog) (w := w) (A := A.in1) hh _ l hlI (intItems xs)
  have hsz : (intItems xs).size = xs.size := by simp [intItems]
  refine wpAny_pure ⟨plainId_quiet F.plain_max_loop _, mxd_first W _ (CmpOf.ints_gt (numAt xs) (fun _ _ => intItems_at)) _ (fun hm => Nat.lt_irrefl _ (hfp _ hm)) (W.frame _ _ _ st fun b _ o e => Heap.get?_push_of_some _ e) (Heap.get?_push_size _ rfl) fun v h' tk hP hk => ?_⟩
  refine h v h' tk (by rw [hsz] at hP; exact hP) (old_kept (l := l) fun b o hbw e => ?_)
  exact hk b o hbw (Nat.ne_of_lt (Heap.lt_size e)) (Heap.get?_push_of_some _ e)
end
end P
end PySem
namespace L2
open PySem PySem.Spec PyProof.Rows
/-- the greatest of some, or what is said for none -/
def mostOf (d : Int) (ns : List Int) (m : Int) : Prop := (ns = [] ∧ m = d) ∨ (m ∈ ns ∧ ∀ y ∈ ns, y ≤ m)
def rMaxDf (K : PySem.W.Frag) (d : Int) : List V → List V → Hp → VK → Prop := fun vs zs H Q => ∃ (a : Addr) (ns : List Int), vs = [V.ref a] ∧ zs = [.int d] ∧ SqL K H a (ns.map V.int) ∧ ∀ m, mostOf d ns m → Q (.int m) H
theorem cr_maxDf {X : Cx} {d : Int} (hc : X.calm = true) : CallRK X (.builtin "max") [Str.ofString "default"] (rMaxDf X.K d) := by
  intro pins s σ H vs zs us ws Q I r rz h
  obtain ⟨a, ns, rfl, rfl, hs, q⟩ := h
  obtain rfl := Vals.ref1 r
  obtain ⟨w1, rfl, e1⟩ := vals1 rz
  obtain ⟨t, rfl⟩ : ∃ t, w1 = Value.int d t := e1
  obtain ⟨its, rv, hl, _⟩ := I.list hs
  have hi := rv.ints
  have hl := hl.isList
  obtain ⟨xs, e⟩ := hi.allInts.items
  have hn : numsOf (intItems xs).toList = ns := by rw [← e]; exact hi.numsOf
  rw [nums_intItems] at hn
  subst hn
  rw [e] at hl
  show wpAny (model X.prog X.w) X.A (call (.builtin "max") [.ref a] (PySem.P.dfKw (.int d t))) _ _ _
  refine PySem.P.mxd_call (I.ok.hd hc) hl fun v h' tk hv hk => ?_
  rcases hv with ⟨hsz, hv⟩ | ⟨hsz, rfl⟩
  · obtain ⟨t, rfl⟩ := intItems_at hv
    obtain ⟨k1, k2⟩ := argBest_gt (numAt xs) (xs.size - 1)
    refine ⟨.int _, H, I.kept hk, ⟨_, rfl⟩, q _ (.inr ⟨?_, fun y hy => ?_⟩)⟩
    · rw [numAt_eq]; exact PySem.getD_mem (by rw [List.length_map, Array.length_toList]; omega)
    · obtain ⟨j, hj, rfl⟩ := mem_getD hy
      rw [List.length_map, Array.length_toList] at hj
      rw [← numAt_eq]; exact k2 j (by omega)
  · refine ⟨.int d, H, I.kept hk, ⟨_, rfl⟩, q d (.inl ⟨?_, rfl⟩)⟩
    have : xs = #[] := Array.eq_empty_of_size_eq_zero hsz
    subst this
    rfl
end L2

namespace Dl
open PySem PySem.Spec PyProof.Rows L2 Evl Xb
section
variable {c : Ct} {G G' : Res} {ρ : En} {ta tb te : TE} {ns : List Int} {d m : Int}
/-- max(xs, default=d) -/
theorem most_uniq {m' : Int} (h : mostOf d ns m) (h' : mostOf d ns m') : m' = m := by
  rcases h with ⟨rfl, rfl⟩ | ⟨h1, h2⟩
  · rcases h' with ⟨_, rfl⟩ | ⟨h1, _⟩
    · rfl
    · cases h1
  · rcases h' with ⟨rfl, _⟩ | ⟨k1, k2⟩
    · cases h1
    · have a := h2 _ k1
      have b := k2 _ h1
      omega
theorem p_maxDf (h : EvS c G ρ ta (.lst (ns.map D.int))) (hm : mostOf d ns m) : EvP c G ρ (tCKw (rMaxDf c.K d) (tCons ta tNil) (tCons (tC (.int d)) tNil)) (.int m) := fun F σ H A Q q => h F σ H A _ fun v F1 H1 g1 r1 => by
  obtain ⟨a, vs, rfl, h1, r2⟩ := r1.lst g1.s
  have e1 := r2.ints
  subst e1
  exact ⟨a, ns, rfl, rfl, sq_of h1, fun m' hm' => by rw [most_uniq hm hm']; exact q _ F1 H1 g1 (.int _)⟩
/-- sorted(xs, reverse=True) -/
def downOf (ns : List Int) : List Int := ns.mergeSort fun a b => decide (b ≤ a)
theorem down_perm (ns : List Int) : (downOf ns).Perm ns := List.mergeSort_perm _ _
theorem down_ord (ns : List Int) : (downOf ns).Pairwise fun a b => b ≤ a := by
  have := List.pairwise_mergeSort (le := fun a b : Int => decide (b ≤ a)) (fun a b c h1 h2 => by simp at h1 h2 ⊢; omega) (fun a b => by simp; omega) ns
  exact this.imp fun h => of_decide_eq_true h
theorem down_uniq {l1 l2 : List Int} (p : l1.Perm l2) (h1 : l1.Pairwise fun a b => b ≤ a) (h2 : l2.Pairwise fun a b => b ≤ a) : l1 = l2 :=
  p.eq_of_pairwise (fun a b _ _ x y => by omega) h1 h2
theorem n_sortedRev (h : EvS c G ρ ta (.lst (ns.map D.int))) : EvN c G ρ (tCKw (rSortedKw c.K true [.bl true]) (tCons ta tNil) (tCons (tC (.bl true)) tNil)) (.lst ((downOf ns).map D.int)) := fun F σ H A Q q => h F σ H A _ fun v F1 H1 g1 r1 => by
  obtain ⟨a, vs, rfl, h1, r2⟩ := r1.lst g1.s
  have e1 := r2.ints
  subst e1
  refine ⟨a, ns, rfl, rfl, sq_of h1, fun ns' p hp ho hn => ?_⟩
  have ho' : ns'.Pairwise fun a b => b ≤ a := ho
  obtain rfl := down_uniq (hp.trans (down_perm ns).symm) ho' (down_ord ns)
  refine q p F1 _ (g1.trans (Go.newH g1.s hn)) (fresh_back g1.h hn) (fresh_back g1.s hn) ⟨_, upd_same, ?_⟩ fun _ e => nomatch e
  clear hp ho ho' r1 h1 r2
  generalize downOf ns = l
  induction l with
  | nil => exact .nil
  | cons a l ih => exact .cons (.int a) ih
end
end Dl

namespace Dl
open PySem PySem.Spec PyProof.Rows L2 Evl Xb
/-! ### two contracts of one def -/
def orS (s1 s2 : Sp) : Sp := fun vs H Q E => s1 vs H Q E ∨ s2 vs H Q E
theorem fn_or {P : Program} {w : World} {K : PySem.W.Frag} {mg : Str → Option Value} {base : Heap} {CX : CXT} {k : Nat} {f : Addr} {fd : FuncData} {ps : List Str} {s1 s2 : Sp} (F1 : FnOk P w K mg base CX k f fd ps s1) (F2 : FnOk P w K mg base CX k f fd ps s2) : FnOk P w K mg base CX k f fd ps (orS s1 s2) :=
  ⟨fun vs H Q E q => q.elim (F1.len vs H Q E) (F2.len vs H Q E), fun A outer s H args us vs Q E hr he hb hv hs => hs.elim (F1.run A outer s H args us vs Q E hr he hb hv) (F2.run A outer s H args us vs Q E hr he hb hv)⟩
theorem or_l {s1 s2 : Sp} : ∀ vs H Q E, s1 vs H Q E → orS s1 s2 vs H Q E := fun _ _ _ _ h => .inl h
theorem or_r {s1 s2 : Sp} : ∀ vs H Q E, s2 vs H Q E → orS s1 s2 vs H Q E := fun _ _ _ _ h => .inr h
section
variable {c : Ct} {G G' : Res} {ρ ρ' : En} {ta tb te tv tc : TE} {tr : TA} {d e : D} {ds es : List D} {pre : Pre} {prm : PreM} {R A0 M M' B0 : Res} {W : Way} {E E1 : XK} {ts tz tw : TS} {En' : Ends} {i : Nat} {tt : TT} {C Cx : Addr} {ks : List Str} {f m : Str} {g : TG} {p : Addr}
theorem p_methU {sp : Sp} (hs0 : ∀ vs H Q E, spD c.K pre vs H Q E → sp vs H Q E) (h : EvP c G ρ ta (.ins C ks ds)) (hm : m ∉ ks) (ha : EvA c G ρ tr es) (hR : ∀ x ∈ R, x ∈ c.S ∨ x ∈ G) (hp : pre (.ins C ks ds :: es) R (.ret d)) : EvP c G ρ (tMeth C m sp [] E ta tr) d := fun F σ H A Q q => h F σ H A _ fun v F1 H1 g1 r1 => by
  obtain ⟨a, dx, fs, rfl, h1, h2⟩ := ins_at g1.s r1 hm
  refine ⟨a, dx, fs, rfl, h1, h2, ha F1 σ H1 (A.on g1) _ fun vs F2 H2 g2 r2 => ?_⟩
  show sp (V.ref a :: (vs ++ [])) H2 Q E
  rw [List.append_nil]
  refine hs0 _ _ _ _ ?_
  exact c_out ((A.on g1).on g2) (.cons (r1.mono g2.f) r2) hR hp fun v F' H' g r => q v F' H' ((g1.trans g2).trans g) r
theorem n_methU {sp : Sp} (hs0 : ∀ vs H Q E, spD c.K pre vs H Q E → sp vs H Q E) (h : EvP c G ρ ta (.ins C ks ds)) (hm : m ∉ ks) (ha : EvA c G ρ tr es) (hR : ∀ x ∈ R, x ∈ c.S ∨ x ∈ G) (hp : pre (.ins C ks ds :: es) R (.new d)) (hs : ∀ ns, d ≠ .scr ns) : EvN c G ρ (tMeth C m sp [] E ta tr) d := fun F σ H A Q q => h F σ H A _ fun v F1 H1 g1 r1 => by
  obtain ⟨a, dx, fs, rfl, h1, h2⟩ := ins_at g1.s r1 hm
  refine ⟨a, dx, fs, rfl, h1, h2, ha F1 σ H1 (A.on g1) _ fun vs F2 H2 g2 r2 => ?_⟩
  show sp (V.ref a :: (vs ++ [])) H2 Q E
  rw [List.append_nil]
  refine hs0 _ _ _ _ ?_
  exact c_out ((A.on g1).on g2) (.cons (r1.mono g2.f) r2) hR hp fun p F' H' g hp' hf ho => q p F' H' ((g1.trans g2).trans g) (fresh_back (g1.trans g2).h hp') hf ho hs
theorem x_methU {sp : Sp} (hs0 : ∀ vs H Q E, spD c.K pre vs H Q E → sp vs H Q E) (h : EvP c G ρ ta (.ins C ks ds)) (hm : m ∉ ks) (ha : EvA c G ρ tr es) (hR : ∀ x ∈ R, x ∈ c.S ∨ x ∈ G) (hp : pre (.ins C ks ds :: es) R (.exc Cx)) : EvX c G ρ (tMeth C m sp [] E ta tr) Cx G E := fun F σ H A hE Q => h F σ H A _ fun v F1 H1 g1 r1 => by
  obtain ⟨a, dx, fs, rfl, h1, h2⟩ := ins_at g1.s r1 hm
  refine ⟨a, dx, fs, rfl, h1, h2, ha F1 σ H1 (A.on g1) _ fun vs F2 H2 g2 r2 => ?_⟩
  show sp (V.ref a :: (vs ++ [])) H2 Q E
  rw [List.append_nil]
  refine hs0 _ _ _ _ ?_
  exact c_out ((A.on g1).on g2) (.cons (r1.mono g2.f) r2) hR hp fun F' H' g => hE F' H' (((A.on g1).on g2).on g)
theorem x_callU {sp : Sp} (hs0 : ∀ vs H Q E, spD c.K pre vs H Q E → sp vs H Q E) (h : EvA c G ρ tr es) (hR : ∀ x ∈ R, x ∈ c.S ∨ x ∈ G) (hp : pre es R (.exc Cx)) : EvX c G ρ (tCall sp [] E tr) Cx G E := fun F σ H A hE Q => h F σ H A _ fun vs F2 H2 g2 r2 => by
  show sp (vs ++ []) H2 Q E
  rw [List.append_nil]
  refine hs0 _ _ _ _ ?_
  exact c_out (A.on g2) r2 hR hp fun F' H' g => hE F' H' ((A.on g2).on g)
theorem m_callU {sp : Sp} (hs0 : ∀ vs H Q E, spM c.K prm vs H Q E → sp vs H Q E) (hG : G = A0 ++ (M ++ B0)) (hG' : G' = A0 ++ (M' ++ B0)) (h : EvA c G ρ tr es) (hR : ∀ x ∈ R, x ∈ c.S ∨ x ∈ A0 ∨ x ∈ B0) (hp : prm es R M (Det (.ret d) M')) : EvM c G ρ (tCall sp [] E tr) d G' := fun F σ H A Q q => h F σ H A _ fun vs F1 H1 g1 r1 => by
  subst hG hG'
  show sp (vs ++ []) H1 Q E
  rw [List.append_nil]
  refine hs0 _ _ _ _ ?_
  exact c_outM (A.on g1) r1 hR hp (post_ret (A.on g1) q)
theorem x_callMU {sp : Sp} (hs0 : ∀ vs H Q E, spM c.K prm vs H Q E → sp vs H Q E) (hG : G = A0 ++ (M ++ B0)) (hG' : G' = A0 ++ (M' ++ B0)) (h : EvA c G ρ tr es) (hR : ∀ x ∈ R, x ∈ c.S ∨ x ∈ A0 ∨ x ∈ B0) (hp : prm es R M (Det (.exc Cx) M')) : EvX c G ρ (tCall sp [] E tr) Cx G' E := fun F σ H A hE Q => h F σ H A _ fun vs F1 H1 g1 r1 => by
  subst hG hG'
  show sp (vs ++ []) H1 Q E
  rw [List.append_nil]
  refine hs0 _ _ _ _ ?_
  exact c_outM (A.on g1) r1 hR hp (post_exc (A.on g1) hE)
theorem m_methU {sp : Sp} (hs0 : ∀ vs H Q E, spM c.K prm vs H Q E → sp vs H Q E) (hG : G = A0 ++ (M ++ B0)) (hG' : G' = A0 ++ (M' ++ B0)) (h : EvP c G ρ ta (.ins C ks ds)) (hm : m ∉ ks) (ha : EvA c G ρ tr es) (hR : ∀ x ∈ R, x ∈ c.S ∨ x ∈ A0 ∨ x ∈ B0) (hp : prm (.ins C ks ds :: es) R M (Det (.ret d) M')) : EvM c G ρ (tMeth C m sp [] E ta tr) d G' := fun F σ H A Q q => h F σ H A _ fun v F1 H1 g1 r1 => by
  subst hG hG'
  obtain ⟨a, dx, fs, rfl, h1, h2⟩ := ins_at g1.s r1 hm
  refine ⟨a, dx, fs, rfl, h1, h2, ha F1 σ H1 (A.on g1) _ fun vs F2 H2 g2 r2 => ?_⟩
  show sp (V.ref a :: (vs ++ [])) H2 Q E
  rw [List.append_nil]
  refine hs0 _ _ _ _ ?_
  exact c_outM ((A.on g1).on g2) (.cons (r1.mono g2.f) r2) hR hp (post_ret ((A.on g1).on g2) q)
theorem x_methMU {sp : Sp} (hs0 : ∀ vs H Q E, spM c.K prm vs H Q E → sp vs H Q E) (hG : G = A0 ++ (M ++ B0)) (hG' : G' = A0 ++ (M' ++ B0)) (h : EvP c G ρ ta (.ins C ks ds)) (hm : m ∉ ks) (ha : EvA c G ρ tr es) (hR : ∀ x ∈ R, x ∈ c.S ∨ x ∈ A0 ∨ x ∈ B0) (hp : prm (.ins C ks ds :: es) R M (Det (.exc Cx) M')) : EvX c G ρ (tMeth C m sp [] E ta tr) Cx G' E := fun F σ H A hE Q => h F σ H A _ fun v F1 H1 g1 r1 => by
  subst hG hG'
  obtain ⟨a, dx, fs, rfl, h1, h2⟩ := ins_at g1.s r1 hm
  refine ⟨a, dx, fs, rfl, h1, h2, ha F1 σ H1 (A.on g1) _ fun vs F2 H2 g2 r2 => ?_⟩
  show sp (V.ref a :: (vs ++ [])) H2 Q E
  rw [List.append_nil]
  refine hs0 _ _ _ _ ?_
  exact c_outM ((A.on g1).on g2) (.cons (r1.mono g2.f) r2) hR hp (post_exc ((A.on g1).on g2) hE)
theorem p_callU {sp : Sp} (hs0 : ∀ vs H Q E, spD c.K pre vs H Q E → sp vs H Q E) (h : EvA c G ρ tr ds) (hR : ∀ x ∈ R, x ∈ c.S ∨ x ∈ G) (hp : pre ds R (.ret d)) : EvP c G ρ (tCall sp [] E tr) d := fun F σ H A Q q => h F σ H A _ fun vs F1 H1 g1 r1 => by
  show sp (vs ++ []) H1 Q E
  rw [List.append_nil]
  refine hs0 _ _ _ _ ?_
  exact c_out (A.on g1) r1 hR hp fun v F' H' g r => q v F' H' (g1.trans g) r
theorem n_callU {sp : Sp} (hs0 : ∀ vs H Q E, spD c.K pre vs H Q E → sp vs H Q E) (h : EvA c G ρ tr ds) (hR : ∀ x ∈ R, x ∈ c.S ∨ x ∈ G) (hp : pre ds R (.new d)) (hs : ∀ ns, d ≠ .scr ns) : EvN c G ρ (tCall sp [] E tr) d := fun F σ H A Q q => h F σ H A _ fun vs F1 H1 g1 r1 => by
  show sp (vs ++ []) H1 Q E
  rw [List.append_nil]
  refine hs0 _ _ _ _ ?_
  exact c_out (A.on g1) r1 hR hp fun p F' H' g hp' hf ho => q p F' H' (g1.trans g) (fresh_back g1.h hp') hf ho hs
end
end Dl

/-! a list comprehension whose element may raise: the exception passes the block, the block's names are let go, and it is in the def's air -/
namespace Xg
open PySem PySem.Spec PyProof.Rows L2
theorem inv_xe {X : Cx} {pins : List (Addr × Obj)} {σ : L2.St} {H : Hp} {s : Shared} {xe : Value → Shared → Prop} (I : L2.Inv X pins σ H s) : L2.Inv { X with xe := xe } pins σ H s :=
  ⟨⟨I.ok.mod, I.ok.kind, I.ok.glob, I.ok.blt, I.ok.above, I.ok.inj, I.ok.has, I.ok.cab, I.ok.hd, I.ok.frames, I.ok.stk, I.ok.exf, I.ok.bs, I.ok.bsz, I.ok.noex, I.ok.exfs, I.ok.funs, I.ok.frf⟩, I.os, I.bare, I.base, I.loc, I.cell, I.free, I.freeC, I.pin, I.hok, I.len⟩
/-- what a callee of the block's lets out -/
def outE (Y : Cx) (E : XK) : Value → Shared → Prop := fun e s' => ∃ (pins : List (Addr × Obj)) (σ : L2.St) (H : Hp) (s : Shared), L2.Inv Y pins σ H s ∧ L2.CX Y.prog Y.w Y.stack H s E e s'
/-- the block's context, where what callees let out may come -/
abbrev blkX (X : Cx) (E : XK) (s : Shared) (H : Hp) (scope : Scope) (cenv : Env) (fp : List Addr) : Cx := { X.blk s H scope cenv fp with xe := outE (X.blk s H scope cenv fp) E }
theorem pass_blk {X : Cx} {E : XK} {s : Shared} {H : Hp} {scope : Scope} {cenv : Env} {fp : List Addr} : Passes (L2.CX X.prog X.w) (blkX X E s H scope cenv fp) E :=
  fun pins σ H' s1 _ _ I c => ⟨pins, σ, H', s1, inv_xe I, c⟩
/-- a frame's note is by the frame alone -/
theorem note_frame {x : Value} {a b : Env} (e : a.frame = b.frame) : PySem.noteFrame x a = PySem.noteFrame x b := by
  unfold PySem.noteFrame PySem.frameOf
  rw [e]
section
variable {X : Cx} {pins : List (Addr × Obj)} {σ : L2.St} {H3 : Hp} {s3 : Shared} {E : XK} {scope : Scope} {ce : Env} {fp : List Addr}
/-- held by the frame, one object that is no part of it turned -/
theorem held_turned {B B2 : Heap} {l : List Env} {a C L : Addr} {Z : Obj → Prop} {h h' : Heap} (hd : HandSPX.HeldZ B l a Z L h) (hC : ∃ o, B.get? C = some o) (sb : ∀ b, b ≠ C → h'.get? b = h.get? b) (b2 : ∀ b o, B2.get? b = some o → B.get? b = some o ∧ b ≠ C) : HandSPX.HeldZ B2 l a Z L h' := by
  obtain ⟨kb, ea, fr, oe, vs, T, oT, ts, he, hz, hdt, h1, nT, Te, hT, hdT, h3⟩ := hd
  obtain ⟨oC, hoC⟩ := hC
  have none2 : ∀ b, B.get? b = none → B2.get? b = none := fun b e => by
    cases q : B2.get? b with
    | none => rfl
    | some o => rw [(b2 b o q).1] at e; cases e
  have neC : ∀ b, B.get? b = none → b ≠ C := fun b e z => by rw [z, hoC] at e; cases e
  refine ⟨fun b o e => ?_, none2 a ea, ?_, oe, vs, T, oT, ts, (sb a (neC a ea)).trans he, hz, hdt, h1, none2 T nT, Te, (sb T (neC T nT)).trans hT, hdT, h3⟩
  · obtain ⟨e1, e2⟩ := b2 b o e
    exact (sb b e2).trans (kb b o e1)
  · clear he hz hdt h1 nT Te hT hdT h3
    induction l with
    | nil => exact trivial
    | cons env r ih =>
      obtain ⟨k1, ⟨F, o, f1, f2, f3, f4⟩, k3⟩ := fr
      exact ⟨k1, ⟨F, o, f1, none2 F f2, (sb F (neC F f2)).trans f3, f4⟩, ih k3⟩
/-- held, and held again -/
theorem held_again {M : Model} {A : Around} {B : Heap} {l : List Env} {a L : Addr} {Z : Obj → Prop} {cenv : Env} {s : Shared} {E₁ : Value → Shared → Prop} (hf : cenv.frame = some L) (hd : HandSPX.HeldZ B l a Z L s.heap)
    (q : ∀ h', HandSPX.HeldZ B l a Z L h' → s.heap.UpToSlots h' → (∀ b o, B.get? b = some o → h'.get? b = some o) → E₁ (.ref a) { s with heap := h' }) : wpAny M A (PySem.passOn "comprehension.variables-let-go" (.ref a) cenv : Sem Value) (fun _ _ => False) E₁ s := by
  obtain ⟨kb, ea, fr, oe, vs, T, oT, ts, he, hz, hdt, h1, nT, Te, hT, hdT, h3⟩ := id hd
  unfold PySem.passOn
  refine wpAny_bind (wpAny_field he hdt h1 ?_)
  rw [if_neg (by simp)]
  refine wpAny_bind ?_
  unfold PySem.setFlight
  refine wpAny_bind (wpAny_field he hdt h1 ?_)
  rw [if_pos (by simp), hf]
  have hsz := (Array.getElem?_eq_some_iff.mp h3).1
  refine wpAny_setField hT hdT hsz ?_
  refine wpAny_throw ?_
  have d3 := Obj.data_mapFields hdT (·.setIfInBounds 3 (rawInt L))
  have g3 := Heap.get?_update_self (Obj.mapFields (·.setIfInBounds 3 (rawInt L))) hT (Obj.isFreed_of_fields d3)
  have other : ∀ b, b ≠ T → (s.heap.update T (Obj.mapFields (·.setIfInBounds 3 (rawInt L)))).get? b = s.heap.get? b := fun b hb => Heap.get?_update_other _ _ (Ne.symm hb)
  have inB : ∀ b o, B.get? b = some o → b ≠ T := fun b o e z => by rw [z, nT] at e; cases e
  have keep : ∀ b o, B.get? b = some o → (s.heap.update T (Obj.mapFields (·.setIfInBounds 3 (rawInt L)))).get? b = some o := fun b o e => (other b (inB b o e)).trans (kb b o e)
  have nf : ∀ b o, s.heap.get? b = some o → (∀ vs, o.data ≠ .fields vs) → b ≠ T := fun b o e n z => by
    rw [z, hT] at e
    cases e
    exact n ts hdT
  refine q _ ⟨keep, ea, fr.of_keeps fun b o e n => ⟨o, (other b (nf b o e n)).trans e, rfl⟩, oe, vs, T, _, _, (other a (Ne.symm Te)).trans he, hz, hdt, h1, nT, Te, g3, d3, ?_⟩ (fun b o e n => ⟨o.slots, (other b (nf b o e n)).trans e⟩) keep
  simp [hsz]
theorem hok_less {P : Program} {w : World} {H : Hp} {B B2 G : Heap} {C : Addr} (hok : HOk P w H B) (nC : H C = none) (b3 : ∀ b o, B.get? b = some o → b ≠ C → B2.get? b = some o) (gB : ∀ b o, B2.get? b = some o → G.get? b = some o) : HOk P w H G := fun a o e =>
  (hok a o e).stay (fun b u hb q => gB b u (b3 b u q fun z => by
    subst z
    rcases hb with z | z
    · rw [z, e] at nC; cases nC
    · rw [nC] at z; cases z)) (fun _ q => q) fun _ _ q => q
theorem blk_fails (hs0 : X.stack = X.env :: X.outer) (hf : X.env.frame = some X.env.locals) (tk : Takes X (fun cls d _ H => E cls d H)) (I3 : L2.Inv X pins σ H3 s3) (f3 : ∀ b ∈ fp, FpOk X pins H3 b ∧ b < s3.heap.objs.size) (cL : ce.locals = s3.heap.objs.size) (cf : ce.frame = X.env.frame) {e : Value} {s' : Shared}
    (x : outE (X.blk s3 H3 scope ce fp) E e s') : notedBy (model X.prog X.w) X.A ce (fun e s' => CompFails (model X.prog X.w) X.A X.xe ce e s') e s' := by
  obtain ⟨pins', σ', H', s1, I', c⟩ := x
  have I7 : L2.Inv X pins σ H' s1 := I3.call' (ch := fp) I'.os I'.base I'.hok I'.bare fun b hb => ⟨(f3 b hb).1.2.2.2.1, (f3 b hb).1.2.1, (f3 b hb).1.2.2.2.2.1, (f3 b hb).1.2.2.2.2.2⟩
  have nC : H' s3.heap.objs.size = none := by
    have z : H' ce.locals = none := I'.free
    rwa [cL] at z
  obtain ⟨m, hn, _⟩ := I'.loc
  have hn : s1.heap.Ns ce.locals m := hn
  rw [cL] at hn
  have fC : FpOk X pins H' s3.heap.objs.size := I3.fpOk (Nat.le_refl _) nC
  rw [← cL] at hn fC nC
  obtain ⟨a, B, H2, cls, d, rfl, fl, hok, ub, na, os, ag, hE⟩ := c
  have fl : HandSPX.FlyingZ B X.stack a (Zc cls d) s'.heap := fl
  have ub : UB (frs X.stack) H' H2 s1.heap B s'.heap := ub
  have cfr : ce.locals ∉ frs X.stack := fun z => by
    rcases List.mem_cons.mp (I7.stkSub _ z) with q | q
    · exact fC.2.1 q
    · exact fC.2.2.1 q
  obtain ⟨oC, es, ep, hoC, hdC, rC⟩ := id hn
  have hBC : B.get? ce.locals = some oC := ub.keep _ oC hoC nC cfr
  have st : B.StaysIn s'.heap := fl.1
  show wpAny _ _ (PySem.noteFrame (.ref a) ce) _ _ _
  rw [note_frame cf]
  rw [hs0] at fl
  have hfr : X.A.frames = some (X.env :: X.outer) := by rw [I7.ok.frames, hs0]
  refine HandSPX.looks_onZ Zc.steady hfr hf fl fun h1 held up => ?_
  have held : HandSPX.HeldZ B (X.env :: X.outer) a (Zc cls d) X.env.locals h1 := held
  refine ⟨m, ⟨oC, es, ep, held.1 _ oC hBC, hdC, rC⟩, fun h2 m2 hn2 sb => ?_⟩
  have sb2 : ∀ b, b ≠ ce.locals → h2.get? b = h1.get? b := sb.2
  -- the ground without the block's names
  obtain ⟨B2, hB2⟩ : ∃ B2 : Heap, B2 = PySem.W.hideAll B [ce.locals] := ⟨_, rfl⟩
  have b2 : ∀ b o, B2.get? b = some o → B.get? b = some o ∧ b ≠ ce.locals := fun b o e => by
    rw [hB2] at e
    refine ⟨PySem.W.of_hideAll _ e, fun z => ?_⟩
    rw [PySem.W.hideAll_none _ (by rw [z]; exact List.mem_singleton_self _)] at e
    cases e
  have b3 : ∀ b o, B.get? b = some o → b ≠ ce.locals → B2.get? b = some o := fun b o e n => by
    rw [hB2]
    exact PySem.W.hideAll_get _ e fun z => n (List.mem_singleton.mp z)
  have held2 := held_turned held ⟨oC, hBC⟩ sb2 b2
  refine held_again (s := { s' with heap := h2 }) (cf.trans hf) held2 fun h3 held3 up3 k3 => ?_
  -- the state without the exception
  obtain ⟨G, g1, g2⟩ := restrict h3 fun b => (B2.get? b).isSome || decide (b ∈ frs X.stack)
  have gF : ∀ b, b ∈ frs X.stack → G.get? b = h3.get? b := fun b hb => g1 b (by simp [hb])
  have gB : ∀ b o, B2.get? b = some o → G.get? b = some o := fun b o e => by
    rw [g1 b (by simp [e])]
    exact k3 b o e
  have og : ∀ b o, G.get? b = some o → h3.get? b = some o ∧ ((B2.get? b).isSome = true ∨ b ∈ frs X.stack) := fun b o e => by
    cases q : ((B2.get? b).isSome || decide (b ∈ frs X.stack)) with
    | false => rw [g2 b q] at e; cases e
    | true =>
      rw [g1 b q] at e
      exact ⟨e, by simpa [Bool.or_eq_true] using q⟩
  have slot : ∀ b o, s1.heap.get? b = some o → b ∈ frs X.stack → ∃ sl, h3.get? b = some { o with slots := sl } := fun b o e hb => by
    obtain ⟨_, o₀, e₀, hnf⟩ := I7.stack.mem hb
    rw [e] at e₀
    cases e₀
    obtain ⟨l1, q1⟩ := ub.slot b o e hb
    obtain ⟨l2, q2⟩ := up b _ q1 hnf
    have q3 : h2.get? b = some { o with slots := l2 } := (sb2 b fun z => cfr (z ▸ hb)).trans q2
    obtain ⟨l3, q4⟩ := up3 b _ q3 hnf
    exact ⟨l3, q4⟩
  refine tk _ _ ⟨a, B2, { s1 with heap := G, gens := s'.gens, drawn := s'.drawn, toks := s'.toks }, pins, σ, H2, cls, d, rfl, ?_, fun b o e hb => ?_, Heap.UpToSlots.of_keeps fun b o e => (og b o e).1, .inr (.inr (by rw [hs0]; exact held3)), na, os, ag, hE⟩
  · refine I7.call (ch := [ce.locals]) ⟨fun b o e n hb hc => gB b o (b3 b o (ub.keep b o e n hb) fun z => hc (by rw [z]; exact List.mem_singleton_self _)), fun b o e n hb hc => ?_, fun b o e n _ => ub.free b o e n, fun b o e hc => ?_, ub.tups, ub.frzs, ub.tbls⟩ ?_ ag (fun b hb => ?_)
    · obtain ⟨sl, q⟩ := slot b o e hb
      exact ⟨sl, by rw [gF b hb]; exact q⟩
    · by_cases hb : b ∈ frs X.stack
      · obtain ⟨sl, q⟩ := slot b o e hb
        exact ⟨_, by rw [gF b hb]; exact q⟩
      · obtain ⟨o', q⟩ := ub.there b o e hb
        exact ⟨o', gB b o' (b3 b o' q fun z => hc (by rw [z]; exact List.mem_singleton_self _))⟩
    · exact hok_less hok (ub.free _ oC hoC nC) b3 gB
    · rw [List.mem_singleton] at hb
      subst hb
      exact ⟨fC.2.2.2.1, fC.2.1, fC.2.2.2.2.1, fC.2.2.2.2.2⟩
  · obtain ⟨e', h⟩ := og b o e
    rcases h with h | h
    · obtain ⟨o', q⟩ := Option.isSome_iff_exists.mp h
      have z := k3 b o' q
      rw [e'] at z
      cases z
      exact q
    · exact absurd h hb
end
section
variable {X : Cx}
/-- what the end of a turn that goes well is to be -/
theorem lcX_core {pins : List (Addr × Obj)} {s : Shared} {σ : L2.St} {H : Hp} {Q : VK} {E : XK} {elt tg iter : Expr} {ifs : List Expr} {scope : Scope} {own : List (Str × Nat)} {pos pos' : Pos} {wi : TI} {g : TG} {tt : TT} {te : TE} {use : Option (Value → Sem Unit)} {Qf : Value → Shared → Prop}
    (hc : X.calm = true) (hN : X.N.Nodup) (hs0 : X.stack = X.env :: X.outer) (hf : X.env.frame = some X.env.locals) (tk : Takes X (fun cls d _ H => E cls d H)) (I : L2.Inv X pins σ H s) (hi : PI X tg iter wi) (ok : BlkOk X.N X.env.scope scope own)
    (hg : ∀ s H C cl fp, PG (blkX X E s H scope (compEnvC scope cl C X.env) fp) tg g) (ht : ∀ s H C cl fp, PTs (blkX X E s H scope (compEnvC scope cl C X.env) fp) ifs tt)
    (he : ∀ s H C cl fp, PE (blkX X E s H scope (compEnvC scope cl C X.env) fp) elt te) (hs : ∀ x, foldedSetIterable iter X.env x = pure x)
    (h : tLc wi g tt te (own.map (·.2)) σ H Q)
    (hR : ∀ D (cenv : Env) s' m H', L2.Inv X pins σ H' s' → Q (.ref D) H' → s'.heap.Ns cenv.locals m → FpOk X pins H' cenv.locals → compEnds (model X.prog X.w) X.A X.xe use Qf (.ref D) cenv (.ok .next) s') :
    wpAny (model X.prog X.w) X.A (PySem.comprehension (.ListComp elt [⟨tg, iter, ifs, 0⟩] scope pos) scope X.env pos' (newList []) false (eval iter X.env) use) Qf X.xe s := by
  have cap : ∀ y ∈ scope.names, y.2 = .free → ∃ c, X.env.cells.lookup y.1 = some c := fun y hy e => (ok.free y hy e).elim (fun k => I.ok.has _ (.inl k)) fun k => I.ok.has _ (.inr k)
  refine comprehension_at (use := use) rfl hs (closure_ok cap) ok.kind (fun y hy e => by rw [ok.uniq y hy, e]) ?_
  refine thn (hi.run pins s σ H _ I h) fun xv s1 hx => thn hx fun itv s2 ⟨it, fp, tn, J, H2, e, I2, T, st2, f2, q⟩ => ?_
  subst e
  refine wpAny_newObj_type (newEnv_comp ?_) (Nat.zero_le _)
  obtain ⟨D, hD⟩ : ∃ D, s2.heap.objs.size = D := ⟨_, rfl⟩
  rw [hD]
  have hDn : H2 D = none := I2.hok.fresh (Nat.le_of_eq hD)
  obtain ⟨W, ⟨m0, w0⟩, turn⟩ := q D hDn
  obtain ⟨s3, hs3⟩ : ∃ s3 : Shared, ({ s2 with heap := s2.heap.push { cls := .type "list", data := .seq ([] : List Value).toArray } } : Shared) = s3 := ⟨_, rfl⟩
  rw [hs3]
  have h3 : s3.heap = s2.heap.push { cls := .type "list", data := .seq ([] : List Value).toArray } := by rw [← hs3]
  have up3 : ∀ b o, s2.heap.get? b = some o → s3.heap.get? b = some o := fun b o e => by rw [h3]; exact Heap.get?_push_of_some _ e
  have I3 : L2.Inv X pins σ (upd H2 D (.lst [])) s3 := by
    rw [← hs3]
    refine I2.laid (t' := s2.toks) (fun b o e => Heap.get?_push_of_some _ e) (Nat.le_of_eq hD) ⟨Nat.zero_le _, [], 0, .nil, ?_⟩
    rw [← hD]
    exact Heap.get?_push_size _ rfl
  have f3 : ∀ b ∈ fp, FpOk X pins (upd H2 D (.lst [])) b ∧ b < s3.heap.objs.size := fun b hb => by
    obtain ⟨o, eo, _⟩ := T.obj _ _ st2 b hb
    have hlt := Heap.lt_size eo
    have hne : b ≠ D := by rw [← hD]; exact Nat.ne_of_lt hlt
    refine ⟨⟨?_, (f2 b hb).2⟩, Heap.lt_size (up3 b o eo)⟩
    rw [upd_ne hne]
    exact (f2 b hb).1
  have st3 : tn 0 s3.heap := T.keep _ _ _ st2 fun b _ o e => up3 b o e
  obtain ⟨ce, hce⟩ : ∃ ce, compEnvC scope (cellsFrom (s3.heap.objs.size + 1) scope.names (cloFrom X.env.cells scope.names [])) s3.heap.objs.size X.env = ce := ⟨_, rfl⟩
  have I4 := inv_xe (xe := outE (X.blk s3 (upd H2 D (.lst [])) scope ce fp) E) (hce ▸ block_start I3 ok hN f3)
  have pg := hce ▸ hg s3 (upd H2 D (.lst [])) s3.heap.objs.size (cellsFrom (s3.heap.objs.size + 1) scope.names (cloFrom X.env.cells scope.names [])) fp
  have pt := hce ▸ ht s3 (upd H2 D (.lst [])) s3.heap.objs.size (cellsFrom (s3.heap.objs.size + 1) scope.names (cloFrom X.env.cells scope.names [])) fp
  have pe := hce ▸ he s3 (upd H2 D (.lst [])) s3.heap.objs.size (cellsFrom (s3.heap.objs.size + 1) scope.names (cloFrom X.env.cells scope.names [])) fp
  show codeAny _ _ (.compStart (.ListComp elt [⟨tg, iter, ifs, 0⟩] scope pos) 0 (.ref it) (.ref D) (compEnvC scope (cellsFrom (s3.heap.objs.size + 1) scope.names (cloFrom X.env.cells scope.names [])) s3.heap.objs.size X.env)) (compEnds (model X.prog X.w) X.A X.xe use Qf (.ref D) (compEnvC scope (cellsFrom (s3.heap.objs.size + 1) scope.names (cloFrom X.env.cells scope.names [])) s3.heap.objs.size X.env)) { s3 with heap := pushCells (s3.heap.push { cls := .type "dict", data := .dict #[] }) scope.names }
  rw [hce]
  have cL : ce.locals = s3.heap.objs.size := by rw [← hce]; rfl
  have cf : ce.frame = X.env.frame := by rw [← hce]; rfl
  have n3 : ∀ b ∈ fp, (upd H2 D (.lst [])) b = none := fun b hb => (f3 b hb).1.1
  have st4 : tn 0 (pushCells (s3.heap.push { cls := .type "dict", data := .dict #[] }) scope.names) := T.keep _ _ _ st3 fun b _ o e => pushCells_keeps _ _ _ _ (Heap.get?_push_of_some _ e)
  obtain ⟨s4, hs4⟩ : ∃ s4 : Shared, ({ s3 with heap := pushCells (s3.heap.push { cls := .type "dict", data := .dict #[] }) scope.names } : Shared) = s4 := ⟨_, rfl⟩
  rw [hs4] at I4 ⊢
  have st4 : tn 0 s4.heap := by rw [← hs4]; exact st4
  obtain ⟨H3, hH3⟩ : ∃ H3, upd H2 D (.lst []) = H3 := ⟨_, rfl⟩
  rw [hH3] at I3 I4 pg pt pe w0 n3 f3
  -- what a turn lets out
  have eE : (fun e s' => compEnds (model X.prog X.w) X.A X.xe use Qf (.ref D) ce (.error e) s') = fun e s' => CompFails (model X.prog X.w) X.A X.xe ce e s' := by
    funext e s'
    cases use <;> rfl
  have err : ∀ e s', outE (X.blk s3 H3 scope ce fp) E e s' → notedBy (model X.prog X.w) X.A ce (fun e s' => compEnds (model X.prog X.w) X.A X.xe use Qf (.ref D) ce (.error e) s') e s' := fun e s' x => by
    rw [eE]
    exact blk_fails hs0 hf tk I3 f3 cL cf x
  have stat : ∀ {σ' : L2.St} {H' : Hp} {s' : Shared}, L2.Inv (blkX X E s3 H3 scope ce fp) [] σ' H' s' → (∀ b ∈ fp, H' b = none) → ∀ b ∈ fp, FpOk (blkX X E s3 H3 scope ce fp) [] H' b := fun {σ' H' s'} I' hn b hb => by
    have k := I'.ok.exf b hb
    exact ⟨hn b hb, k.1, I'.ok.exfs b hb, .inl hb, fun x c e => k.2 x c e, fun p hp => nomatch hp⟩
  have loop : codeAny (model X.prog X.w) X.A (.compLoop (.ListComp elt [⟨tg, iter, ifs, 0⟩] scope pos) 0 (.ref it) (.ref D) ce) (compEnds (model X.prog X.w) X.A X.xe use Qf (.ref D) ce) s4 := by
    apply compLoop_any fun n s' => ∃ i H', L2.Inv (blkX X E s3 H3 scope ce fp) [] (wipe σ (own.map (·.2))) H' s' ∧ tn i s'.heap ∧ (∀ b ∈ fp, H' b = none) ∧ W i n H'
    case h => exact ⟨0, H3, I4, st4, n3, w0⟩
    intro n s5 h5
    obtain ⟨i, H5, I5, st5, n5, w5⟩ := h5
    cases turn i n H5 w5 with
    | inl hstop =>
      have td := T.done (blkX X E s3 H3 scope ce fp) rfl rfl rfl hc i [] s5 _ H5 (fun _ _ => False) I5 (stat I5 n5) st5 hstop.1
      refine thnF td fun r s6 ⟨hr, I6⟩ => ?_
      rw [hr]
      have I7 : L2.Inv X pins σ H5 s6 := by
        refine I3.call' (ch := fp) I6.os I6.base I6.hok I6.bare fun b hb => ?_
        obtain ⟨g0, g1, g2, g3, g4, g5⟩ := (f3 b hb).1
        exact ⟨g3, g1, g4, g5⟩
      obtain ⟨m, hn, _⟩ := I6.loc
      have nC : H5 ce.locals = none := I6.free
      refine hR D ce s6 m H5 I7 hstop.2 hn ?_
      rw [cL] at nC ⊢
      exact I3.fpOk (Nat.le_refl _) nC
    | inr hgo =>
      obtain ⟨go, Nx, hNx, step⟩ := hgo
      have ti := T.item (blkX X E s3 H3 scope ce fp) rfl rfl rfl hc i [] s5 _ H5 (fun _ _ => False) I5 (stat I5 n5) st5 go
      refine thnF ti fun r s6 ⟨u, hr, h6⟩ => ?_
      rw [hr]
      refine thnF h6 fun _ s7 ⟨x, H7, I7, r7, y7, st7, n7⟩ => ?_
      have fin : ∀ {s' : Shared} {σ' : L2.St} {H' : Hp}, L2.Inv (blkX X E s3 H3 scope ce fp) ([] ++ pinsAt fp s7.heap) σ' H' s' → wipe σ' (own.map (·.2)) = wipe σ (own.map (·.2)) → Nx H' → ∃ m, m < n ∧ ∃ i H', L2.Inv (blkX X E s3 H3 scope ce fp) [] (wipe σ (own.map (·.2))) H' s' ∧ tn i s'.heap ∧ (∀ b ∈ fp, H' b = none) ∧ W i m H' := by
        intro s' σ' H' I' hw nx
        obtain ⟨m', hm, w'⟩ := hNx H' nx
        have pin' : ∀ b ∈ fp, ∀ o, s7.heap.get? b = some o → s'.heap.get? b = some o ∧ H' b = none := fun b hb o e => by
          have z := I'.pin (b, o) (by simpa using mem_pinsAt hb e)
          exact ⟨z.1, z.2.1⟩
        refine ⟨m', hm, i + 1, H', ?_, T.keep _ _ _ st7 fun b hb o e => (pin' b hb o e).1, fun b hb => ?_, w'⟩
        · refine (I'.unpinned (pins := [])).weak (by rw [← hw, wipe_length]) fun j v e => ?_
          rw [← hw] at e
          exact (wipe_some e).1
        · obtain ⟨o, e, _⟩ := T.obj _ _ st7 b hb
          exact (pin' b hb o e).2
      refine wpAny_mono (pg.run _ s7 _ H7 x u _ (I7.pinned (stat I7 n7) (T.obj _ _ st7)) r7 (step x H7 y7)) (fun _ s8 ⟨σ8, H8, I8, hw8, q8⟩ => ?_) err
      refine wpAny_mono (pt.run _ s8 σ8 H8 _ I8 q8) (fun b s9 ⟨H9, I9, q9⟩ => ?_) err
      cases b with
      | false => exact fin I9 hw8 q9
      | true =>
        refine wpAny_mono (pe.run _ s9 σ8 H9 _ I9 q9) (fun z s10 ⟨yv, H10, I10, r10, acc, hD10, hz10, nx⟩ => ?_) err
        exact app_ok (X := blkX X E s3 H3 scope ce fp) I10 hD10 hz10 r10 fun s11 I11 => fin I11 hw8 nx
  exact codeAny_compStart_list loop (T.self X.A 0 _ _ _ st4 loop)
/-- name = [..] on one line, its element one that may raise -/
theorem ps_setLcX {i : Nat} {y : Str} {py : Pos} {E : XK} {elt tg iter : Expr} {ifs : List Expr} {scope : Scope} {own : List (Str × Nat)} {pos spos : Pos} {wi : TI} {g : TG} {tt : TT} {te : TE} (hc : X.calm = true) (hN : X.N.Nodup) (hs0 : X.stack = X.env :: X.outer) (hf : X.env.frame = some X.env.locals) (tk : Takes X (fun cls d _ H => E cls d H))
    (hy : X.N[i]? = some y) (hyl : X.env.scope.names.lookup y = some .local) (hsw : swapsWith (.ListComp elt [⟨tg, iter, ifs, 0⟩] scope pos) (some (.Name y py)) spos.line X.env = pure true) (hi : PI X tg iter wi) (ok : BlkOk X.N X.env.scope scope own)
    (hg : ∀ s H C cl fp, PG (blkX X E s H scope (compEnvC scope cl C X.env) fp) tg g) (ht : ∀ s H C cl fp, PTs (blkX X E s H scope (compEnvC scope cl C X.env) fp) ifs tt)
    (he : ∀ s H C cl fp, PE (blkX X E s H scope (compEnvC scope cl C X.env) fp) elt te) (hs : ∀ x, foldedSetIterable iter X.env x = pure x := by intro _; rfl) :
    PS X (.Assign [.Name y py] (.ListComp elt [⟨tg, iter, ifs, 0⟩] scope pos) spos) (tAsg (tLc wi g tt te (own.map (·.2))) (gName i)) := by
  constructor
  intro pins s σ H D I h
  rw [exec_Assign_Name_used _ _ _ _ hsw]
  apply wpAny_bind
  apply wpAny_standAt
  apply wpAny_bind
  show wpAny _ X.A (do let _ ← PySem.comprehension (.ListComp elt [⟨tg, iter, ifs, 0⟩] scope pos) scope X.env (firstIterPos [⟨tg, iter, ifs, 0⟩] pos) (newList []) false (eval iter X.env) (some (assign (.Name y py) X.env))) _ _ s
  have h : tLc wi g tt te (own.map (·.2)) σ H (fun x H1 => gName i x σ H1 D.nx) := h
  apply wpAny_bind
  refine thn (lcX_core (Qf := fun _ s' => SP X pins D .next s') hc hN hs0 hf tk I hi ok hg ht he hs h ?_) fun _ s' hq => wpAny_pure (wpAny_pure hq)
  intro L cenv s' m H' I' q hn f
  show wpAny _ _ (assign (.Name y py) X.env (.ref L)) _ _ _
  apply wpAny_assign_Name
  refine store_ok2 (v := V.ref L) I' hN hy (.inl hyl) rfl (fun s2 I2 st => ?_) (.inr hyl)
  obtain ⟨a, sb, ha⟩ := st
  obtain ⟨f0, f1, f2, f3, f4, f5⟩ := f
  have ne : cenv.locals ≠ a := by
    cases ha with
    | inl z => rw [z]; exact f1
    | inr z => exact fun e => f4 y a z e.symm
  exact ⟨m, hn.sameBut sb ne, fun h3 sb3 => ⟨_, H', I2.turned (t' := s2.toks) (fun b o hb e => (sb3.2 b hb).trans e) f0 f1 f3 f4 f5, q⟩⟩
end
end Xg
namespace Dl
open PySem PySem.Spec PyProof.Rows L2 Evl Xb
section
variable {c : Ct} {G : Res} {ρ : En} {te : TE} {tr : TA} {es : List D} {pre : Pre} {R : Res} {E : XK} {Cx : Addr}
theorem r_callU {sp : Sp} (hs0 : ∀ vs H Q E, spD c.K pre vs H Q E → sp vs H Q E) (h : EvA c G ρ tr es) (hR : ∀ x ∈ R, x ∈ c.S ∨ x ∈ G) (hp : pre es R (.exc Cx)) : EvR c G ρ (tCall sp [] E tr) Cx (fun _ => E) := fun F σ H A hE Q => h F σ H A _ fun vs F2 H2 g2 r2 => by
  show sp (vs ++ []) H2 Q E
  rw [List.append_nil]
  exact hs0 _ _ _ _ (c_out (A.on g2) r2 hR hp fun F' H' g => hE F' H' (g2.trans g))
/-- the elements ahead of j are values, the one at j raises -/
theorem x_map {α : Type} {us : List α} {enc : α → D} {wi : TI} {gt : TG} {vs js : List Nat} {g : Res} {f : α → D} {ρu : α → En} {j : Nat} (hi : EvI c G ρ wi (us.map enc) g) (hg : ∀ x ∈ g, x ∈ G)
    (ht : ∀ u ∈ us, EvG c G (wipeE ρ vs) gt (enc u) (ρu u) js) (hj : ∀ j ∈ js, j ∈ vs) (he : ∀ i u, i < j → us[i]? = some u → EvP c G (ρu u) te (f u)) (hx : ∀ u, us[j]? = some u → EvR c G (ρu u) te Cx (fun _ => E)) (hjl : j < us.length) (hz : us.length ≤ 40000) :
    EvX c G ρ (tLc wi gt tYes te vs) Cx G E := fun F σ H A hE Q => hi F σ H A _ fun J F1 H1 pins g1 hp iok Dl hD => by
  have A1 := A.on g1
  have hlen : (us.map enc).length = us.length := by simp
  have DF1 : F1 Dl = none := fresh_back g1.s hD
  have DB : c.B Dl = none := fresh_back A1.go.h hD
  have hDG : ∀ x ∈ G, x.1 ≠ Dl := fun x hx e => by
    obtain ⟨h1, _, _⟩ := A1.ow x hx
    exact (h1.there (A1.ns x hx)) (by rw [e]; exact hD)
  refine ⟨fun i m H' => m = us.length - i ∧ i ≤ j ∧ ∃ F', At c G (wipeE ρ vs) F' (L2.wipe σ vs) H' ∧ Go F1 H1 F' H' ∧ F' Dl = none ∧ ∃ ws, H' Dl = some (.lst ws) ∧ RpA F' ws ((us.take i).map f), ⟨us.length, by simp, Nat.zero_le _, F1, ?_, ?_, DF1, [], upd_same, .nil⟩, ?_⟩
  · exact (A1.on (Go.newH g1.s hD)).wipe vs
  · exact Go.newH g1.s hD
  rintro i m H2 ⟨rfl, hi2, F2, A2, g2, DF2, ws, hD2, r2⟩
  have hlt : i < us.length := by omega
  have hpin : ∀ x ∈ pins, Shl c.K F2 H2 (.ref x.1) x.2 := fun x hx => by
    rcases hp x hx with k | k
    · rcases k with k | ⟨a, k1, k2⟩
      · exact .inl (k.mono g2.f)
      · exact .inr ⟨a, k1, k2.mono g2.f A2.go.h⟩
    · exact A2.read (.inr (hg x k))
  have hu : us[i]? = some us[i] := List.getElem?_eq_getElem hlt
  have hmem : us[i] ∈ us := List.getElem_mem hlt
  refine .inr ⟨iok.goes i F2 H2 (by rw [hlen]; exact hlt) g2.s hpin, fun H' => (i + 1) ≤ j ∧ ∃ F', At c G (wipeE ρ vs) F' (L2.wipe σ vs) H' ∧ Go F1 H1 F' H' ∧ F' Dl = none ∧ ∃ ws, H' Dl = some (.lst ws) ∧ RpA F' ws ((us.take (i + 1)).map f),
    fun H' ⟨h1, h2⟩ => ⟨us.length - (i + 1), by omega, rfl, h1, h2⟩, fun x H3 y => ?_⟩
  obtain ⟨F3, d, g3, hd, rd⟩ := iok.yields i F2 H2 x H3 (by rw [hlen]; exact hlt) g2.s hpin y
  have hd' : d = enc us[i] := by
    rw [List.getElem?_map, hu] at hd
    exact (Option.some.inj hd).symm
  subst hd'
  have A3 := A2.on g3
  have gg3 := g2.trans g3
  have nD2 : H2 Dl ≠ none := by rw [hD2]; exact fun z => nomatch z
  refine ht _ hmem F3 _ H3 x A3 rd _ fun σ4 A4 l4 k4 => ⟨wipe_ext l4 hj k4, ?_⟩
  show te σ4 H3 _
  by_cases hij : i = j
  · subst hij
    exact hx _ hu F3 σ4 H3 A4 (fun F' H' g' => hE F' H' (A1.on (gg3.trans g'))) _
  · refine he i _ (by omega) hu F3 σ4 H3 A4 _ fun y' F6 H6 g6 r6 => ?_
    have g26 := g3.trans g6
    have hD6 : H6 Dl = some (.lst ws) := g26.h _ _ hD2
    have DF6 : F6 Dl = none := g26.out nD2 DF2
    have A6 : At c G (wipeE ρ vs) F6 (L2.wipe σ vs) H6 := A2.on g26
    have hwl : ws.length = i := by
      rw [r2.len, List.length_map, List.length_take]
      omega
    refine ⟨ws, hD6, sz_lt (by omega), by omega, F6, ?_, ?_, DF6, ws ++ [y'], upd_same, ?_⟩
    · refine ⟨⟨Ex.mut A6.go.h DB, A6.go.f, fun a o e => ?_, A6.go.n⟩, A6.sl, A6.sh, fun z hz => ?_, A6.nd, A6.ns⟩
      · rw [upd_ne (ne_of_none e DF6)]; exact A6.go.s a o e
      · obtain ⟨w1, w2, w3⟩ := A6.ow z hz
        exact ⟨w1.keep (Ex.refl _) (fun o e => by rw [upd_ne (hDG z hz)]; exact e), w2, w3⟩
    · have gg := g2.trans g26
      exact ⟨Ex.mut gg.h hD, gg.f, fun a o e => by rw [upd_ne (ne_of_none e DF6)]; exact gg.s a o e, gg.n⟩
    · rw [List.take_add_one, hu, List.map_append]
      exact (r2.mono g26.f).snoc r6
end
/-! an own class's instance, asked for a built-in class -/
theorem kit_no {K : PySem.W.Frag} {S : Addr} {n : String} (h : PySem.W.subIn K (.ref S) (.type n) = some false) (hm : PySem.W.kitMeta n = true) : PySem.W.kitOne K (.ref S) (.type n) = some false := by
  unfold PySem.W.kitOne
  rw [show ((.ref S : Value) == .type n) = false from rfl, if_neg Bool.false_ne_true]
  show (if PySem.W.kitMeta n = true then PySem.W.subIn K (.ref S) (.type n) else none) = _
  rw [if_pos hm]
  exact h
theorem p_isiO {c : Ct} {G : Res} {ρ : En} {ta tb : TE} {ds : List D} {C : Addr} {ks : List Str} {n : String} (I : Isi c.K C) (h : EvP c G ρ ta (.ins C ks ds)) (hc : EvP c G ρ tb (.ty n)) (hk : PySem.W.kitOne c.K (.ref C) (.type n) = some false) : EvP c G ρ (tCB (rIsi c.K) (tCons ta (tCons tb tNil))) (.bl false) := fun F σ H A Q q => h F σ H A _ fun v F1 H1 g1 r1 => hc F1 σ H1 (A.on g1) _ fun w F2 H2 g2 r2 => by
  cases r2
  cases r1 with
  | ins e1 e2 e3 => exact ⟨_, .ty n, _, _, false, rfl, .ty n, .base (.ins (g2.h _ _ (g1.s _ _ e1)) I.cl I.ha I.hn I.ht I.hm), hk, q _ F2 H2 (g1.trans g2) (.bl _)⟩
end Dl

/-! within an except suite: what ends a walk -/
namespace Ho
open PySem PySem.Spec PyProof.Rows HotX
section
variable {prog : Program} {w : World} {A : Around} {E : Value → Shared → Prop} {s : Shared} {x1 : Addr}
theorem hot_keep {h h' : Heap} (hot : HotAt A x1 h) (k : ∀ o, h.get? x1 = some o → h'.get? x1 = some o) : HotAt A x1 h' := by
  obtain ⟨a, o, vs, b, c, d⟩ := hot
  exact ⟨a, o, vs, k o b, c, d⟩
theorem hot_in {h : Heap} (hot : HotAt A x1 h) : HotAt A.in1 x1 h := hot
/-- the walk's end is raised, its context the one that is handled -/
theorem stop_hot {α : Type} {Q : α → Shared → Prop} (hot : HotAt A x1 s.heap) (hE : ∀ h' e, (∀ b o, s.heap.get? b = some o → h'.get? b = some o) → (∃ o, h'.get? e = some o ∧ o.cls = .type "StopIteration") → E (.ref e) { s with heap := h' }) :
    wpAny (model prog w) A (newExc (.type "StopIteration") [] >>= fun e => (raiseNew e : Sem α)) Q E s := by
  obtain ⟨hh, o1, vs1, h1, d1, c1⟩ := hot
  refine wpAny_bind ?_
  simp only [newExc, newTuple]
  refine wpAny_bind (wpAny_newObj_type ?_ (by size_fits))
  refine wpAny_bind (m := firstArgMember _ _) (wpAny_of_eq (a := Value.none) (by first | rfl | (simp only [firstArgMember]; rfl)) ?_)
  refine wpAny_newObj_type ?_ (by size_fits)
  refine raiseNew_hot ⟨hh, o1, vs1, Heap.get?_push_of_some _ (Heap.get?_push_of_some _ h1), d1, c1⟩ (Nat.ne_of_lt (Heap.lt_size (Heap.get?_push_of_some _ h1))) (Heap.get?_push_size _ rfl) rfl (by first | (simp; done) | (simp; omega) | (simp only [Array.size_append]; simp; omega)) ?_
  refine hE _ _ (fun b o e => ?_) ⟨_, Heap.get?_update_self _ (Heap.get?_push_size _ rfl) rfl, rfl⟩
  rw [Heap.get?_update_other _ _ (Nat.ne_of_gt (Heap.lt_size (Heap.get?_push_of_some _ e)))]
  exact Heap.get?_push_of_some _ (Heap.get?_push_of_some _ e)
end
section
variable {prog : Program} {w : World} {A : Around} {E : Value → Shared → Prop} {s : Shared} {x1 it : Addr}
/-- what the code of an iterator's next does at the end -/
theorem list_code {l : Addr} {i : Nat} {items} {Q : PySem.Fin → Shared → Prop} (hot : HotAt A x1 s.heap) (hne : x1 ≠ it) (hit : s.heap.IsListIter it l i) (hl : s.heap.IsList l items) (hx : items[i]? = none)
    (hE : ∀ h' e, Heap.ExtBut it s.heap h' → (∃ o, h'.get? e = some o ∧ o.cls = .type "StopIteration") → E (.ref e) { s with heap := h' }) : wpAny (model prog w) A (Builtin.«list_iterator.__next__» ⟨[.ref it], []⟩) Q E s := by
  obtain ⟨o, ho, hc, hd⟩ := id hit
  obtain ⟨ol, hol, _, _, hdl⟩ := hl
  show wpAny _ _ (field (.ref it) 0 >>= _) _ _ s
  refine wpAny_bind (wpAny_field ho hd (x := .ref l) rfl ?_)
  show wpAny _ _ (if (Value.ref l == Value.none) = true then _ else _) _ _ s
  rw [if_neg (show ¬ ((Value.ref l == Value.none) = true) from Bool.false_ne_true)]
  show wpAny _ _ (field (.ref it) 1 >>= _) _ _ s
  refine wpAny_bind (wpAny_field ho hd (x := .int i 0) rfl ?_)
  show wpAny _ _ (seqItems? (.ref l) >>= _) _ _ s
  refine wpAny_bind (wpAny_seqItems hol hdl ?_)
  simp only [Int.toNat_natCast, hx]
  refine wpAny_bind (wpAny_rule (wpAny_bind (wpAny_setField ho hd (by simp) ?_)))
  refine stop_hot (hot_keep hot fun q e => (Heap.get?_update_other _ _ (Ne.symm hne)).trans e) fun h' e k so => hE h' e (fun b q hb e => ?_) so
  exact k b q ((Heap.get?_update_other _ _ (Ne.symm hb)).trans e)
theorem ascii_code {x : Str} {t : Tok} {i : Nat} {Q : PySem.Fin → Shared → Prop} (hot : HotAt A x1 s.heap) (hne : x1 ≠ it) (hit : s.heap.IsStrIter it "str_ascii_iterator" x t i) (hx : x.cps[i]? = none)
    (hE : ∀ h' e, Heap.ExtBut it s.heap h' → (∃ o, h'.get? e = some o ∧ o.cls = .type "StopIteration") → E (.ref e) { s with heap := h' }) : wpAny (model prog w) A (Builtin.«str_ascii_iterator.__next__» ⟨[.ref it], []⟩) Q E s := by
  obtain ⟨o, ho, hc, hd⟩ := id hit
  show wpAny _ _ (field (.ref it) 0 >>= _) _ _ s
  refine wpAny_bind (wpAny_field ho hd (x := .str x t) rfl ?_)
  show wpAny _ _ (field (.ref it) 1 >>= _) _ _ s
  refine wpAny_bind (wpAny_field ho hd (x := .int i 0) rfl ?_)
  simp only [Int.toNat_natCast, hx]
  refine wpAny_bind (wpAny_rule (wpAny_bind (wpAny_setField ho hd (by simp) (wpAny_bind (wpAny_letGo ?_)))))
  refine stop_hot (hot_keep hot fun q e => (Heap.get?_update_other _ _ (Ne.symm hne)).trans e) fun h' e k so => hE h' e (fun b q hb e => ?_) so
  exact k b q ((Heap.get?_update_other _ _ (Ne.symm hb)).trans e)
theorem wide_code {x : Str} {t : Tok} {i : Nat} {Q : PySem.Fin → Shared → Prop} (hot : HotAt A x1 s.heap) (hne : x1 ≠ it) (hit : s.heap.IsStrIter it "str_iterator" x t i) (hx : x.cps[i]? = none)
    (hE : ∀ h' e, Heap.ExtBut it s.heap h' → (∃ o, h'.get? e = some o ∧ o.cls = .type "StopIteration") → E (.ref e) { s with heap := h' }) : wpAny (model prog w) A (Builtin.«str_iterator.__next__» ⟨[.ref it], []⟩) Q E s := by
  obtain ⟨o, ho, hc, hd⟩ := id hit
  show wpAny _ _ (field (.ref it) 0 >>= _) _ _ s
  refine wpAny_bind (wpAny_field ho hd (x := .str x t) rfl ?_)
  show wpAny _ _ (field (.ref it) 1 >>= _) _ _ s
  refine wpAny_bind (wpAny_field ho hd (x := .int i 0) rfl ?_)
  simp only [Int.toNat_natCast, hx]
  refine wpAny_bind (wpAny_rule (wpAny_bind (wpAny_setField ho hd (by simp) (wpAny_bind (wpAny_letGo ?_)))))
  refine stop_hot (hot_keep hot fun q e => (Heap.get?_update_other _ _ (Ne.symm hne)).trans e) fun h' e k so => hE h' e (fun b q hb e => ?_) so
  exact k b q ((Heap.get?_update_other _ _ (Ne.symm hb)).trans e)
/-! asked for the next, outright and by another iterator -/
theorem list_next {l : Addr} {i : Nat} {items} {Q : Option Value → Shared → Prop} (hot : HotAt A x1 s.heap) (hne : x1 ≠ it) (hit : s.heap.IsListIter it l i) (hl : s.heap.IsList l items) (hx : items[i]? = none)
    (hQ : ∀ h', Heap.ExtBut it s.heap h' → Q none { s with heap := h' }) : wpAny (model prog w) A (pyNext (.ref it)) Q E s := by
  unfold pyNext
  refine wpAny_bind (wpAny_attempt (wpAny_callSpecial?_slot (name := Str.ofString "__next__") hit.typeIs slot_listiter_next (wpAny_call_entry slot_listiter_next hit.typeIs entry_listiter_next (list_code (hot_in hot) hne hit hl hx fun h' e k ⟨o, ho, hc⟩ => ?_) (args_listiter_next _))))
  exact wpAny_bind (wpAny_isInstance (T := "StopIteration") (b := true) ⟨o, ho, hc⟩ isSubtype_stop (wpAny_pure (hQ _ k)))
theorem ascii_next {x : Str} {t : Tok} {i : Nat} {Q : Option Value → Shared → Prop} (hot : HotAt A x1 s.heap) (hne : x1 ≠ it) (hit : s.heap.IsStrIter it "str_ascii_iterator" x t i) (hx : x.cps[i]? = none)
    (hQ : ∀ h', Heap.ExtBut it s.heap h' → Q none { s with heap := h' }) : wpAny (model prog w) A (pyNext (.ref it)) Q E s := by
  unfold pyNext
  refine wpAny_bind (wpAny_attempt (wpAny_callSpecial?_slot (name := Str.ofString "__next__") hit.typeIs F.slot_str_ascii_iterator_next (wpAny_call_entry F.slot_str_ascii_iterator_next hit.typeIs F.entry_str_ascii_iterator_next (ascii_code (hot_in hot) hne hit hx fun h' e k ⟨o, ho, hc⟩ => ?_) (F.args_str_ascii_iterator_next_1 _))))
  exact wpAny_bind (wpAny_isInstance (T := "StopIteration") (b := true) ⟨o, ho, hc⟩ isSubtype_stop (wpAny_pure (hQ _ k)))
theorem wide_next {x : Str} {t : Tok} {i : Nat} {Q : Option Value → Shared → Prop} (hot : HotAt A x1 s.heap) (hne : x1 ≠ it) (hit : s.heap.IsStrIter it "str_iterator" x t i) (hx : x.cps[i]? = none)
    (hQ : ∀ h', Heap.ExtBut it s.heap h' → Q none { s with heap := h' }) : wpAny (model prog w) A (pyNext (.ref it)) Q E s := by
  unfold pyNext
  refine wpAny_bind (wpAny_attempt (wpAny_callSpecial?_slot (name := Str.ofString "__next__") hit.typeIs F.slot_str_iterator_next (wpAny_call_entry F.slot_str_iterator_next hit.typeIs F.entry_str_iterator_next (wide_code (hot_in hot) hne hit hx fun h' e k ⟨o, ho, hc⟩ => ?_) (F.args_str_iterator_next_1 _))))
  exact wpAny_bind (wpAny_isInstance (T := "StopIteration") (b := true) ⟨o, ho, hc⟩ isSubtype_stop (wpAny_pure (hQ _ k)))
theorem list_of {l : Addr} {i : Nat} {items} {Q : Value → Shared → Prop} (hot : HotAt A x1 s.heap) (hne : x1 ≠ it) (hit : s.heap.IsListIter it l i) (hl : s.heap.IsList l items) (hx : items[i]? = none)
    (hE : ∀ h' e, Heap.ExtBut it s.heap h' → (∃ o, h'.get? e = some o ∧ o.cls = .type "StopIteration") → E (.ref e) { s with heap := h' }) : wpAny (model prog w) A (Builtin.SmallTypes.nextOf (.ref it)) Q E s := by
  unfold Builtin.SmallTypes.nextOf
  exact wpAny_bind (wpAny_callSpecial?_slot (name := Str.ofString "__next__") hit.typeIs slot_listiter_next (wpAny_call_entry slot_listiter_next hit.typeIs entry_listiter_next (list_code (hot_in hot) hne hit hl hx hE) (args_listiter_next _)))
theorem ascii_of {x : Str} {t : Tok} {i : Nat} {Q : Value → Shared → Prop} (hot : HotAt A x1 s.heap) (hne : x1 ≠ it) (hit : s.heap.IsStrIter it "str_ascii_iterator" x t i) (hx : x.cps[i]? = none)
    (hE : ∀ h' e, Heap.ExtBut it s.heap h' → (∃ o, h'.get? e = some o ∧ o.cls = .type "StopIteration") → E (.ref e) { s with heap := h' }) : wpAny (model prog w) A (Builtin.SmallTypes.nextOf (.ref it)) Q E s := by
  unfold Builtin.SmallTypes.nextOf
  exact wpAny_bind (wpAny_callSpecial?_slot (name := Str.ofString "__next__") hit.typeIs F.slot_str_ascii_iterator_next (wpAny_call_entry F.slot_str_ascii_iterator_next hit.typeIs F.entry_str_ascii_iterator_next (ascii_code (hot_in hot) hne hit hx hE) (F.args_str_ascii_iterator_next_1 _)))
theorem wide_of {x : Str} {t : Tok} {i : Nat} {Q : Value → Shared → Prop} (hot : HotAt A x1 s.heap) (hne : x1 ≠ it) (hit : s.heap.IsStrIter it "str_iterator" x t i) (hx : x.cps[i]? = none)
    (hE : ∀ h' e, Heap.ExtBut it s.heap h' → (∃ o, h'.get? e = some o ∧ o.cls = .type "StopIteration") → E (.ref e) { s with heap := h' }) : wpAny (model prog w) A (Builtin.SmallTypes.nextOf (.ref it)) Q E s := by
  unfold Builtin.SmallTypes.nextOf
  exact wpAny_bind (wpAny_callSpecial?_slot (name := Str.ofString "__next__") hit.typeIs F.slot_str_iterator_next (wpAny_call_entry F.slot_str_iterator_next hit.typeIs F.entry_str_iterator_next (wide_code (hot_in hot) hne hit hx hE) (F.args_str_iterator_next_1 _)))
/-- enumerate's end, by what it walks -/
theorem enum_next {e : Addr} {i : Int} {old : Value} {Q : Option Value → Shared → Prop} (he : IsEnum s.heap e it i old)
    (D : ∀ {Q' : Value → Shared → Prop} {E' : Value → Shared → Prop}, (∀ h' e, Heap.ExtBut it s.heap h' → (∃ o, h'.get? e = some o ∧ o.cls = .type "StopIteration") → E' (.ref e) { s with heap := h' }) → wpAny (model prog w) A.in1 (Builtin.SmallTypes.nextOf (.ref it)) Q' E' s)
    (hQ : ∀ h', Heap.ExtBut it s.heap h' → Q none { s with heap := h' }) : wpAny (model prog w) A (pyNext (.ref e)) Q E s := by
  have hT : s.TypeIs (.ref e) "enumerate" := ⟨_, he, rfl⟩
  unfold pyNext
  refine wpAny_bind (wpAny_attempt (wpAny_callSpecial?_slot (name := Str.ofString "__next__") hT F.slot_enumerate_next (wpAny_call_entry F.slot_enumerate_next hT F.entry_enumerate_next ?_ (F.args_enumerate_next_1 _))))
  show wpAny _ _ (field (.ref e) 2 >>= _) _ _ _
  refine wpAny_bind (wpAny_field he rfl (x := .ref it) rfl (wpAny_bind (D fun h' q k so => ?_)))
  obtain ⟨o, ho, hc⟩ := so
  exact wpAny_bind (wpAny_isInstance (T := "StopIteration") (b := true) ⟨o, ho, hc⟩ isSubtype_stop (wpAny_pure (hQ _ k)))
end
section
variable {prog : Program} {w : World} {A : Around} {E : Value → Shared → Prop} {s : Shared} {x1 it : Addr} {Kt : Type} [DecidableEq Kt] {knd : KeyKind prog w Kt}
/-- the end of a table's keys -/
theorem keys_next {d : Addr} {i ep : Nat} {kvs : List (Kt × Value)} {Q : Option Value → Shared → Prop} (hot : HotAt A x1 s.heap) (hne : x1 ≠ it) (hit : s.heap.IsKeyIter it d i kvs.length ep) (hm : s.heap.DictAt knd d kvs ep) (hx : kvs[i]? = none)
    (hQ : ∀ h', Heap.ExtBut it s.heap h' → Q none { s with heap := h' }) : wpAny (model prog w) A (pyNext (.ref it)) Q E s := by
  obtain ⟨o, ho, hc, hd⟩ := id hit
  obtain ⟨od, es, hod, _, hdd, _, hp, _⟩ := id hm
  have hsz : es.size = kvs.length := by rw [← hp.length]; simp
  unfold pyNext
  refine wpAny_bind (wpAny_attempt (wpAny_callSpecial?_slot (name := Str.ofString "__next__") hit.typeIs F.slot_dict_keyiterator_next (wpAny_call_entry F.slot_dict_keyiterator_next hit.typeIs F.entry_dict_keyiterator_next ?_ (F.args_dict_keyiterator_next_1 _))))
  refine wpAny_bind (wpAny_pure (wpAny_bind (wpAny_bind ?_)))
  first | refine wpAny_bind (wpAny_typeNameOfWhole_keyiter hit.typeIs (wpAny_pure ?_)) | refine wpAny_bind (wpAny_typeNameOf_keyiter hit.typeIs (wpAny_pure ?_))
  refine wpAny_bind (wpAny_fieldsOf ho hd ?_)
  simp only [show Builtin.Dict_items.ownsTuple "dict_keyiterator" = false by decide, Bool.false_eq_true, if_false]
  show wpAny _ _ (if (Value.ref d == Value.none) = true then _ else _) _ _ s
  rw [if_neg (show ¬ ((Value.ref d == Value.none) = true) from Bool.false_ne_true)]
  refine wpAny_bind (wpAny_pure (wpAny_bind (wpAny_dictEntries hod hdd ?_)))
  rw [if_neg (by rw [hsz]; simp)]
  refine wpAny_bind (wpAny_pure (wpAny_bind (wpAny_dictEpoch hod hdd ?_)))
  rw [if_neg (by simp)]
  refine wpAny_pure ?_
  have hge : es.size ≤ i := by rw [hsz]; simpa using hx
  simp only [show ¬ ((i : Int) < 0) from by omega, if_false, Int.toNat_natCast, Array.getElem?_eq_none hge]
  refine wpAny_bind ?_
  first | refine wpAny_bind (wpAny_typeNameOfWhole_keyiter hit.typeIs (wpAny_pure ?_)) | refine wpAny_bind (wpAny_typeNameOf_keyiter hit.typeIs (wpAny_pure ?_))
  show wpAny _ _ (setField (.ref it) 0 .none >>= _) _ _ s
  refine wpAny_bind (wpAny_setField ho hd (by simp) ?_)
  refine stop_hot (hot_keep (hot_in hot) fun q e => (Heap.get?_update_other _ _ (Ne.symm hne)).trans e) fun h' e k so => ?_
  obtain ⟨oe, he, hce⟩ := so
  exact wpAny_bind (wpAny_isInstance (T := "StopIteration") (b := true) ⟨oe, he, hce⟩ isSubtype_stop (wpAny_pure (hQ _ fun b q hb e => k b q ((Heap.get?_update_other _ _ (Ne.symm hb)).trans e))))
/-- a table's keys walked, what is handled among what is looked at -/
theorem keys_walk (I d : Addr) (hne : d ≠ I) (hx : x1 ≠ I) (kvs : List (Kt × Value)) (ep : Nat) :
    Walks prog w A I [I, d, x1] [I] kvs.length (fun i v => ∃ k x, kvs[i]? = some (k, x) ∧ knd.is k v = true) (fun i h => (h.IsKeyIter I d i kvs.length ep ∧ h.DictAt knd d kvs ep) ∧ HotAt A x1 h) where
  sub := fun b hb => by rw [List.mem_singleton] at hb; subst hb; exact List.mem_cons_self
  frame := fun _ _ _ st hk => ⟨⟨st.1.1.at fun o e => hk I (by simp) o e, st.1.2.at' fun o e => hk d (by simp) o e⟩, hot_keep st.2 fun o e => hk x1 (by simp) o e⟩
  item := fun i s Q E hi st hQ => by
    obtain ⟨⟨k, x⟩, hkx⟩ : ∃ p, kvs[i]? = some p := ⟨kvs[i], by simp [hi]⟩
    refine wpAny_pyNext_dict_item st.1.1 st.1.2 hkx fun key h' hkey hit' hs' => ?_
    exact hQ key h' s.toks ⟨k, x, hkx, hkey⟩ ⟨⟨hit', st.1.2.extBut hs'.extBut hne⟩, hot_keep st.2 fun o e => hs'.extBut x1 o hx e⟩ fun b o hb e => hs'.extBut b o (fun h => hb (by simp [h])) e
  done := fun s Q E st hQ => keys_next st.2 hx st.1.1 st.1.2 (by simp) fun h' he' => hQ h' s.toks fun b o hb e => he' b o (fun h => hb (by simp [h])) e
  self := fun _ _ _ _ st hQ => wpAny_pyIter_keyiter st.1.1 hQ
end
end Ho

/-! within an except suite: what is walked -/
namespace Ho
open PySem PySem.Spec PyProof.Rows HotX L2 L2H
theorem hot_at {X : Cx} {pins : List (Addr × Obj)} {σ : L2.St} {H : Hp} {s : Shared} {fp : List Addr} (hc : HotC X) (I : L2.Inv X pins σ H s) (hf : ∀ b ∈ fp, FpOk X pins H b) : ∃ x1, HotAt X.A x1 s.heap ∧ x1 ∉ fp := by
  obtain ⟨p, ⟨hh, v1, e1, c1⟩, hp⟩ := hc
  refine ⟨p.1, ⟨hh, p.2, v1, (I.pin p (List.mem_append_left _ hp)).1, e1, c1⟩, fun q => ?_⟩
  obtain ⟨_, _, _, _, _, f5⟩ := hf _ q
  exact f5 p (List.mem_append_left _ hp) rfl
theorem turn_listH {P : Program} {w : World} {K : PySem.W.Frag} {tg : Expr} (a it : Addr) : TurnH P w K tg (Itl K a) [it] it (fun i h => h.IsListIter it a i) where
  mem := (turn_list (P := P) (w := w) (K := K) (tg := tg) a it).mem
  obj := (turn_list (P := P) (w := w) (K := K) (tg := tg) a it).obj
  keep := (turn_list (P := P) (w := w) (K := K) (tg := tg) a it).keep
  item := by
    intro X hP hw hK hc i pins s σ H E I hf st hg
    subst hP hw hK
    obtain ⟨xs, x, hq, hx⟩ := hg
    obtain ⟨its, rv, p, hz⟩ := I.list hq
    obtain ⟨u, hu, ru⟩ := rv.get hx
    obtain ⟨f0, f1, f2, f3, f4, f5⟩ := hf it (List.mem_singleton_self _)
    refine wpAny_pyNext_list_item st p.isList (x := u) (by simpa using hu) fun h' st' sb => ?_
    obtain ⟨o, e, c, d⟩ := id st'
    refine ⟨u, rfl, go_of (s := { s with heap := h' }) e c d (by decide) ⟨x, H, I.turned (t' := s.toks) (fun b o hb e => (sb.2 b hb).trans e) f0 f1 f3 f4 f5, ru, ⟨rfl, fun ys hy => ?_⟩, st', fun b hb => (hf b hb).1⟩⟩
    rw [I.list_inj hy hq]
    exact hx
  done := by
    intro X hP hw hK hc i pins s σ H E I hf st hg
    subst hP hw hK
    obtain ⟨xs, hq, hx⟩ := hg
    obtain ⟨its, rv, p, hz⟩ := I.list hq
    obtain ⟨f0, f1, f2, f3, f4, f5⟩ := hf it (List.mem_singleton_self _)
    obtain ⟨x1, hot, hne⟩ := hot_at hc I hf
    have hl := rv.length
    exact list_next hot (fun e => hne (by rw [e]; exact List.mem_singleton_self _)) st p.isList (by simp; omega) fun h' eb => ⟨rfl, I.turned (t' := s.toks) (fun b o hb e => eb b o hb e) f0 f1 f3 f4 f5⟩
  self := (turn_list (P := P) (w := w) (K := K) (tg := tg) a it).self
theorem turn_strH {P : Program} {w : World} {K : PySem.W.Frag} {tg : Expr} (it : Addr) (x : Str) (t : Tok) (ty : String) (hty : ty = "str_ascii_iterator" ∨ ty = "str_iterator") : TurnH P w K tg (Its x) [it] it (fun i h => h.IsStrIter it ty x t i) where
  mem := (turn_str (P := P) (w := w) (K := K) (tg := tg) it x t ty hty).mem
  obj := (turn_str (P := P) (w := w) (K := K) (tg := tg) it x t ty hty).obj
  keep := (turn_str (P := P) (w := w) (K := K) (tg := tg) it x t ty hty).keep
  item := by
    intro X hP hw hK hc i pins s σ H E I hf st hg
    subst hP hw hK
    obtain ⟨f0, f1, f2, f3, f4, f5⟩ := hf it (List.mem_singleton_self _)
    obtain ⟨c, hcx⟩ : ∃ c, x.cps[i]? = some c := ⟨_, Array.getElem?_eq_getElem hg⟩
    have fin : ∀ h', h'.IsStrIter it ty x t (i + 1) → Heap.SameBut it s.heap h' → ∃ u, some (Value.str ⟨#[c]⟩ s.toks) = some u ∧ wpAny (model X.prog X.w) X.A (letOwnedTupleGo tg (.ref it) u) (fun _ s2 => ∃ x_1 H', L2.Inv X pins σ H' s2 ∧ RelV x_1 u ∧ (Its x).yld i H x_1 H' ∧ s2.heap.IsStrIter it ty x t (i + 1) ∧ ∀ b ∈ [it], H' b = none) E { s with heap := h', toks := s.toks + 1 } := fun h' st' sb => by
      obtain ⟨oi, e, cc, dd⟩ := id st'
      exact ⟨_, rfl, go_of (s := { s with heap := h', toks := s.toks + 1 }) e cc dd (by rcases hty with e | e <;> rw [e] <;> decide) ⟨.str ⟨#[c]⟩, H, I.turned (fun b o hb e => (sb.2 b hb).trans e) f0 f1 f3 f4 f5, ⟨_, rfl⟩, ⟨rfl, c, hcx, rfl⟩, st', fun b hb => (hf b hb).1⟩⟩
    rcases hty with e | e
    · subst e
      exact wpAny_pyNext_ascii_item st hcx fin
    · subst e
      exact wpAny_pyNext_wide_item st hcx fin
  done := by
    intro X hP hw hK hc i pins s σ H E I hf st hg
    subst hP hw hK
    obtain ⟨f0, f1, f2, f3, f4, f5⟩ := hf it (List.mem_singleton_self _)
    obtain ⟨x1, hot, hne⟩ := hot_at hc I hf
    have hne : x1 ≠ it := fun e => hne (by rw [e]; exact List.mem_singleton_self _)
    have hx : x.cps[i]? = none := Array.getElem?_eq_none hg
    rcases hty with e | e
    · rw [e] at st
      exact ascii_next hot hne st hx fun h' eb => ⟨rfl, I.turned (t' := s.toks) (fun b o hb e => eb b o hb e) f0 f1 f3 f4 f5⟩
    · rw [e] at st
      exact wide_next hot hne st hx fun h' eb => ⟨rfl, I.turned (t' := s.toks) (fun b o hb e => eb b o hb e) f0 f1 f3 f4 f5⟩
  self := (turn_str (P := P) (w := w) (K := K) (tg := tg) it x t ty hty).self
theorem drawsH {prog : Program} {w : World} {A : Around} (x1 it : Addr) (hne : x1 ≠ it) (x : Str) (t : Tok) :
    Draws prog w A it [it, x1] x.cps.size (fun i v => ∃ c u, x.cps[i]? = some c ∧ v = .str ⟨#[c]⟩ u) (fun i h => h.IsStrIter it (strIterType x) x t i ∧ HotAt A x1 h) where
  live := fun _ _ st => let ⟨⟨o, ho, _⟩, _⟩ := st; ⟨o, ho⟩
  frame := fun _ _ _ st hk => ⟨let ⟨⟨o, ho, r⟩, _⟩ := st; ⟨o, hk it (by simp) o ho, r⟩, hot_keep st.2 fun o e => hk x1 (by simp) o e⟩
  item := fun i s Q E hi st hQ => by
    have hcx : x.cps[i]? = some x.cps[i] := Array.getElem?_eq_getElem hi
    cases ha : x.cps.all (· < 128)
    · have e : strIterType x = "str_iterator" := by simp [strIterType, ha]
      rw [e] at st hQ
      exact wpAny_nextOf_wide_item st.1 hcx fun h' hit' hs' => hQ _ h' (s.toks + 1) ⟨_, _, hcx, rfl⟩ ⟨hit', hot_keep st.2 fun o e => (hs'.2 x1 hne).trans e⟩ hs'
    · have e : strIterType x = "str_ascii_iterator" := by simp [strIterType, ha]
      rw [e] at st hQ
      exact wpAny_nextOf_ascii_item st.1 hcx fun h' hit' hs' => hQ _ h' (s.toks + 1) ⟨_, _, hcx, rfl⟩ ⟨hit', hot_keep st.2 fun o e => (hs'.2 x1 hne).trans e⟩ hs'
  done := fun s Q E st hE => by
    have hx : x.cps[x.cps.size]? = none := Array.getElem?_eq_none (Nat.le_refl _)
    cases ha : x.cps.all (· < 128)
    · have e : strIterType x = "str_iterator" := by simp [strIterType, ha]
      rw [e] at st
      exact wide_of st.2 hne st.1 hx hE
    · have e : strIterType x = "str_ascii_iterator" := by simp [strIterType, ha]
      rw [e] at st
      exact ascii_of st.2 hne st.1 hx hE
theorem turn_enumH {P : Program} {w : World} {K : PySem.W.Frag} {elts : List Expr} {kk : Nat} {tpos : Pos} (a e it : Addr) :
    TurnH P w K (.Tuple elts kk tpos) (Ite K a) [e, it] e (fun i h => (∃ old, IsEnum h e it ((i : Nat) : Int) old) ∧ h.IsListIter it a i ∧ e ≠ it) where
  mem := (turn_enum (P := P) (w := w) (K := K) (elts := elts) (kk := kk) (tpos := tpos) a e it).mem
  obj := (turn_enum (P := P) (w := w) (K := K) (elts := elts) (kk := kk) (tpos := tpos) a e it).obj
  keep := (turn_enum (P := P) (w := w) (K := K) (elts := elts) (kk := kk) (tpos := tpos) a e it).keep
  item := by
    intro X hP hw hK hc i pins s σ H E I hf st hg
    subst hP hw hK
    obtain ⟨⟨old, he⟩, hit, hne⟩ := st
    obtain ⟨xs, x, hq, hx⟩ := hg
    obtain ⟨its, rv, p, hz⟩ := I.list hq
    obtain ⟨u, hu, ru⟩ := rv.get hx
    have hel : e < s.heap.objs.size := Heap.lt_size he
    have hil : it < s.heap.objs.size := by obtain ⟨_, q, _⟩ := hit; exact Heap.lt_size q
    have two : ∀ b ∈ [e, it], b < s.heap.objs.size := fun b hb => by
      rcases List.mem_cons.mp hb with z | z
      · rw [z]; exact hel
      · rw [List.mem_singleton.mp z]; exact hil
    refine wpAny_pyNext_enum_item he hit p.isList (x := u) (by simpa using hu) hne fun h' ho hit' hT hsz hk => ?_
    refine ⟨_, rfl, wpAny_letOwnedTupleGo_enum (s := { s with heap := h', toks := s.toks + 1 }) ho fun h'' he' sb => ?_⟩
    have hT2 : h''.get? s.heap.objs.size = some { cls := .type "tuple", data := .seq #[.int i s.toks, u] } := (sb.2 _ (Nat.ne_of_gt hel)).trans hT
    have new : ObjOk X.prog X.w (upd H s.heap.objs.size (.tup [.int (i : Nat), x])) h'' s.heap.objs.size (.tup [.int (i : Nat), x]) :=
      ⟨by show 2 ≤ sizeLine; decide, [.int i s.toks, u], .cons ⟨_, rfl⟩ (.cons ru .nil), ⟨_, hT2, rfl, _, rfl⟩⟩
    refine ⟨.ref s.heap.objs.size, _, I.turnedNew (t' := s.toks + 1) (ch := [e, it]) (fun b ob hb q => (sb.2 b (fun z => hb (by simp [z]))).trans (hk b ob (fun z => hb (by simp [z])) (fun z => hb (by simp [z])) q)) hf (Nat.le_refl _) new, rfl, ⟨_, x, rfl, I.hok.fresh (Nat.le_refl _), rfl, fun ys hy => by rw [I.list_inj hy hq]; exact hx⟩, ⟨⟨u, ?_⟩, hit'.at fun o q => (sb.2 it (Ne.symm hne)).trans q, hne⟩, fun b hb => ?_⟩
    · rw [show ((i + 1 : Nat) : Int) = (i : Int) + 1 by omega]
      exact he'
    · rw [upd_ne (Nat.ne_of_lt (two b hb))]
      exact (hf b hb).1
  done := by
    intro X hP hw hK hc i pins s σ H E I hf st hg
    subst hP hw hK
    obtain ⟨⟨old, he⟩, hit, hne⟩ := st
    obtain ⟨xs, hq, hx⟩ := hg
    obtain ⟨its, rv, p, hz⟩ := I.list hq
    obtain ⟨f0, f1, f2, f3, f4, f5⟩ := hf it (by simp)
    obtain ⟨x1, hot, hnf⟩ := hot_at hc I hf
    have hl := rv.length
    exact enum_next he (fun hE => list_of (hot_in hot) (fun e => hnf (by simp [e])) hit p.isList (by simp; omega) hE) fun h' eb => ⟨rfl, I.turned (t' := s.toks) (fun b o hb q => eb b o hb q) f0 f1 f3 f4 f5⟩
  self := (turn_enum (P := P) (w := w) (K := K) (elts := elts) (kk := kk) (tpos := tpos) a e it).self
theorem turn_enumSH {P : Program} {w : World} {K : PySem.W.Frag} {elts : List Expr} {kk : Nat} {tpos : Pos} (x : Str) (t : Tok) (e it : Addr) :
    TurnH P w K (.Tuple elts kk tpos) (Xb.IteS x) [e, it] e (fun i h => (∃ old, IsEnum h e it ((i : Nat) : Int) old) ∧ h.IsStrIter it (strIterType x) x t i ∧ e ≠ it ∧ i ≤ x.cps.size) where
  mem := (Xb.turn_enumS (P := P) (w := w) (K := K) (elts := elts) (kk := kk) (tpos := tpos) x t e it).mem
  obj := (Xb.turn_enumS (P := P) (w := w) (K := K) (elts := elts) (kk := kk) (tpos := tpos) x t e it).obj
  keep := (Xb.turn_enumS (P := P) (w := w) (K := K) (elts := elts) (kk := kk) (tpos := tpos) x t e it).keep
  item := by
    intro X hP hw hK hc i pins s σ H E I hf st hg
    subst hP hw hK
    obtain ⟨⟨old, he⟩, hit, hne, hle⟩ := st
    have hel : e < s.heap.objs.size := Heap.lt_size he
    have hil : it < s.heap.objs.size := by obtain ⟨_, q, _⟩ := hit; exact Heap.lt_size q
    have two : ∀ b ∈ [e, it], b < s.heap.objs.size := fun b hb => by
      rcases List.mem_cons.mp hb with z | z
      · rw [z]; exact hel
      · rw [List.mem_singleton.mp z]; exact hil
    obtain ⟨x1, hot, hnf⟩ := hot_at hc I hf
    refine wpAny_pyNext_enum_itemD (drawsH x1 it (fun z => hnf (by simp [z])) x t) he ⟨hit, hot_in hot⟩ hg hne (fun z => ?_) fun v h' tk hv ho hit' hT hsz hk => ?_
    · rcases List.mem_cons.mp z with z | z
      · exact hne z
      · exact hnf (by rw [← List.mem_singleton.mp z]; exact List.mem_cons_self)
    obtain ⟨c, u, hcx, rfl⟩ := hv
    refine ⟨_, rfl, wpAny_letOwnedTupleGo_enum (s := { s with heap := h', toks := tk + 1 }) ho fun h'' he' sb => ?_⟩
    have hT2 : h''.get? s.heap.objs.size = some { cls := .type "tuple", data := .seq #[.int i tk, .str ⟨#[c]⟩ u] } := (sb.2 _ (Nat.ne_of_gt hel)).trans hT
    have new : ObjOk X.prog X.w (upd H s.heap.objs.size (.tup [.int (i : Nat), .str ⟨#[c]⟩])) h'' s.heap.objs.size (.tup [.int (i : Nat), .str ⟨#[c]⟩]) :=
      ⟨by show 2 ≤ sizeLine; decide, [.int i tk, .str ⟨#[c]⟩ u], .cons ⟨_, rfl⟩ (.cons ⟨_, rfl⟩ .nil), ⟨_, hT2, rfl, _, rfl⟩⟩
    refine ⟨.ref s.heap.objs.size, _, I.turnedNew (t' := tk + 1) (ch := [e, it]) (fun b ob hb q => (sb.2 b (fun z => hb (by simp [z]))).trans (hk b ob (fun z => hb (by simp [z])) (fun z => hb (by simp [z])) q)) hf (Nat.le_refl _) new, rfl, ⟨_, c, rfl, I.hok.fresh (Nat.le_refl _), rfl, hcx⟩, ⟨⟨.str ⟨#[c]⟩ u, ?_⟩, ?_, hne, hg⟩, fun b hb => ?_⟩
    · rw [show ((i + 1 : Nat) : Int) = (i : Int) + 1 by omega]
      exact he'
    · obtain ⟨⟨o, q, r⟩, _⟩ := hit'
      exact ⟨o, (sb.2 it (Ne.symm hne)).trans q, r⟩
    · rw [upd_ne (Nat.ne_of_lt (two b hb))]
      exact (hf b hb).1
  done := by
    intro X hP hw hK hc i pins s σ H E I hf st hg
    subst hP hw hK
    obtain ⟨⟨old, he⟩, hit, hne, hle⟩ := st
    obtain ⟨f0, f1, f2, f3, f4, f5⟩ := hf it (by simp)
    obtain ⟨x1, hot, hnf⟩ := hot_at hc I hf
    have hi : i = x.cps.size := Nat.le_antisymm hle hg
    subst hi
    exact enum_next he (fun hE => (drawsH x1 it (fun z => hnf (by simp [z])) x t).done s _ _ ⟨hit, hot_in hot⟩ hE) fun h' eb => ⟨rfl, I.turned (t' := s.toks) (fun b o hb q => eb b o hb q) f0 f1 f3 f4 f5⟩
  self := (Xb.turn_enumS (P := P) (w := w) (K := K) (elts := elts) (kk := kk) (tpos := tpos) x t e it).self
end Ho

/-! within an except suite: expressions, calls, tables' keys -/
namespace Ho
open PySem PySem.Spec PyProof.Rows HotX L2 L2H
section
variable {X : Cx} {tg : Expr}
theorem one_H {pins : List (Addr × Obj)} {σ : L2.St} {H : Hp} {s : Shared} {R : It → Hp → Prop} {J : It} {tn : Nat → Heap → Prop} {tk : Nat} (I : L2.Inv X pins σ H s) (o : Obj) (T : TurnH X.prog X.w X.K tg J [s.heap.objs.size] s.heap.objs.size tn) (st : tn 0 (s.heap.push o)) (q : R J H) :
    PIEH X pins σ tg R (.ref s.heap.objs.size) { s with heap := s.heap.push o, toks := tk } := by
  refine ⟨s.heap.objs.size, [s.heap.objs.size], tn, J, H, rfl, I.kept fun b ob e => Heap.get?_push_of_some _ e, T, st, fun b hb => ?_, q⟩
  rw [List.mem_singleton.mp hb]
  exact I.fpOk (Nat.le_refl _) (I.hok.fresh (Nat.le_refl _))
theorem pi_listH {l : Expr} {tl : TE} (hl : PE X l tl) : PIH X tg l (iList X.K tl) := by
  constructor
  intro pins s σ H R I h
  refine thn (hl.run pins s σ H _ I h) fun v s1 ⟨x, H1, I1, r1, a, e, ⟨xs, hq⟩, q⟩ => ?_
  subst e
  cases r1
  obtain ⟨its, rv, p, hz⟩ := I1.list hq
  exact wpAny_pyIter_list p.isList (one_H (tk := s1.toks) I1 _ (turn_listH a _) ⟨_, Heap.get?_push_size _ rfl, rfl, rfl⟩ q)
theorem pi_strH {e : Expr} {te : TE} (he : PE X e te) : PIH X tg e (iStr te) := by
  constructor
  intro pins s σ H R I h
  refine thn (he.run pins s σ H _ I h) fun v s1 ⟨y, H1, I1, r1, x, ex, q⟩ => ?_
  subst ex
  obtain ⟨t, rfl⟩ := r1
  cases ha : x.cps.all (· < 128) with
  | false => exact wpAny_pyIter_wide ha (one_H (tk := s1.toks) I1 _ (turn_strH _ x t "str_iterator" (.inr rfl)) ⟨_, Heap.get?_push_size _ rfl, rfl, rfl⟩ q)
  | true => exact wpAny_pyIter_ascii ha (one_H (tk := s1.toks) I1 _ (turn_strH _ x t "str_ascii_iterator" (.inl rfl)) ⟨_, Heap.get?_push_size _ rfl, rfl, rfl⟩ q)
theorem two_new {pins : List (Addr × Obj)} {σ : L2.St} {H : Hp} {s : Shared} (I : L2.Inv X pins σ H s) : ∀ b ∈ [s.heap.objs.size + 1, s.heap.objs.size], FpOk X pins H b := fun b hb => by
  have hle : s.heap.objs.size ≤ b := by
    rcases List.mem_cons.mp hb with z | z
    · rw [z]; exact Nat.le_add_right _ _
    · rw [List.mem_singleton.mp z]; exact Nat.le_refl _
  exact I.fpOk hle (I.hok.fresh hle)
theorem pi_enumH {e : Expr} {ta : TA} {p pos tpos : Pos} {elts : List Expr} {kk : Nat} (hg : Gl X "enumerate") (hm : X.mg "enumerate" = none) (ha : PA X [e] ta) (hs : starEach [e] X.env = [(false, eval e X.env)] := by rfl) :
    PIH X (.Tuple elts kk tpos) (.Call (.Name "enumerate" p) [e] [] pos) (iEnum X.K ta) := by
  constructor
  intro pins s σ H R I h
  refine Call_ (ld_blt I hg hm boot_enumerate (PyProof.Rows.callWith_type1 (thn (ha.run pos pins s σ H _ I h) fun us s1 ⟨vs, H1, I1, r1, a, xs, ex, hq, q⟩ => ?_) hs rfl))
  subst ex
  cases r1 with
  | cons r rr =>
    cases rr
    cases r
    obtain ⟨its, rv, p', hz⟩ := I1.list hq
    exact call_enumerate_list p'.isList fun h' he hit hsz hk => wpAny_pyIter_enum he ⟨s1.heap.objs.size + 1, [s1.heap.objs.size + 1, s1.heap.objs.size], _, _, H1, rfl, I1.kept (t' := s1.toks) hk, turn_enumH a (s1.heap.objs.size + 1) s1.heap.objs.size, ⟨⟨.none, he⟩, hit, Nat.succ_ne_self _⟩, two_new I1, q⟩
theorem pi_enumSH {e : Expr} {ta : TA} {p pos tpos : Pos} {elts : List Expr} {kk : Nat} (hg : Gl X "enumerate") (hm : X.mg "enumerate" = none) (ha : PA X [e] ta) (hs : starEach [e] X.env = [(false, eval e X.env)] := by rfl) :
    PIH X (.Tuple elts kk tpos) (.Call (.Name "enumerate" p) [e] [] pos) (Xb.iEnumS ta) := by
  constructor
  intro pins s σ H R I h
  refine Call_ (ld_blt I hg hm boot_enumerate (PyProof.Rows.callWith_type1 (thn (ha.run pos pins s σ H _ I h) fun us s1 ⟨vs, H1, I1, r1, x, ex, q⟩ => ?_) hs rfl))
  subst ex
  cases r1 with
  | cons r rr =>
    cases rr
    obtain ⟨t, rfl⟩ := r
    exact call_enumerate_str fun h' he hit hsz hk => wpAny_pyIter_enum he ⟨s1.heap.objs.size + 1, [s1.heap.objs.size + 1, s1.heap.objs.size], _, _, H1, rfl, I1.kept (t' := s1.toks) hk, turn_enumSH x t (s1.heap.objs.size + 1) s1.heap.objs.size, ⟨⟨.none, he⟩, hit, Nat.succ_ne_self _, Nat.zero_le _⟩, two_new I1, q⟩
end
/-! a table's keys in a new list -/
section
variable {prog : Program} {w : World} {A : Around} {E : Value → Shared → Prop} {s : Shared} {x1 d : Addr} {Kt : Type} [DecidableEq Kt] {knd : KeyKind prog w Kt} {kvs : List (Kt × Value)} {ep : Nat}
abbrev KeyAt (knd : KeyKind prog w Kt) (kvs : List (Kt × Value)) : Nat → Value → Prop := fun i v => ∃ k x, kvs[i]? = some (k, x) ∧ knd.is k v = true
theorem keys_extend {R : Result → Shared → Prop} (lo : (d == sysModules) = false) (hot : HotAt A x1 s.heap) (hm : s.heap.DictAt knd d kvs ep) (S : Addr) (hSd : S ≠ d) (hSx : S ≠ x1) (res : Value) (c₀ : Nat) (hS : s.heap.get? S = some { cls := .type "list", data := .seq #[] c₀ })
    (hR : ∀ h' tk acc' c', (∀ b o, b ≠ S → s.heap.get? b = some o → h'.get? b = some o) → h'.get? S = some { cls := .type "list", dict := none, data := .seq acc' c', slots := #[] } → ItemsOf (KeyAt knd kvs) acc' kvs.length → R (.ok (.ret res)) { s with heap := h', toks := tk }) (hn : kvs.length ≤ sizeLine) :
    wpAny (model prog w) A.in1 (Builtin.List.listExtendWith (.ref S) (.ref d) res)
      (fun fin s' => match fin with | .done f => R (.ok f) s' | .again c' => c'.quiet = true ∧ codeAny (model prog w) A c' R s') (fun e s' => R (.error e) s') s := by
  have hdl := hm.lt_size
  have hxl : x1 < s.heap.objs.size := by obtain ⟨_, o, _, e, _⟩ := hot; exact Heap.lt_size e
  have hSI : S ≠ s.heap.objs.size := Nat.ne_of_lt (Heap.lt_size hS)
  have hSf : S ∉ [s.heap.objs.size, d, x1] := by simp [hSI, hSd, hSx]
  have W := keys_walk (prog := prog) (w := w) (A := A.in1) (knd := knd) s.heap.objs.size d (Nat.ne_of_lt hdl) (Nat.ne_of_lt hxl) kvs ep
  have key : ∀ (h : Heap) (c₁ tk : Nat), ((h.IsKeyIter s.heap.objs.size d 0 kvs.length ep ∧ h.DictAt knd d kvs ep) ∧ HotAt A.in1 x1 h) → (∀ b o, b ≠ S → s.heap.get? b = some o → h.get? b = some o) →
      h.get? S = some { cls := .type "list", data := .seq #[] c₁ } → codeAny (model prog w) A (.builtin "list.extend.loop" ⟨[.ref S, .ref s.heap.objs.size, res], []⟩) R { s with heap := h, toks := tk } := by
    intro h c₁ tk hst hk hS₁
    refine codeAny_extend_loopS W.toS hn S hSf res kvs.length 0 _ #[] c₁ rfl (Nat.zero_le _) hst hS₁ (ItemsOf.nil _) fun s' acc' c' hmv hS' hacc => ?_
    rw [Moved.eq_with hmv]
    refine hR s'.heap s'.toks acc' c' (fun b o hb e => hmv.heap b o (fun hmem => ?_) (hk b o hb e)) hS' hacc
    rcases List.mem_cons.mp hmem with e' | hmem
    · exact hb e'
    · exact absurd (Heap.lt_size e) (by rw [List.mem_singleton.mp hmem]; exact Nat.lt_irrefl _)
  have hit : ∀ (h : Heap), (∀ o, s.heap.get? d = some o → h.get? d = some o) → (∀ o, s.heap.get? x1 = some o → h.get? x1 = some o) → h.get? s.heap.objs.size = some { cls := .type "dict_keyiterator", data := .fields #[.ref d, .int 0 0, .int kvs.length 0, .int ep 0] } → ((h.IsKeyIter s.heap.objs.size d 0 kvs.length ep ∧ h.DictAt knd d kvs ep) ∧ HotAt A.in1 x1 h) :=
    fun h k1 k2 k3 => ⟨⟨⟨_, k3, rfl, rfl⟩, hm.at' k1⟩, hot_keep (hot_in hot) k2⟩
  unfold Builtin.List.listExtendWith
  refine wpAny_bind (wpAny_typeOf (T := "dict") hm.dictOf.typeIs ?_)
  have h1 : Builtin.List.listSameRef (.ref S) (.ref d) = false := by simp [Builtin.List.listSameRef, hSd]
  simp only [h1, show (Value.type "dict" == Value.type "list") = false by decide, show (Value.type "dict" == Value.type "tuple") = false by decide, Bool.or_false, Bool.false_eq_true, if_false]
  refine wpAny_bind (wpAny_pyIter_dict lo hm ?_)
  have hS₁ := Heap.get?_push_of_some ({ cls := .type "dict_keyiterator", data := .fields #[.ref d, .int 0 0, .int kvs.length 0, .int ep 0] } : Obj) hS
  have it₁ : (s.heap.push { cls := .type "dict_keyiterator", data := .fields #[.ref d, .int 0 0, .int kvs.length 0, .int ep 0] }).get? s.heap.objs.size = some { cls := .type "dict_keyiterator", data := .fields #[.ref d, .int 0 0, .int kvs.length 0, .int ep 0] } := Heap.get?_push_size _ rfl
  refine wpAny_bind (wpAny_holding (PySem.W.kdl_hint_dict (hm.push _).dictOf.typeIs ?_))
  refine wpAny_ite_split (fun _ => ?_) (fun _ => wpAny_pure ⟨plainId_quiet PySem.F.plain_extend_loop _, key _ c₀ _ (hit _ (fun o e => Heap.get?_push_of_some _ e) (fun o e => Heap.get?_push_of_some _ e) it₁) (fun b o _ e => Heap.get?_push_of_some _ e) hS₁⟩)
  refine wpAny_bind (wpAny_rule ?_)
  refine wpAny_bind ?_
  show wpAny _ _ (updateSeq S (·.push .none) >>= fun _ => updateSeq S (·.pop)) _ _ _
  refine wpAny_bind (wpAny_updateSeq hS₁ rfl ?_)
  have hS₂ := Heap.get?_update_self (Obj.mapSeq (·.push Value.none)) hS₁ rfl
  refine wpAny_updateSeq (hz := by seq_fits) hS₂ rfl ?_
  have hS₃ := Heap.get?_update_self (Obj.mapSeq (·.pop)) hS₂ rfl
  have two : ∀ b o, b ≠ S → (s.heap.push { cls := .type "dict_keyiterator", data := .fields #[.ref d, .int 0 0, .int kvs.length 0, .int ep 0] }).get? b = some o → _ := fun b o hb e => (Heap.get?_update_other _ (Obj.mapSeq (·.pop)) (Ne.symm hb)).trans ((Heap.get?_update_other _ (Obj.mapSeq (·.push Value.none)) (Ne.symm hb)).trans e)
  exact wpAny_pure ⟨plainId_quiet PySem.F.plain_extend_loop _, key _ _ _ (hit _ (fun o e => two d o (Ne.symm hSd) (Heap.get?_push_of_some _ e)) (fun o e => two x1 o (Ne.symm hSx) (Heap.get?_push_of_some _ e)) (two _ _ (Ne.symm hSI) it₁)) (fun b o hb e => two b o hb (Heap.get?_push_of_some _ e)) hS₃⟩
theorem keys_call {Q : Value → Shared → Prop} (lo : (d == sysModules) = false) (hot : HotAt A x1 s.heap) (hm : s.heap.DictAt knd d kvs ep) (hn : kvs.length ≤ sizeLine)
    (hQ : ∀ h' tk acc' c', (∀ b o, s.heap.get? b = some o → h'.get? b = some o) → h'.get? s.heap.objs.size = some { cls := .type "list", dict := none, data := .seq acc' c', slots := #[] } → ItemsOf (KeyAt knd kvs) acc' kvs.length → Q (.ref s.heap.objs.size) { s with heap := h', toks := tk }) :
    wpAny (model prog w) A (call (.type "list") [.ref d]) Q E s := by
  refine callType_codes (Q₁ := fun obj s₁ => obj = .ref s.heap.objs.size ∧ s₁ = { s with heap := s.heap.push { cls := .type "list", data := .seq #[] } }) PySem.F.called_list (PySem.F.typeCall_list_1 _) PySem.F.entry_list_init
    (code_list_new _ ⟨rfl, rfl⟩) fun obj s₁ h₁ => ?_
  obtain ⟨rfl, rfl⟩ := h₁
  have hdl := hm.lt_size
  have hxl : x1 < s.heap.objs.size := by obtain ⟨_, o, _, e, _⟩ := hot; exact Heap.lt_size e
  have hS : (s.heap.push { cls := .type "list", data := .seq #[] }).get? s.heap.objs.size = some { cls := .type "list", data := .seq #[] } := Heap.get?_push_size _ rfl
  refine ⟨⟨_, hS, rfl⟩, PySem.F.args_list_init_2 _ _, ?_⟩
  show wpAny _ _ (do let old ← Builtin.List.listItems (.ref s.heap.objs.size); Builtin.List.listUpdate (.ref s.heap.objs.size) (fun _ => #[]); letGo old.toList.reverse; Builtin.List.listExtendWith (.ref s.heap.objs.size) (.ref d) .none) _ _ _
  refine wpAny_bind ?_
  unfold Builtin.List.listItems
  refine wpAny_bind (wpAny_seqItems hS rfl (wpAny_pure ?_))
  show wpAny _ _ (updateSeq s.heap.objs.size (fun _ => #[]) >>= fun _ => letGo (#[] : Array Value).toList.reverse >>= fun _ => Builtin.List.listExtendWith (.ref s.heap.objs.size) (.ref d) .none) _ _ _
  refine wpAny_bind (wpAny_updateSeq hS rfl ?_)
  have hS₂ := Heap.get?_update_self (Obj.mapSeq (fun _ => (#[] : Array Value))) hS rfl
  have oth : ∀ b o, s.heap.get? b = some o → ((s.heap.push { cls := .type "list", data := .seq #[] }).update s.heap.objs.size (Obj.mapSeq (fun _ => (#[] : Array Value)))).get? b = some o :=
    fun b o e => (Heap.get?_update_other _ _ (Nat.ne_of_gt (Heap.lt_size e))).trans (Heap.get?_push_of_some _ e)
  refine wpAny_bind (wpAny_letGo ?_)
  refine keys_extend (knd := knd) (ep := ep) lo ?_ ?_ _ (Nat.ne_of_gt hdl) (Nat.ne_of_gt hxl) .none _ hS₂ (fun h' tk acc' c' hk hS' hacc => ?_) hn
  · exact hot_keep hot fun o e => oth x1 o e
  · exact hm.at' fun o e => oth d o e
  · exact ⟨rfl, hQ h' tk acc' c' (fun b o e => hk b o (Nat.ne_of_lt (Heap.lt_size e)) (oth b o e)) hS' hacc⟩
end
section
variable {X : Cx}
theorem call_listDH (hc : HotC X) : CallR X (.type "list") (fun xs H Q => ∃ (a : Addr) (kvs : List (L2.Key × V)), xs = [.ref a] ∧ Rd H a (.dK kvs) ∧ ∀ p, H p = none → Q (.ref p) (upd H p (.lst (kvs.map fun kv => kV kv.1)))) := by
  intro pins s σ H xs us Q I r q
  obtain ⟨a, kvs, rfl, hd, q⟩ := q
  obtain ⟨u, rfl, rx⟩ := vals1 r
  cases rx
  obtain ⟨z, lo, vs, rel, dd⟩ := dk_rd I.hok hd
  obtain ⟨ep, hat⟩ := dd.dictAt
  obtain ⟨x1, hot⟩ := hc.at I
  have ek : (kvs.map fun kv => kV kv.1) = vs.map fun p => kV p.1 := by
    have e := congrArg (List.map kV) rel.keys
    rw [List.map_map, List.map_map] at e
    exact e
  refine keys_call (knd := mixKind X.prog X.w) (kvs := vs) (ep := ep) lo hot hat (by rw [← rel.length]; exact z) fun h' tk acc c' hk hD hacc => ?_
  have hv : Vals (vs.map fun p => kV p.1) acc.toList := keys_at (by rw [Array.length_toList]; exact hacc.1) fun j v e => hacc.2 j v (by rw [← Array.getElem?_toList]; exact e)
  exact ⟨.ref s.heap.objs.size, upd H s.heap.objs.size (.lst (kvs.map fun kv => kV kv.1)), I.laid (t' := tk) hk (Nat.le_refl _) (show ObjOk X.prog X.w _ _ _ (.lst (kvs.map fun kv => kV kv.1)) from ⟨by rw [List.length_map]; exact z, acc.toList, c', by rw [ek]; exact hv, by rw [Array.toArray_toList]; exact hD⟩), rfl, q _ (I.hok.fresh (Nat.le_refl _))⟩
end
/-! calls of defs that hold there -/
section
variable {X : Cx} {CX : CXT} {k : Nat} {f C : Addr} {fd : FuncData} {ps : List Str} {sp : Sp} {E : XK} {x m : Str} {q pos apos : Pos} {e o : Expr} {es : List Expr} {ta : TE} {t : TA}
theorem pe_callQ (Fn : FnH X.prog X.w X.K X.mg X.base CX k f fd ps sp) (hr : RoomH k X.A) (hc : HotC X) (hg : Gl X x) (hm : X.mg x = some (.ref f)) (hk : PySem.W.keepIn X.K (.ref f) = true) (hb : Binds X.K fd ps []) (hx : Passes CX X E)
    (ha : PA X (e :: es) t) (hdb : (x == ("__debug__" : Str)) = false := by decide) (he : starEach (e :: es) X.env = (false, eval e X.env) :: starEach es X.env := by rfl) (hpl : (backTo pos (starEach es X.env)).any (·.1) = false := by rfl) : PE X (.Call (.Name x q) (e :: es) [] pos) (tCall sp [] E t) := by
  have h := pe_callH (E := fun _ => E) (q := q) (pos := pos) Fn hr hc hg hm hk hb (fun σ pins H s e s' I c => hx pins σ H s e s' I c) ha hdb he hpl
  have et : (tCall sp [] E t : TE) = tCallS sp (fun _ => E) t := by
    funext σ H Q
    show t σ H (fun vs H1 => sp (vs ++ []) H1 Q E) = t σ H fun vs H1 => sp vs H1 Q E
    congr 1
    funext vs H1
    rw [List.append_nil]
  rw [et]
  exact h
theorem pe_methQ {pl : Sem Bool} (he : PE X o ta) (c : Cls X.K C) (hm : Meth X.K C m f) (Fn : FnH X.prog X.w X.K X.mg X.base CX k f fd ps sp) (hr : RoomH k X.A) (hc : HotC X) (hb : Binds X.K fd ps []) (hx : Passes CX X E) (ha : PA X (e :: es) t)
    (hst : starEach (e :: es) X.env = (false, eval e X.env) :: starEach es X.env := by rfl) (hpl : (backTo pos (starEach es X.env)).any (·.1) = false := by rfl)
    (ht : eval (.Call (.Attribute o m apos) (e :: es) [] pos) X.env = (do
      let ov ← eval o X.env
      standAt apos.atName
      let (f, first) ← holding [ov] (getMethod ov m pl)
      callWith pos f first (backTo pos (starEach (e :: es) X.env)) (backToKw pos (keywordEach [] X.env))) := by rfl) : PE X (.Call (.Attribute o m apos) (e :: es) [] pos) (tMeth C m sp [] E ta t) := by
  constructor
  intro pins s σ H Q I h
  refine PySem.W.methodCall_KW (pl := pl) (thn (he.run pins s σ H _ I h) fun u s1 ⟨x, H1, I1, rx, a, dx, fs, ex, ea, l, q⟩ => ?_) ht
  subst ex
  obtain rfl : u = Value.ref a := rx
  refine getmeth_ok I1 ea c hm l ?_
  refine PySem.W.callWith_K (first := [.ref a]) (h₀ := X.base) I.ok.mod.kin hm.kp (thn (ha.run pos pins s1 σ H1 _ I1 q) fun us s2 ⟨vs, H2, I2, r, q2⟩ => ⟨I2.kIn, ?_⟩) hst hpl
  have q2 : sp (V.ref a :: (vs ++ [])) H2 Q E := q2
  rw [List.append_nil] at q2
  exact run_fnH (E := fun _ => E) (us := .ref a :: us) (vs := .ref a :: vs) Fn hr hc hb (fun pins H s e s' I c => hx pins σ H s e s' I c) I2 (.cons rfl r) q2
theorem pe_meth0Q {pl : Sem Bool} (he : PE X o ta) (c : Cls X.K C) (hm : Meth X.K C m f) (Fn : FnH X.prog X.w X.K X.mg X.base CX k f fd ps sp) (hr : RoomH k X.A) (hc : HotC X) (hb : Binds X.K fd ps []) (hx : Passes CX X E)
    (ht : eval (.Call (.Attribute o m apos) [] [] pos) X.env = (do
      let ov ← eval o X.env
      standAt apos.atName
      let (f, first) ← holding [ov] (getMethod ov m pl)
      callWith pos f first (backTo pos (starEach [] X.env)) (backToKw pos (keywordEach [] X.env))) := by rfl) : PE X (.Call (.Attribute o m apos) [] [] pos) (tMeth C m sp [] E ta tNil) := by
  constructor
  intro pins s σ H Q I h
  refine PySem.W.methodCall_KW (pl := pl) (thn (he.run pins s σ H _ I h) fun u s1 ⟨x, H1, I1, rx, a, dx, fs, ex, ea, l, q⟩ => ?_) ht
  subst ex
  obtain rfl : u = Value.ref a := rx
  refine getmeth_ok I1 ea c hm l ?_
  exact PySem.W.callWith_K0 (first := [.ref a]) I1.kIn hm.kp (run_fnH (E := fun _ => E) (us := [.ref a]) (vs := [.ref a]) Fn hr hc hb (fun pins H s e s' I c => hx pins σ H s e s' I c) I1 (.cons rfl .nil) q)
/-- what is never come to -/
def tDead : TS := fun _ _ _ => False
theorem ps_dead {st : Stmt} : PS X st tDead := ⟨fun _ _ _ _ _ _ h => h.elim⟩
end
end Ho

/-! within an except suite: comprehensions -/
namespace Ho
open PySem PySem.Spec PyProof.Rows HotX L2 L2H Xg
theorem inv_pn {X : Cx} {pins pn' : List (Addr × Obj)} {σ : L2.St} {H : Hp} {s : Shared} (I : L2.Inv X pins σ H s) (h : ∀ p ∈ pn' ++ pins, s.heap.get? p.1 = some p.2 ∧ H p.1 = none ∧ p.1 ≠ X.env.locals ∧ p.1 ∉ X.fs ∧ ∀ v, p.2.data ≠ .cell v) : L2.Inv { X with pn := pn' } pins σ H s :=
  ⟨⟨I.ok.mod, I.ok.kind, I.ok.glob, I.ok.blt, I.ok.above, I.ok.inj, I.ok.has, I.ok.cab, I.ok.hd, I.ok.frames, I.ok.stk, I.ok.exf, I.ok.bs, I.ok.bsz, I.ok.noex, I.ok.exfs, I.ok.funs, I.ok.frf⟩, I.os, I.bare, I.base, I.loc, I.cell, I.free, I.freeC, h, I.hok, I.len⟩
/-- a comprehension's own context; p, what is handled, stays looked at -/
abbrev blkP (X : Cx) (p : Addr × Obj) (s : Shared) (H : Hp) (scope : Scope) (cenv : Env) (fp : List Addr) : Cx := { X.blk s H scope cenv fp with pn := [p] }
theorem hot_blk {X : Cx} {p : Addr × Obj} (h : Hot1 X.A p) {s : Shared} {H : Hp} {scope : Scope} {cenv : Env} {fp : List Addr} : HotC (blkP X p s H scope cenv fp) := ⟨p, h, List.mem_singleton_self _⟩
section
variable {X : Cx}
theorem block_startP {p : Addr × Obj} {pins : List (Addr × Obj)} {σ : L2.St} {H : Hp} {s : Shared} {scope : Scope} {own : List (Str × Nat)} {fp : List Addr} (hp : p ∈ X.pn) (I : L2.Inv X pins σ H s) (ok : BlkOk X.N X.env.scope scope own) (hN : X.N.Nodup) (hfp : ∀ b ∈ fp, FpOk X pins H b ∧ b < s.heap.objs.size) :
    L2.Inv (blkP X p s H scope (compEnvC scope (cellsFrom (s.heap.objs.size + 1) scope.names (cloFrom X.env.cells scope.names [])) s.heap.objs.size X.env) fp) [] (wipe σ (own.map (·.2))) H { s with heap := pushCells (s.heap.push { cls := .type "dict", data := .dict #[] }) scope.names } := by
  refine inv_pn (block_start I ok hN hfp) fun q hq => ?_
  rw [show q = p from by simpa using hq]
  obtain ⟨p1, p2, p3, p4, p5⟩ := I.pin p (List.mem_append_left _ hp)
  exact ⟨pushCells_keeps _ _ _ _ (Heap.get?_push_of_some _ p1), p2, Nat.ne_of_lt (Heap.lt_size p1), fun hm => (List.mem_cons.mp (I.stkSub p.1 hm)).elim p3 p4, p5⟩
theorem lcP_core {pins : List (Addr × Obj)} {s : Shared} {σ : L2.St} {H : Hp} {Q : VK} {elt tg iter : Expr} {ifs : List Expr} {scope : Scope} {own : List (Str × Nat)} {pos pos' : Pos} {wi : TI} {g : TG} {tt : TT} {te : TE} {use : Option (Value → Sem Unit)} {Qf : Value → Shared → Prop}
    (hc : HotC X) (hN : X.N.Nodup) (I : L2.Inv X pins σ H s) (hi : PIH X tg iter wi) (ok : BlkOk X.N X.env.scope scope own)
    (hg : ∀ p, Hot1 X.A p → ∀ s H C cl fp, PG (blkP X p s H scope (compEnvC scope cl C X.env) fp) tg g) (ht : ∀ p, Hot1 X.A p → ∀ s H C cl fp, PTs (blkP X p s H scope (compEnvC scope cl C X.env) fp) ifs tt)
    (he : ∀ p, Hot1 X.A p → ∀ s H C cl fp, PE (blkP X p s H scope (compEnvC scope cl C X.env) fp) elt te) (hs : ∀ x, foldedSetIterable iter X.env x = pure x)
    (h : tLc wi g tt te (own.map (·.2)) σ H Q)
    (hR : ∀ D (cenv : Env) s' m H', L2.Inv X pins σ H' s' → Q (.ref D) H' → s'.heap.Ns cenv.locals m → FpOk X pins H' cenv.locals → compEnds (model X.prog X.w) X.A X.xe use Qf (.ref D) cenv (.ok .next) s') :
    wpAny (model X.prog X.w) X.A (PySem.comprehension (.ListComp elt [⟨tg, iter, ifs, 0⟩] scope pos) scope X.env pos' (newList []) false (eval iter X.env) use) Qf X.xe s := by
  obtain ⟨p, hot, hp⟩ := hc
  have cap : ∀ y ∈ scope.names, y.2 = .free → ∃ c, X.env.cells.lookup y.1 = some c := fun y hy e => (ok.free y hy e).elim (fun k => I.ok.has _ (.inl k)) fun k => I.ok.has _ (.inr k)
  refine comprehension_at (use := use) rfl hs (closure_ok cap) ok.kind (fun y hy e => by rw [ok.uniq y hy, e]) ?_
  refine thn (hi.run pins s σ H _ I h) fun xv s1 hx => thn hx fun itv s2 ⟨it, fp, tn, J, H2, e, I2, T, st2, f2, q⟩ => ?_
  subst e
  refine wpAny_newObj_type (newEnv_comp ?_) (Nat.zero_le _)
  obtain ⟨D, hD⟩ : ∃ D, s2.heap.objs.size = D := ⟨_, rfl⟩
  rw [hD]
  have hDn : H2 D = none := I2.hok.fresh (Nat.le_of_eq hD)
  obtain ⟨W, ⟨m0, w0⟩, turn⟩ := q D hDn
  obtain ⟨s3, hs3⟩ : ∃ s3 : Shared, ({ s2 with heap := s2.heap.push { cls := .type "list", data := .seq ([] : List Value).toArray } } : Shared) = s3 := ⟨_, rfl⟩
  rw [hs3]
  have h3 : s3.heap = s2.heap.push { cls := .type "list", data := .seq ([] : List Value).toArray } := by rw [← hs3]
  have up3 : ∀ b o, s2.heap.get? b = some o → s3.heap.get? b = some o := fun b o e => by rw [h3]; exact Heap.get?_push_of_some _ e
  have I3 : L2.Inv X pins σ (upd H2 D (.lst [])) s3 := by
    rw [← hs3]
    refine I2.laid (t' := s2.toks) (fun b o e => Heap.get?_push_of_some _ e) (Nat.le_of_eq hD) ⟨Nat.zero_le _, [], 0, .nil, ?_⟩
    rw [← hD]
    exact Heap.get?_push_size _ rfl
  have f3 : ∀ b ∈ fp, FpOk X pins (upd H2 D (.lst [])) b ∧ b < s3.heap.objs.size := fun b hb => by
    obtain ⟨o, eo, _⟩ := T.obj _ _ st2 b hb
    have hlt := Heap.lt_size eo
    have hne : b ≠ D := by rw [← hD]; exact Nat.ne_of_lt hlt
    refine ⟨⟨?_, (f2 b hb).2⟩, Heap.lt_size (up3 b o eo)⟩
    rw [upd_ne hne]
    exact (f2 b hb).1
  have st3 : tn 0 s3.heap := T.keep _ _ _ st2 fun b _ o e => up3 b o e
  obtain ⟨ce, hce⟩ : ∃ ce, compEnvC scope (cellsFrom (s3.heap.objs.size + 1) scope.names (cloFrom X.env.cells scope.names [])) s3.heap.objs.size X.env = ce := ⟨_, rfl⟩
  have I4 : L2.Inv (blkP X p s3 (upd H2 D (.lst [])) scope ce fp) [] _ _ _ := hce ▸ block_startP hp I3 ok hN f3
  have pg := hce ▸ hg p hot s3 (upd H2 D (.lst [])) s3.heap.objs.size (cellsFrom (s3.heap.objs.size + 1) scope.names (cloFrom X.env.cells scope.names [])) fp
  have pt := hce ▸ ht p hot s3 (upd H2 D (.lst [])) s3.heap.objs.size (cellsFrom (s3.heap.objs.size + 1) scope.names (cloFrom X.env.cells scope.names [])) fp
  have pe := hce ▸ he p hot s3 (upd H2 D (.lst [])) s3.heap.objs.size (cellsFrom (s3.heap.objs.size + 1) scope.names (cloFrom X.env.cells scope.names [])) fp
  show codeAny _ _ (.compStart (.ListComp elt [⟨tg, iter, ifs, 0⟩] scope pos) 0 (.ref it) (.ref D) (compEnvC scope (cellsFrom (s3.heap.objs.size + 1) scope.names (cloFrom X.env.cells scope.names [])) s3.heap.objs.size X.env)) (compEnds (model X.prog X.w) X.A X.xe use Qf (.ref D) (compEnvC scope (cellsFrom (s3.heap.objs.size + 1) scope.names (cloFrom X.env.cells scope.names [])) s3.heap.objs.size X.env)) { s3 with heap := pushCells (s3.heap.push { cls := .type "dict", data := .dict #[] }) scope.names }
  rw [hce]
  have cL : ce.locals = s3.heap.objs.size := by rw [← hce]; rfl
  have cf : ce.frame = X.env.frame := by rw [← hce]; rfl
  have n3 : ∀ b ∈ fp, (upd H2 D (.lst [])) b = none := fun b hb => (f3 b hb).1.1
  have st4 : tn 0 (pushCells (s3.heap.push { cls := .type "dict", data := .dict #[] }) scope.names) := T.keep _ _ _ st3 fun b _ o e => pushCells_keeps _ _ _ _ (Heap.get?_push_of_some _ e)
  obtain ⟨s4, hs4⟩ : ∃ s4 : Shared, ({ s3 with heap := pushCells (s3.heap.push { cls := .type "dict", data := .dict #[] }) scope.names } : Shared) = s4 := ⟨_, rfl⟩
  rw [hs4] at I4 ⊢
  have st4 : tn 0 s4.heap := by rw [← hs4]; exact st4
  obtain ⟨H3, hH3⟩ : ∃ H3, upd H2 D (.lst []) = H3 := ⟨_, rfl⟩
  rw [hH3] at I3 I4 pg pt pe w0 n3 f3
  have hcB : HotC (blkP X p s3 H3 scope ce fp) := ⟨p, hot, List.mem_singleton_self _⟩
  have stat : ∀ {σ' : L2.St} {H' : Hp} {s' : Shared}, L2.Inv (blkP X p s3 H3 scope ce fp) [] σ' H' s' → (∀ b ∈ fp, H' b = none) → ∀ b ∈ fp, FpOk (blkP X p s3 H3 scope ce fp) [] H' b := fun {σ' H' s'} I' hn b hb => by
    have k := I'.ok.exf b hb
    refine ⟨hn b hb, k.1, I'.ok.exfs b hb, .inl hb, fun x c e => k.2 x c e, fun q hq => ?_⟩
    rw [show q = p from by simpa using (show q ∈ [p] ++ ([] : List (Addr × Obj)) from hq)]
    exact ((f3 b hb).1.2.2.2.2.2 p (List.mem_append_left _ hp))
  have loop : codeAny (model X.prog X.w) X.A (.compLoop (.ListComp elt [⟨tg, iter, ifs, 0⟩] scope pos) 0 (.ref it) (.ref D) ce) (compEnds (model X.prog X.w) X.A X.xe use Qf (.ref D) ce) s4 := by
    apply compLoop_any fun n s' => ∃ i H', L2.Inv (blkP X p s3 H3 scope ce fp) [] (wipe σ (own.map (·.2))) H' s' ∧ tn i s'.heap ∧ (∀ b ∈ fp, H' b = none) ∧ W i n H'
    case h => exact ⟨0, H3, I4, st4, n3, w0⟩
    intro n s5 h5
    obtain ⟨i, H5, I5, st5, n5, w5⟩ := h5
    cases turn i n H5 w5 with
    | inl hstop =>
      have td := T.done (blkP X p s3 H3 scope ce fp) rfl rfl rfl hcB i [] s5 _ H5 (fun _ _ => False) I5 (stat I5 n5) st5 hstop.1
      refine thnF td fun r s6 ⟨hr, I6⟩ => ?_
      rw [hr]
      have I7 : L2.Inv X pins σ H5 s6 := by
        refine I3.call' (ch := fp) I6.os I6.base I6.hok I6.bare fun b hb => ?_
        obtain ⟨g0, g1, g2, g3, g4, g5⟩ := (f3 b hb).1
        exact ⟨g3, g1, g4, g5⟩
      obtain ⟨m, hn, _⟩ := I6.loc
      have nC : H5 ce.locals = none := I6.free
      refine hR D ce s6 m H5 I7 hstop.2 hn ?_
      rw [cL] at nC ⊢
      exact I3.fpOk (Nat.le_refl _) nC
    | inr hgo =>
      obtain ⟨go, Nx, hNx, step⟩ := hgo
      have ti := T.item (blkP X p s3 H3 scope ce fp) rfl rfl rfl hcB i [] s5 _ H5 (fun _ _ => False) I5 (stat I5 n5) st5 go
      refine thnF ti fun r s6 ⟨u, hr, h6⟩ => ?_
      rw [hr]
      refine thnF h6 fun _ s7 ⟨x, H7, I7, r7, y7, st7, n7⟩ => ?_
      have fin : ∀ {s' : Shared} {σ' : L2.St} {H' : Hp}, L2.Inv (blkP X p s3 H3 scope ce fp) ([] ++ pinsAt fp s7.heap) σ' H' s' → wipe σ' (own.map (·.2)) = wipe σ (own.map (·.2)) → Nx H' → ∃ m, m < n ∧ ∃ i H', L2.Inv (blkP X p s3 H3 scope ce fp) [] (wipe σ (own.map (·.2))) H' s' ∧ tn i s'.heap ∧ (∀ b ∈ fp, H' b = none) ∧ W i m H' := by
        intro s' σ' H' I' hw nx
        obtain ⟨m', hm, w'⟩ := hNx H' nx
        have pin' : ∀ b ∈ fp, ∀ o, s7.heap.get? b = some o → s'.heap.get? b = some o ∧ H' b = none := fun b hb o e => by
          have z := I'.pin (b, o) (List.mem_append_right _ (List.mem_append_right _ (mem_pinsAt hb e)))
          exact ⟨z.1, z.2.1⟩
        refine ⟨m', hm, i + 1, H', ?_, T.keep _ _ _ st7 fun b hb o e => (pin' b hb o e).1, fun b hb => ?_, w'⟩
        · refine (I'.unpinned (pins := [])).weak (by rw [← hw, wipe_length]) fun j v e => ?_
          rw [← hw] at e
          exact (wipe_some e).1
        · obtain ⟨o, e, _⟩ := T.obj _ _ st7 b hb
          exact (pin' b hb o e).2
      refine wpAny_mono (pg.run _ s7 _ H7 x u _ (I7.pinned (stat I7 n7) (T.obj _ _ st7)) r7 (step x H7 y7)) (fun _ s8 ⟨σ8, H8, I8, hw8, q8⟩ => ?_) fun _ _ z => z.elim
      refine wpAny_mono (pt.run _ s8 σ8 H8 _ I8 q8) (fun b s9 ⟨H9, I9, q9⟩ => ?_) fun _ _ z => z.elim
      cases b with
      | false => exact fin I9 hw8 q9
      | true =>
        refine wpAny_mono (pe.run _ s9 σ8 H9 _ I9 q9) (fun z s10 ⟨yv, H10, I10, r10, acc, hD10, hz10, nx⟩ => ?_) fun _ _ z => z.elim
        exact app_ok (X := blkP X p s3 H3 scope ce fp) I10 hD10 hz10 r10 fun s11 I11 => fin I11 hw8 nx
  exact codeAny_compStart_list loop (T.self X.A 0 _ _ _ st4 loop)
/-- name = [..] on one line, within a suite -/
theorem ps_setLcH {i : Nat} {y : Str} {py : Pos} {elt tg iter : Expr} {ifs : List Expr} {scope : Scope} {own : List (Str × Nat)} {pos spos : Pos} {wi : TI} {g : TG} {tt : TT} {te : TE} (hc : HotC X) (hN : X.N.Nodup)
    (hy : X.N[i]? = some y) (hyl : X.env.scope.names.lookup y = some .local) (hsw : swapsWith (.ListComp elt [⟨tg, iter, ifs, 0⟩] scope pos) (some (.Name y py)) spos.line X.env = pure true) (hi : PIH X tg iter wi) (ok : BlkOk X.N X.env.scope scope own)
    (hg : ∀ p, Hot1 X.A p → ∀ s H C cl fp, PG (blkP X p s H scope (compEnvC scope cl C X.env) fp) tg g) (ht : ∀ p, Hot1 X.A p → ∀ s H C cl fp, PTs (blkP X p s H scope (compEnvC scope cl C X.env) fp) ifs tt)
    (he : ∀ p, Hot1 X.A p → ∀ s H C cl fp, PE (blkP X p s H scope (compEnvC scope cl C X.env) fp) elt te) (hs : ∀ x, foldedSetIterable iter X.env x = pure x := by intro _; rfl) :
    PS X (.Assign [.Name y py] (.ListComp elt [⟨tg, iter, ifs, 0⟩] scope pos) spos) (tAsg (tLc wi g tt te (own.map (·.2))) (gName i)) := by
  constructor
  intro pins s σ H D I h
  rw [exec_Assign_Name_used _ _ _ _ hsw]
  apply wpAny_bind
  apply wpAny_standAt
  apply wpAny_bind
  show wpAny _ X.A (do let _ ← PySem.comprehension (.ListComp elt [⟨tg, iter, ifs, 0⟩] scope pos) scope X.env (firstIterPos [⟨tg, iter, ifs, 0⟩] pos) (newList []) false (eval iter X.env) (some (assign (.Name y py) X.env))) _ _ s
  have h : tLc wi g tt te (own.map (·.2)) σ H (fun x H1 => gName i x σ H1 D.nx) := h
  apply wpAny_bind
  refine thn (lcP_core (Qf := fun _ s' => SP X pins D .next s') hc hN I hi ok hg ht he hs h ?_) fun _ s' hq => wpAny_pure (wpAny_pure hq)
  intro L cenv s' m H' I' q hn f
  show wpAny _ _ (assign (.Name y py) X.env (.ref L)) _ _ _
  apply wpAny_assign_Name
  refine store_ok2 (v := V.ref L) I' hN hy (.inl hyl) rfl (fun s2 I2 st => ?_) (.inr hyl)
  obtain ⟨a, sb, ha⟩ := st
  obtain ⟨f0, f1, f2, f3, f4, f5⟩ := f
  have ne : cenv.locals ≠ a := by
    cases ha with
    | inl z => rw [z]; exact f1
    | inr z => exact fun e => f4 y a z e.symm
  exact ⟨m, hn.sameBut sb ne, fun h3 sb3 => ⟨_, H', I2.turned (t' := s2.toks) (fun b o hb e => (sb3.2 b hb).trans e) f0 f1 f3 f4 f5, q⟩⟩
/-- as a value -/
theorem pe_lcH {elt tg iter : Expr} {ifs : List Expr} {scope : Scope} {own : List (Str × Nat)} {pos : Pos} {wi : TI} {g : TG} {tt : TT} {te : TE} (hc : HotC X) (hN : X.N.Nodup) (hi : PIH X tg iter wi) (ok : BlkOk X.N X.env.scope scope own)
    (hg : ∀ p, Hot1 X.A p → ∀ s H C cl fp, PG (blkP X p s H scope (compEnvC scope cl C X.env) fp) tg g) (ht : ∀ p, Hot1 X.A p → ∀ s H C cl fp, PTs (blkP X p s H scope (compEnvC scope cl C X.env) fp) ifs tt)
    (he : ∀ p, Hot1 X.A p → ∀ s H C cl fp, PE (blkP X p s H scope (compEnvC scope cl C X.env) fp) elt te) (hs : ∀ x, foldedSetIterable iter X.env x = pure x := by intro _; rfl) :
    PE X (.ListComp elt [⟨tg, iter, ifs, 0⟩] scope pos) (tLc wi g tt te (own.map (·.2))) := by
  constructor
  intro pins s σ H Q I h
  rw [eval_ListComp]
  refine lcP_core (use := none) hc hN I hi ok hg ht he hs h fun D cenv s' m H' I' q hn f => ?_
  obtain ⟨f0, f1, f2, f3, f4, f5⟩ := f
  exact ⟨m, hn, fun h'' sb => ⟨.ref D, H', I'.turned (t' := s'.toks) (fun b o hb e => (sb.2 b hb).trans e) f0 f1 f3 f4 f5, rfl, q⟩⟩
abbrev InBlkP (X : Cx) (sc : Scope) (P : Cx → Prop) : Prop := ∀ (p : Addr × Obj), Hot1 X.A p → ∀ (z : Shared) (H : Hp) (C : Addr) (cl : List (Str × Addr)) (fp : List Addr), P (blkP X p z H sc (compEnvC sc cl C X.env) fp)
theorem twoCoreP {pn : List (Addr × Obj)} {z : Shared} {σ : L2.St} {H : Hp} {Q : VK} {kx vx t0 i0 t1 i1 : Expr} {sc : Scope} {own : List (Str × Nat)} {vs1 : List Nat} {ps ps' : Pos} {wi wi1 : TI} {g g1 : TG} {tk tv : TE} {use : Option (Value → Sem Unit)} {Qf : Value → Shared → Prop}
    (hc : HotC X) (hu : X.A.units + 1 < cLine) (hN : X.N.Nodup) (I : Inv X pn σ H z) (hi : PIH X t0 i0 wi) (ok : BlkOk X.N X.env.scope sc own) (hv : ∀ i ∈ vs1, i ∈ own.map (·.2)) (hg : InBlkP X sc fun Y => PG Y t0 g) (hk : InBlkP X sc fun Y => PE Y kx tk) (he : InBlkP X sc fun Y => PE Y vx tv)
    (hs : ∀ y, foldedSetIterable i0 X.env y = pure y) (hi1 : InBlkP X sc fun Y => PIH Y t1 i1 wi1) (hg1 : InBlkP X sc fun Y => PG Y t1 g1) (hs1 : ∀ e y, foldedSetIterable i1 e y = pure y) (h : tTwo wi g wi1 g1 tk tv (own.map (·.2)) vs1 σ H Q)
    (fin : ∀ D C z' m H', Inv X pn σ H' z' → Q (.ref D) H' → z'.heap.Ns C m → FpOk X pn H' C → compPost (model X.prog X.w) X.A X.xe use Qf (.ref D) C (.ok .next) z') :
    wpAny (model X.prog X.w) X.A (comprehension (twoFor kx vx t0 i0 t1 i1 sc ps) sc X.env ps' newDict false (eval i0 X.env) use) Qf X.xe z := by
  obtain ⟨p, hot, hp⟩ := hc
  have fr : ∀ y ∈ sc.names, y.2 = .free → ∃ c, X.env.cells.lookup y.1 = some c := fun y hy q => (ok.free y hy q).elim (fun e => I.ok.has _ (.inl e)) fun e => I.ok.has _ (.inr e)
  refine wpAny_comprehension_free (use := use) rfl hs (closure_ok fr) ok.kind (fun y hy q => by rw [ok.uniq y hy, q]) (thn (hi.run pn z σ H _ I h) fun xv za hx => thn hx fun itv zb hb => ?_)
  obtain ⟨ia, fp, tn, J, Hb, rfl, Ib, Tb, stb, fb, q⟩ := hb
  refine wpAny_newObj_type (newEnv_comp ?_)
  generalize eD : zb.heap.objs.size = D
  have nD : Hb D = none := Ib.hok.fresh (Nat.le_of_eq eD)
  obtain ⟨W, ⟨ma, wa⟩, turn⟩ := q D nD
  generalize ez : ({ zb with heap := zb.heap.push { cls := .type "dict", data := .dict #[] } } : Shared) = zc
  have hzc : zc.heap = zb.heap.push { cls := .type "dict", data := .dict #[] } := by rw [← ez]
  have Ic : Inv X pn σ (upd Hb D (.dT [])) zc := by
    rw [← ez]
    refine Ib.laid (t' := zb.toks) (fun b o q => Heap.get?_push_of_some _ q) (Nat.le_of_eq eD) ?_
    rw [← eD]
    exact dt_empty zb.heap Ib.big
  have small : ∀ b ∈ fp, b < zb.heap.objs.size := fun b m => let ⟨o, q, _⟩ := Tb.obj _ _ stb b m; Heap.lt_size q
  have fc : ∀ b ∈ fp, FpOk X pn (upd Hb D (.dT [])) b ∧ b < zc.heap.objs.size := fun b m => by
    have lt := small b m
    refine ⟨⟨(upd_ne (by rw [← eD]; exact Nat.ne_of_lt lt)).trans (fb b m).1, (fb b m).2⟩, ?_⟩
    rw [hzc, Heap.size_push]
    exact Nat.lt_succ_of_lt lt
  have stc : tn 0 zc.heap := Tb.keep _ _ _ stb fun b _ o q => by rw [hzc]; exact Heap.get?_push_of_some _ q
  have Id : L2.Inv (blkP X p zc (upd Hb D (.dT [])) sc _ fp) [] _ _ _ := block_startP hp Ic ok hN fc
  have rg := hg p hot zc (upd Hb D (.dT [])) zc.heap.objs.size (cellsFrom (zc.heap.objs.size + 1) sc.names (cloFrom X.env.cells sc.names [])) fp
  have rk := hk p hot zc (upd Hb D (.dT [])) zc.heap.objs.size (cellsFrom (zc.heap.objs.size + 1) sc.names (cloFrom X.env.cells sc.names [])) fp
  have re := he p hot zc (upd Hb D (.dT [])) zc.heap.objs.size (cellsFrom (zc.heap.objs.size + 1) sc.names (cloFrom X.env.cells sc.names [])) fp
  have ri1 := hi1 p hot zc (upd Hb D (.dT [])) zc.heap.objs.size (cellsFrom (zc.heap.objs.size + 1) sc.names (cloFrom X.env.cells sc.names [])) fp
  have rg1 := hg1 p hot zc (upd Hb D (.dT [])) zc.heap.objs.size (cellsFrom (zc.heap.objs.size + 1) sc.names (cloFrom X.env.cells sc.names [])) fp
  show codeAny _ _ (.compStart (twoFor kx vx t0 i0 t1 i1 sc ps) 0 (.ref ia) (.ref D) (compEnvC sc (cellsFrom (zc.heap.objs.size + 1) sc.names (cloFrom X.env.cells sc.names [])) zc.heap.objs.size X.env)) (compPost (model X.prog X.w) X.A X.xe use Qf (.ref D) zc.heap.objs.size) { zc with heap := pushCells (zc.heap.push { cls := .type "dict", data := .dict #[] }) sc.names }
  have nfp : ∀ b ∈ fp, (upd Hb D (.dT [])) b = none := fun b m => (fc b m).1.1
  generalize eE : compEnvC sc (cellsFrom (zc.heap.objs.size + 1) sc.names (cloFrom X.env.cells sc.names [])) zc.heap.objs.size X.env = en at Id rg rk re ri1 rg1 ⊢
  have eL : en.locals = zc.heap.objs.size := by subst eE; rfl
  generalize eH : upd Hb D (.dT []) = Hc at Ic Id rg rk re ri1 rg1 wa nfp fc
  generalize eS : ({ zc with heap := pushCells (zc.heap.push { cls := .type "dict", data := .dict #[] }) sc.names } : Shared) = zd at Id ⊢
  have std : tn 0 zd.heap := Tb.keep _ _ _ stc fun b _ o q => by rw [← eS]; exact pushCells_keeps _ _ _ _ (Heap.get?_push_of_some _ q)
  have hcB : HotC (blkP X p zc Hc sc en fp) := ⟨p, hot, List.mem_singleton_self _⟩
  have stay : ∀ {σ' : L2.St} {H' : Hp} {z' : Shared}, Inv (blkP X p zc Hc sc en fp) [] σ' H' z' → (∀ b ∈ fp, H' b = none) → ∀ b ∈ fp, FpOk (blkP X p zc Hc sc en fp) [] H' b := fun {σ' H' z'} I' n b m =>
    ⟨n b m, (I'.ok.exf b m).1, I'.ok.exfs b m, .inl m, fun x c e => (I'.ok.exf b m).2 x c e, fun q hq => by
      rw [show q = p from by simpa using (show q ∈ [p] ++ ([] : List (Addr × Obj)) from hq)]
      exact (fc b m).1.2.2.2.2.2 p (List.mem_append_left _ hp)⟩
  have all : codeAny (model X.prog X.w) X.A (.compLoop (twoFor kx vx t0 i0 t1 i1 sc ps) 0 (.ref ia) (.ref D) en) (compPost (model X.prog X.w) X.A X.xe use Qf (.ref D) zc.heap.objs.size) zd := by
    refine loopOut (hs1 en) (fun n z' => ∃ i H', Inv (blkP X p zc Hc sc en fp) [] (wipe σ (own.map (·.2))) H' z' ∧ tn i z'.heap ∧ (∀ b ∈ fp, H' b = none) ∧ W i n H') ?_ ma ⟨0, Hc, Id, std, nfp, wa⟩
    rintro n ze ⟨i, He, Ie, ste, ne, we⟩
    rcases turn i n He we with ⟨stop, qq⟩ | ⟨go, N, hNx, step⟩
    · refine thnF (Tb.done (blkP X p zc Hc sc en fp) rfl rfl rfl hcB i [] ze _ He (fun _ _ => False) Ie (stay Ie ne) ste stop) fun r zf ⟨hr, If⟩ => ?_
      subst hr
      have Ig : Inv X pn σ He zf := Ic.call' (ch := fp) If.os If.base If.hok If.bare fun b m => ⟨(fc b m).1.2.2.2.1, (fc b m).1.2.1, (fc b m).1.2.2.2.2.1, (fc b m).1.2.2.2.2.2⟩
      have nC : He zc.heap.objs.size = none := by
        have q : He en.locals = none := If.free
        rwa [eL] at q
      obtain ⟨m, hn, _⟩ := If.loc
      have hn' : zf.heap.Ns en.locals m := hn
      rw [eL] at hn'
      exact fin D zc.heap.objs.size zf m He Ig qq hn' (Ic.fpOk (Nat.le_refl _) nC)
    · refine thnF (Tb.item (blkP X p zc Hc sc en fp) rfl rfl rfl hcB i [] ze _ He (fun _ _ => False) Ie (stay Ie ne) ste go) fun r zf ⟨u, hr, hf⟩ => ?_
      subst hr
      refine thnF hf fun _ zg ⟨x, Hg, Ig, rx, yx, stg, ng⟩ => ?_
      have Ig' := Ig.pinned (stay Ig ng) (Tb.obj _ _ stg)
      refine thnF (rg.run _ zg _ Hg x u _ Ig' rx (step x Hg yx)) fun _ zh ⟨σh, Hh, Ih, wh, qh⟩ => ?_
      have lh : (wipe σ (own.map (·.2))).length = σh.length := by rw [← wh, wipe_length]
      -- back to the outer loop's head
      have back : ∀ {σ9 : L2.St} {z' : Shared} {H' : Hp}, Inv (blkP X p zc Hc sc en fp) ([] ++ pinsAt fp zg.heap) σ9 H' z' → (wipe σ (own.map (·.2))).length = σ9.length → (∀ (j : Nat) v, (wipe σ (own.map (·.2)))[j]? = some (some v) → σ9[j]? = some (some v)) → N H' →
          ∃ m, m < n ∧ ∃ i H', Inv (blkP X p zc Hc sc en fp) [] (wipe σ (own.map (·.2))) H' z' ∧ tn i z'.heap ∧ (∀ b ∈ fp, H' b = none) ∧ W i m H' := fun {σ9 z' H'} I' l9 k9 nx => by
        obtain ⟨m', lt, w'⟩ := hNx H' nx
        have pin : ∀ b ∈ fp, ∀ o, zg.heap.get? b = some o → z'.heap.get? b = some o ∧ H' b = none := fun b m o q =>
          have y := I'.pin (b, o) (List.mem_append_right _ (List.mem_append_right _ (mem_pinsAt m q)))
          ⟨y.1, y.2.1⟩
        refine ⟨m', lt, i + 1, H', (I'.unpinned (pins := [])).weak l9 k9, Tb.keep _ _ _ stg fun b m o q => (pin b m o q).1, fun b m => ?_, w'⟩
        obtain ⟨o, q, _⟩ := Tb.obj _ _ stg b m
        exact (pin b m o q).2
      have keep9 : ∀ (j : Nat) v, (wipe σ (own.map (·.2)))[j]? = some (some v) → (wipe σh vs1)[j]? = some (some v) := fun j v q => by
        rw [← wh] at q
        obtain ⟨q1, q2⟩ := wipe_some q
        rw [L2.wipe_out fun y => q2 (hv j y)]
        exact q1
      refine thnF (ri1.run _ zh σh Hh _ Ih qh) fun xw zi hxw => thnF hxw fun iw zj hj => ?_
      obtain ⟨ib, fq, tm, J1, Hj, rfl, Ij, Tj, stj, fj, W1, ⟨mb, wb⟩, turn1⟩ := hj
      have stay1 : ∀ {H' : Hp}, (∀ b ∈ fq, H' b = none) → ∀ b ∈ fq, FpOk (blkP X p zc Hc sc en fp) ([] ++ pinsAt fp zg.heap) H' b := fun n b m => ⟨n b m, (fj b m).2⟩
      have inner : codeAny (model X.prog X.w) X.A (.compLoop (twoFor kx vx t0 i0 t1 i1 sc ps) 1 (.ref ib) (.ref D) en)
          (fun r z' => match r with
            | .ok _ => ∃ m, m < n ∧ ∃ i H', Inv (blkP X p zc Hc sc en fp) [] (wipe σ (own.map (·.2))) H' z' ∧ tn i z'.heap ∧ (∀ b ∈ fp, H' b = none) ∧ W i m H'
            | .error _ => False) zj := by
        refine loopIn (fun k z' => ∃ j H', Inv (blkP X p zc Hc sc en fp) ([] ++ pinsAt fp zg.heap) (wipe σh vs1) H' z' ∧ tm j z'.heap ∧ (∀ b ∈ fq, H' b = none) ∧ W1 j k H') ?_ mb ⟨0, Hj, Ij.weak (wipe_length _ _) (fun j v q => (wipe_some q).1), stj, fun b m => (fj b m).1, wb⟩
        rintro k zk ⟨j, Hk, Ik, stk, nk, wk⟩
        rcases turn1 j k Hk wk with ⟨stop1, nx1⟩ | ⟨go1, N1, hN1, step1⟩
        · refine thnF (Tj.done (blkP X p zc Hc sc en fp) rfl rfl rfl hcB j _ zk (wipe σh vs1) Hk (fun _ _ => False) Ik (stay1 nk) stk stop1) fun r zl ⟨hr, Il⟩ => ?_
          subst hr
          exact back Il (lh.trans (wipe_length σh vs1).symm) keep9 nx1
        · refine thnF (Tj.item (blkP X p zc Hc sc en fp) rfl rfl rfl hcB j _ zk (wipe σh vs1) Hk (fun _ _ => False) Ik (stay1 nk) stk go1) fun r zl ⟨u1, hr, hl⟩ => ?_
          subst hr
          refine thnF hl fun _ zm ⟨x1, Hm, Im, rm, ym, stm, nm⟩ => ?_
          have Im' := Im.pinned (stay1 nm) (Tj.obj _ _ stm)
          refine thnF (rg1.run _ zm (wipe σh vs1) Hm x1 u1 _ Im' rm (step1 x1 Hm ym)) fun _ zn ⟨σn, Hn, In, wn, qn⟩ => ?_
          refine thnF (rk.run _ zn σn Hn _ In qn) fun uk zo ⟨yk, Ho, Io, rko, qo⟩ => ?_
          refine thnF (re.run _ zo σn Ho _ Io qo) fun uv zp ⟨yv, Hp', Ip, rv, b, kvs, ky, eb, hD, hb, hz, nx⟩ => ?_
          subst eb
          obtain rfl : uk = Value.ref b := rko
          refine setT (X := blkP X p zc Hc sc en fp) hu Ip hD hb hz rv fun zq Iq => ?_
          obtain ⟨m', lt, w'⟩ := hN1 _ nx
          have pin : ∀ a ∈ fq, ∀ o, zm.heap.get? a = some o → zq.heap.get? a = some o ∧ (upd Hp' D (.dT (putK kvs ky yv))) a = none := fun a m o q =>
            have y := Iq.pin (a, o) (List.mem_append_right _ (List.mem_append_right _ (mem_pinsAt m q)))
            ⟨y.1, y.2.1⟩
          refine ⟨m', lt, j + 1, _, Iq.unpinned.weak (by rw [← wn, wipe_length]) (fun j v q => by rw [← wn] at q; exact (wipe_some q).1), Tj.keep _ _ _ stm fun a m o q => (pin a m o q).1, fun a m => ?_, w'⟩
          obtain ⟨o, q, _⟩ := Tj.obj _ _ stm a m
          exact (pin a m o q).2
      exact startIn inner (Tj.self X.A 0 _ _ _ stj inner)
  exact codeAny_compStart_dict all (Tb.self X.A 0 _ _ _ std all)
theorem pe_twoH {kx vx t0 i0 t1 i1 : Expr} {sc : Scope} {own : List (Str × Nat)} {vs1 : List Nat} {ps : Pos} {wi wi1 : TI} {g g1 : TG} {tk tv : TE} (hc : HotC X) (hu : X.A.units + 1 < cLine) (hN : X.N.Nodup) (hi : PIH X t0 i0 wi) (ok : BlkOk X.N X.env.scope sc own) (hv : ∀ i ∈ vs1, i ∈ own.map (·.2))
    (hg : InBlkP X sc fun Y => PG Y t0 g) (hi1 : InBlkP X sc fun Y => PIH Y t1 i1 wi1) (hg1 : InBlkP X sc fun Y => PG Y t1 g1) (hk : InBlkP X sc fun Y => PE Y kx tk) (he : InBlkP X sc fun Y => PE Y vx tv)
    (hs : ∀ y, foldedSetIterable i0 X.env y = pure y := by intro _; rfl) (hs1 : ∀ e y, foldedSetIterable i1 e y = pure y := by intro _ _; rfl) : PE X (.DictComp kx vx [⟨t0, i0, [], 0⟩, ⟨t1, i1, [], 0⟩] sc ps) (tTwo wi g wi1 g1 tk tv (own.map (·.2)) vs1) := by
  constructor
  intro pn z σ H Q I h
  rw [arm_eval_DictComp]
  refine twoCoreP hc hu hN I hi ok hv hg hk he hs hi1 hg1 hs1 h fun D C z' m H' I' q hn f => ⟨m, hn, fun hp keep => ?_⟩
  exact ⟨.ref D, H', I'.turned (t' := z'.toks) (fun b o nb e => (keep.2 b nb).trans e) f.1 f.2.1 f.2.2.2.1 f.2.2.2.2.1 f.2.2.2.2.2, rfl, q⟩
end
end Ho

/-! exceptions whose context is known; suites in which something is handled -/
theorem L2H.RoomH.units {k : Nat} {A : PySem.Around} (r : L2H.RoomH k A) : A.units + 64 < PySem.cLine := by have := r.un; omega
theorem L2H.RoomH.units0 {k : Nat} {A : PySem.Around} (r : L2H.RoomH k A) : A.units < PySem.cLine := by have := r.un; omega
namespace Ho
open PySem PySem.Spec PyProof.Rows HotX L2 L2H Xg Dl
theorem hu_ofH {k : Nat} {A : Around} (r : RoomH k A) : A.units + 1 < cLine := by have := r.un; omega
theorem takes0N {X : Cx} : L2N.Takes X (fun _ _ _ _ => False) := fun _ _ x => by
  obtain ⟨_, _, _, _, _, _, _, _, _, _, _, _, _, _, _, _, z⟩ := x
  exact z.elim
theorem pass_outN {X : Cx} {E : XK} (tk : L2N.Takes X (fun cls d _ H => E cls d H)) : Passes (L2N.CX X.prog X.w) X E := L2N.passes_call tk fun _ _ _ _ h => h
theorem pass_tryN {X : Cx} {W : WX} (tk : L2N.Takes X W) : Passes (L2N.CX X.prog X.w) X (fun cls d H => ∀ σ, W cls d σ H) := L2N.passes_call tk fun _ _ σ _ h => h σ
theorem passLN {X : Cx} : Passes (L2N.CX X.prog X.w) X E0 := fun _ _ _ _ _ _ _ h => by
  obtain ⟨_, _, _, _, _, _, _, _, _, _, _, _, z⟩ := h
  exact z.elim
theorem ps_raiseDN {X : Cx} {W : WX} {C : Addr} {e : Expr} {pos : Pos} (hc : X.calm = true) (tk : L2N.Takes X W) (he : L2N.PMk X e (fun _ H Q => Q (.ref C) none H)) : PS X (.Raise (some e) none pos) (tRaiseD W C) := L2N.ps_raise hc tk he
theorem ps_tryMDN {X : Cx} {body : List Stmt} {h₀ : ExceptHandler} {hds : List ExceptHandler} {l : List (Value × (Addr → Value → Option Addr → TS))} {pos : Pos} {tb : WX → TS} {Wout : WX} (hs : X.stack = X.env :: X.outer) (hf : X.env.frame = some X.env.locals) (tk : L2N.Takes X Wout)
    (hb : ∀ (W : WX) (pn : List (Addr × Obj)) (xe : Value → Shared → Prop), L2N.Takes (X.tr pn xe) W → PassesOwn (model X.prog X.w) X.A X.env xe → PSs (X.tr pn xe) body (tb W)) (hh : L2N.HdsOk X (h₀ :: hds) l) : PS X (.Try body (h₀ :: hds) [] [] pos) (tTryMD X.K tb l Wout) := L2N.ps_try_many hs hf tk hb hh
/-- within the suite, what is handled is known -/
theorem hot_suite {X : Cx} {a : Addr} {oe : Obj} {cls : Value} {d : Option Addr} {pn : List (Addr × Obj)} (hz : L2N.Zn cls d oe) (hf : ∃ vs, oe.data = .fields vs) : HotC (X.suite a ((a, oe) :: pn)) := by
  obtain ⟨vs, e⟩ := hf
  exact ⟨(a, oe), ⟨rfl, vs, e, hz.2.2 vs e⟩, List.mem_cons_self⟩
section
variable {P : Program} {w : World} {K : PySem.W.Frag} {mg : Str → Option Value} {base : Heap}
theorem fnOkXN {x qual : Str} {st : Stmt} {f : Addr} {fd : FuncData} {N ps : List Str} {k : Nat} {pre : Pre} (Fn : Fun K x qual st f fd) (S : FnScope N ps (defScope st)) (len : ∀ ds R o, pre ds R o → ds.length = ps.length)
    (body : ∀ ds R o, pre ds R o → ∀ (cdv : Value) (A : Around) (outer : List Env) (s : Shared) (H : Hp) (E : XK), Room k (A.deeper (envOfC qual (defScope st) s.heap.objs.size f cdv)) →
      ∃ t, PSs (cxOf (L2N.CX P w) P w K mg base N qual (defScope st) f cdv A outer s H E) (defBody st) t ∧ ∀ (F : Hp) (Q : VK), Post K F H o Q E → Sx ⟨K, H, F, R⟩ [] (env0 N ds) t { nx := fun _ H' => Q .non H', rt := Q }) :
    FnOk P w K mg base (L2N.CX P w) (k + 1) f fd ps (spD K pre) := by
  obtain ⟨oc, od, kV, doc, pm, an, cdv, ct, osl, rfl, lk, hcd⟩ := Fn.ex
  refine fn_of lk hcd S (fun vs H Q E h => ?_) fun A outer s H vs Q E hr h => ?_
  · obtain ⟨F, ds, R, o, hF, hv, hS, hp, post⟩ := h
    rw [hv.len]
    exact len ds R o hp
  · obtain ⟨F, ds, R, o, hF, hv, hS, hp, post⟩ := h
    obtain ⟨t, h1, h2⟩ := body ds R o hp cdv A outer s H E hr
    exact ⟨t, h1, enter hF hv hS (h2 F Q post)⟩
theorem fnOkMXN {x qual : Str} {st : Stmt} {f : Addr} {fd : FuncData} {N ps : List Str} {k : Nat} {pre : PreM} (Fn : Fun K x qual st f fd) (S : FnScope N ps (defScope st)) (len : ∀ ds R M W, pre ds R M W → ds.length = ps.length ∧ Gives M W)
    (body : ∀ ds R M W, pre ds R M W → ∀ (cdv : Value) (A : Around) (outer : List Env) (s : Shared) (H : Hp) (E : XK), Room k (A.deeper (envOfC qual (defScope st) s.heap.objs.size f cdv)) →
      ∃ t, PSs (cxOf (L2N.CX P w) P w K mg base N qual (defScope st) f cdv A outer s H E) (defBody st) t ∧ ∀ (B F : Hp) (Q : VK), Ways ⟨K, B, F, R⟩ W Q E → Sx ⟨K, B, F, R⟩ M (env0 N ds) t { nx := fun _ H' => Q .non H', rt := Q }) :
    FnOk P w K mg base (L2N.CX P w) (k + 1) f fd ps (spM K pre) := by
  obtain ⟨oc, od, kV, doc, pm, an, cdv, ct, osl, rfl, lk, hcd⟩ := Fn.ex
  refine fn_of lk hcd S (fun vs H Q E h => ?_) fun A outer s H vs Q E hr h => ?_
  · obtain ⟨F, ds, R, M, W, hF, hv, hi, hS, hp, post⟩ := h
    rw [hv.len]
    exact (len ds R M W hp).1
  · obtain ⟨F, ds, R, M, W, hF, hv, hi, hS, hp, post⟩ := h
    obtain ⟨t, h1, h2⟩ := body ds R M W hp cdv A outer s H E hr
    exact ⟨t, h1, enterM hF hv hi hS (h2 (eraL H (M.map (·.1))) F Q (ways_of hi (len ds R M W hp).2 post))⟩
/-- a def that holds where something is handled, too -/
theorem fnOkH {x qual : Str} {st : Stmt} {f : Addr} {fd : FuncData} {N ps : List Str} {k : Nat} {pre : Pre} (Fn : Fun K x qual st f fd) (S : FnScope N ps (defScope st)) (len : ∀ ds R o, pre ds R o → ds.length = ps.length)
    (body : ∀ ds R o, pre ds R o → ∀ (cdv : Value) (A : Around) (outer : List Env) (s : Shared) (H : Hp) (E : XK) (p : Addr × Obj), Hot1 A p → RoomH k (A.deeper (envOfC qual (defScope st) s.heap.objs.size f cdv)) →
      ∃ t, PSs (cxH CX0 P w K mg base N qual (defScope st) f cdv A outer s H E p).nox (defBody st) t ∧ ∀ (F : Hp) (Q : VK), Post K F H o Q E → Sx ⟨K, H, F, R⟩ [] (env0 N ds) t { nx := fun _ H' => Q .non H', rt := Q }) :
    FnH P w K mg base CX0 (k + 1) f fd ps (spD K pre) := by
  obtain ⟨oc, od, kV, doc, pm, an, cdv, ct, osl, rfl, lk, hcd⟩ := Fn.ex
  refine fn_ofH lk hcd S (fun vs H Q E h => ?_) fun A outer s H vs Q E p hot hr h => ?_
  · obtain ⟨F, ds, R, o, hF, hv, hS, hp, post⟩ := h
    rw [hv.len]
    exact len ds R o hp
  · obtain ⟨F, ds, R, o, hF, hv, hS, hp, post⟩ := h
    obtain ⟨t, h1, h2⟩ := body ds R o hp cdv A outer s H E p hot hr
    exact ⟨t, h1.nox, enter hF hv hS (h2 F Q post)⟩
end
/-! a method called in a try, the slots known behind it -/
section
variable {X : Cx} {CX : CXT} {k : Nat} {f C : Addr} {fd : FuncData} {ps : List Str} {sp : Sp} {E : L2.St → XK} {m : Str} {pos apos : Pos} {e o : Expr} {es : List Expr} {ta : TE} {t : TA}
theorem pe_methW {pl : Sem Bool} (he : PE X o ta) (c : Cls X.K C) (hm : Meth X.K C m f) (Fn : FnOk X.prog X.w X.K X.mg X.base CX k f fd ps sp) (hr : Room k X.A) (hb : Binds X.K fd ps []) (hx : ∀ σ, PassesAt CX X σ (E σ)) (ha : PA X (e :: es) t)
    (hst : starEach (e :: es) X.env = (false, eval e X.env) :: starEach es X.env := by rfl) (hpl : (backTo pos (starEach es X.env)).any (·.1) = false := by rfl)
    (ht : eval (.Call (.Attribute o m apos) (e :: es) [] pos) X.env = (do
      let ov ← eval o X.env
      standAt apos.atName
      let (f, first) ← holding [ov] (getMethod ov m pl)
      callWith pos f first (backTo pos (starEach (e :: es) X.env)) (backToKw pos (keywordEach [] X.env))) := by rfl) : PE X (.Call (.Attribute o m apos) (e :: es) [] pos) (tMethH C m sp E ta t) := by
  constructor
  intro pins s σ H Q I h
  refine PySem.W.methodCall_KW (pl := pl) (thn (he.run pins s σ H _ I h) fun u s1 ⟨x, H1, I1, rx, a, dx, fs, ex, ea, l, q⟩ => ?_) ht
  subst ex
  obtain rfl : u = Value.ref a := rx
  refine getmeth_ok I1 ea c hm l ?_
  refine PySem.W.callWith_K (first := [.ref a]) (h₀ := X.base) I.ok.mod.kin hm.kp (thn (ha.run pos pins s1 σ H1 _ I1 q) fun us s2 ⟨vs, H2, I2, r, q2⟩ => ⟨I2.kIn, ?_⟩) hst hpl
  exact run_fnS (us := .ref a :: us) (vs := .ref a :: vs) Fn hr hb (hx σ) I2 (.cons rfl r) q2
end
section
variable {c : Ct} {G G' : Res} {ρ : En} {ta te : TE} {tr : TA} {d : D} {ds es : List D} {prm : PreM} {R A0 M M' B0 : Res} {Ew : L2.St → XK} {C Cx : Addr} {ks : List Str} {m : Str} {g : TG} {tz : TS} {En' : Ends}
/-- it raises, its slots as they were -/
def EvXS (c : Ct) (G : Res) (ρ : En) (te : TE) (C : Addr) (G' : Res) (Ew : L2.St → XK) : Prop := ∀ F σ H, At c G ρ F σ H → (∀ F' H', At c G' ρ F' σ H' → Ew σ (.ref C) none H') → ∀ Q : VK, te σ H Q
theorem m_methW (hG : G = A0 ++ (M ++ B0)) (hG' : G' = A0 ++ (M' ++ B0)) (h : EvP c G ρ ta (.ins C ks ds)) (hm : m ∉ ks) (ha : EvA c G ρ tr es) (hR : ∀ x ∈ R, x ∈ c.S ∨ x ∈ A0 ∨ x ∈ B0) (hp : prm (.ins C ks ds :: es) R M (Det (.ret d) M')) : EvM c G ρ (tMethH C m (spM c.K prm) Ew ta tr) d G' := fun F σ H A Q q => h F σ H A _ fun v F1 H1 g1 r1 => by
  subst hG hG'
  obtain ⟨a, dx, fs, rfl, h1, h2⟩ := ins_at g1.s r1 hm
  exact ⟨a, dx, fs, rfl, h1, h2, ha F1 σ H1 (A.on g1) _ fun vs F2 H2 g2 r2 => c_outM ((A.on g1).on g2) (.cons (r1.mono g2.f) r2) hR hp (post_ret ((A.on g1).on g2) q)⟩
theorem xs_methW (hG : G = A0 ++ (M ++ B0)) (hG' : G' = A0 ++ (M' ++ B0)) (h : EvP c G ρ ta (.ins C ks ds)) (hm : m ∉ ks) (ha : EvA c G ρ tr es) (hR : ∀ x ∈ R, x ∈ c.S ∨ x ∈ A0 ∨ x ∈ B0) (hp : prm (.ins C ks ds :: es) R M (Det (.exc Cx) M')) : EvXS c G ρ (tMethH C m (spM c.K prm) Ew ta tr) Cx G' Ew := fun F σ H A hE Q => h F σ H A _ fun v F1 H1 g1 r1 => by
  subst hG hG'
  obtain ⟨a, dx, fs, rfl, h1, h2⟩ := ins_at g1.s r1 hm
  exact ⟨a, dx, fs, rfl, h1, h2, ha F1 σ H1 (A.on g1) _ fun vs F2 H2 g2 r2 => c_outM ((A.on g1).on g2) (.cons (r1.mono g2.f) r2) hR hp (post_exc ((A.on g1).on g2) hE)⟩
theorem sx_asgXS (h : EvXS c G ρ te Cx G' Ew) (q : ∀ F' σ H', At c G' ρ F' σ H' → Ew σ (.ref Cx) none H') : Sx c G ρ (tAsg te g) En' := fun F σ H A => h F σ H A (fun F' H' A' => q F' σ H' A') _
end
end Ho

/-! within an except suite: a tuple taken apart -/
namespace Ho
open PySem PySem.Spec PyProof.Rows HotX L2 L2H
section
variable {prog : Program} {w : World} {A : Around} {E : Value → Shared → Prop} {s : Shared} {x1 it : Addr}
theorem tuple_code {l : Addr} {i : Nat} {items} {Q : PySem.Fin → Shared → Prop} (hot : HotAt A x1 s.heap) (hne : x1 ≠ it) (hit : s.heap.IsTupleIter it l i) (hl : s.heap.IsTuple l items) (hx : items[i]? = none)
    (hE : ∀ h' e, Heap.ExtBut it s.heap h' → (∃ o, h'.get? e = some o ∧ o.cls = .type "StopIteration") → E (.ref e) { s with heap := h' }) : wpAny (model prog w) A (Builtin.«tuple_iterator.__next__» ⟨[.ref it], []⟩) Q E s := by
  obtain ⟨o, ho, hc, hd⟩ := id hit
  obtain ⟨ol, hol, _, _, hdl⟩ := hl
  show wpAny _ _ (field (.ref it) 0 >>= _) _ _ s
  refine wpAny_bind (wpAny_field ho hd (x := .ref l) rfl ?_)
  show wpAny _ _ (if (Value.ref l == Value.none) = true then _ else _) _ _ s
  rw [if_neg (show ¬ ((Value.ref l == Value.none) = true) from Bool.false_ne_true)]
  show wpAny _ _ (field (.ref it) 1 >>= _) _ _ s
  refine wpAny_bind (wpAny_field ho hd (x := .int i 0) rfl ?_)
  show wpAny _ _ (seqItems? (.ref l) >>= _) _ _ s
  refine wpAny_bind (wpAny_seqItems hol hdl ?_)
  simp only [Int.toNat_natCast, hx]
  refine wpAny_bind (wpAny_rule (wpAny_bind (wpAny_setField ho hd (by simp) ?_)))
  refine stop_hot (hot_keep hot fun q e => (Heap.get?_update_other _ _ (Ne.symm hne)).trans e) fun h' e k so => hE h' e (fun b q hb e => ?_) so
  exact k b q ((Heap.get?_update_other _ _ (Ne.symm hb)).trans e)
theorem tuple_next {l : Addr} {i : Nat} {items} {Q : Option Value → Shared → Prop} (hot : HotAt A x1 s.heap) (hne : x1 ≠ it) (hit : s.heap.IsTupleIter it l i) (hl : s.heap.IsTuple l items) (hx : items[i]? = none)
    (hQ : ∀ h', Heap.ExtBut it s.heap h' → Q none { s with heap := h' }) : wpAny (model prog w) A (pyNext (.ref it)) Q E s := by
  unfold pyNext
  refine wpAny_bind (wpAny_attempt (wpAny_callSpecial?_slot (name := Str.ofString "__next__") hit.typeIs F.slot_tuple_iterator_next (wpAny_call_entry F.slot_tuple_iterator_next hit.typeIs F.entry_tuple_iterator_next (tuple_code (hot_in hot) hne hit hl hx fun h' e k ⟨o, ho, hc⟩ => ?_) (F.args_tuple_iterator_next_1 _))))
  exact wpAny_bind (wpAny_isInstance (T := "StopIteration") (b := true) ⟨o, ho, hc⟩ isSubtype_stop (wpAny_pure (hQ _ k)))
theorem assign_tupleH {env : Env} {elts : List Expr} {k : Nat} {pos : Pos} {t : Addr} {items : Array Value} {Q : Unit → Shared → Prop} (hot : HotAt A x1 s.heap) (ht : s.heap.IsTuple t items)
    (hn : (assignEach elts env).length = items.size) (hstar : (assignEach elts env).findIdx? (·.1) = none)
    (h : ∀ h', Heap.ExtBut s.heap.objs.size s.heap h' → wpAny (model prog w) A (assignInOrder ((assignEach elts env).map (·.2)) items.toList) Q E { s with heap := h' }) : wpAny (model prog w) A (assign (.Tuple elts k pos) env (.ref t)) Q E s := by
  have hlt : t ≠ s.heap.objs.size := by obtain ⟨o, ho, _⟩ := ht; exact Nat.ne_of_lt (Heap.lt_size ho)
  have hxl : x1 ≠ s.heap.objs.size := by obtain ⟨_, o, _, e, _⟩ := hot; exact Nat.ne_of_lt (Heap.lt_size e)
  rw [arm_assign_Tuple]
  refine wpAny_bind (wpAny_standAt ?_)
  unfold unpack
  rw [hn, hstar]
  refine wpAny_bind (wpAny_holding ?_)
  unfold unpackItems
  refine wpAny_bind ?_
  unfold notIterableAtAll
  refine wpAny_bind (wpAny_specialOf ht.typeIs F.slot_tuple_iter.lookup (wpAny_pure ?_))
  simp only [Bool.false_eq_true, if_false]
  refine wpAny_bind (wpAny_holding (wpAny_pyIter_tuple ht ?_))
  refine wpAny_bind (wpAny_holding (wpAny_draw_tuple hlt items.size 0 _ _ ⟨_, Heap.get?_push_size _ rfl, rfl, rfl⟩ (ht.push _) (by omega) fun h₁ hit₁ hs₁ => ?_))
  rw [show List.take items.size (List.drop 0 items.toList) = items.toList by rw [List.drop_zero]; exact List.take_of_length_le (by simp), if_neg (by simp)]
  refine wpAny_bind (wpAny_holding (tuple_next (hot_keep hot fun o e => (hs₁.2 x1 hxl).trans (Heap.get?_push_of_some _ e)) hxl hit₁ ((ht.push _).extBut hs₁.extBut hlt) (by simp) fun h₂ he₂ => ?_))
  simp only [Option.isSome_none, Bool.false_eq_true, if_false]
  exact wpAny_pure (h h₂ fun b o hb e => he₂ b o hb (hs₁.extBut b o hb (Heap.get?_push_of_some _ e)))
end
theorem pg_tupH {X : Cx} {es : List Expr} {k : Nat} {t : TGs} {n : Nat} {pos : Pos} (hc : HotC X) (h : PGs X es t) (hn : (assignEach es X.env).length = n := by rfl) (hst : (assignEach es X.env).findIdx? (·.1) = none := by rfl) : PG X (.Tuple es k pos) (gTup X.K n t) := by
  constructor
  intro pins s σ H v u Q I r hw
  obtain ⟨a, xs, e1, hq, hl, hw⟩ := hw
  subst e1
  cases r
  obtain ⟨its, rv, ht, hz⟩ := I.tuple hq
  obtain ⟨x1, hot⟩ := hc.at I
  refine assign_tupleH hot ht (by simp [hn, ← hl, rv.length]) hst fun h' hx => ?_
  exact h.run pins _ σ H xs _ Q (I.kept (t' := s.toks) fun b o e => hx b o (Nat.ne_of_lt (Heap.lt_size e)) e) (by simpa using rv) hw
end Ho

/-! within an except suite: raising, and taking it there -/
namespace Ho
open PySem PySem.Spec PyProof.Rows HotX L2 L2H Xg Dl
section
variable {X : Cx} {x : Str} {c : Value} {body suite : List Stmt} {b₀ : Stmt} {np pos pos' : Pos} {tb : WX → TS} {ts : Addr → Value → Option Addr → TS} {Wout : WX}
theorem no_frame {l : List Env} {B h : Heap} {a : Addr} {o : Obj} {vs : Array Value} (ff : h.FunFrames B l) (e : h.get? a = some o) (dd : o.data = .fields vs) : a ∉ frs l := fun hm => by
  obtain ⟨_, o', e', hnf⟩ := ff.mem hm
  rw [e] at e'
  cases e'
  exact hnf _ dd
/-- one clause; what the context looks at is looked at in the body, too -/
theorem ps_tryHO (hs : X.stack = X.env :: X.outer) (hf : X.env.frame = some X.env.locals) (hc : Names X x c) (tk : Takes X Wout)
    (hb : ∀ (W : WX) (pn : List (Addr × Obj)) (xe : Value → Shared → Prop), (∀ q ∈ X.pn, q ∈ pn) → Takes (X.tr pn xe) W → PassesOwn (model X.prog X.w) X.A X.env xe → PSs (X.tr pn xe) body (tb W))
    (hsu : ∀ (a : Addr) (oe : Obj) (cls : Value) (d : Option Addr) (pn : List (Addr × Obj)), Zc cls d oe → (∃ vs, oe.data = .fields vs) → PSs (X.suite a ((a, oe) :: pn)) (b₀ :: suite) (ts a cls d)) :
    PS X (.Try body [.ExceptHandler (some (.Name x np)) none (b₀ :: suite) pos'] [] [] pos) (fun D σ H => tb (wOnly X.K c ts Wout D) D σ H) := by
  constructor
  intro pins s σ H D I h
  have ok := I.ok
  have hfr : X.A.frames = some (X.env :: X.outer) := ok.frames.trans (by rw [hs])
  refine wpAny_Try_except ?_
  refine wpAny_mono ((hb (wOnly X.K c ts Wout D) (X.pn ++ pins) (fun e s₁ => wpAny (model X.prog X.w) X.A (noteFrame e X.env) (fun _ s₂ => wpAny (model X.prog X.w) X.A (setFlight e none) (fun _ s₃ =>
    wpAny (model X.prog X.w) X.A (handleBy e X.env [.ExceptHandler (some (.Name x np)) none (b₀ :: suite) pos']) (SP X pins D) X.xe s₃) X.xe s₂) X.xe s₁) (fun q hq => List.mem_append_left _ hq) (fun u s' xx => ?_) PassesOwn.looking).run [] s σ H D (I.toTry _) h) (fun f s1 hsp => ?_) (fun e s1 he => he)
  · obtain ⟨a, B, sI, pins', σ', H', cls, d, rfl, J', nb, up, sky, na, os, ag, b, hb1, hyes, hno⟩ := xx
    have J : L2.Inv X pins σ' H' sI := J'.ofTry ok
    have sky' : Sky B (X.env :: X.outer) a (Zc cls d) X.env.locals s'.heap := by rw [← hs]; exact sky
    show wpAny (model X.prog X.w) X.A (noteFrame (.ref a) X.env) _ _ _
    refine Sky.land Zc.steady hfr hf sky' fun h3 fl3 up3 => ?_
    have J3 : L2.Inv X pins σ' H' { s' with heap := h3 } := J.landed nb fl3.1 (up.trans up3) os ag
    obtain ⟨oe3, vs3, he3, hz3, hd3⟩ := fl3.there
    have nfr := no_frame fl3.2.2.1 he3 hd3
    have nL : a ≠ X.env.locals := fun z => nfr (List.mem_filterMap.mpr ⟨X.env, List.mem_cons_self, by rw [hf, z]⟩)
    have nF : a ∉ X.fs := fun hm => by
      obtain ⟨e, he, q⟩ := List.mem_filterMap.mp hm
      exact nfr (List.mem_filterMap.mpr ⟨e, List.mem_cons_of_mem _ he, q⟩)
    have S3 := J3.suite he3 hd3 na nL nF
    refine wpAny_handleBy_cons (codeAny_handlers_test ?_) (by intro q; cases q)
    have LT : PySem.W.Looks (model X.prog X.w) h3 (typeOf (.ref a)) cls := fun A Q E s k q => wpAny_typeOf_ref (k _ _ he3) (by rw [hz3.1]; exact q)
    have LM := PySem.W.exm_one (M := model X.prog X.w) (J3.kIn) LT hb1
    have test : ∀ {Q : Value → Shared → Prop} {E : Value → Shared → Prop}, Q c { s' with heap := h3 } → wpAny (model X.prog X.w) (X.A.mark (some (.ref a))) (eval (.Name x np) X.env) Q E { s' with heap := h3 } := fun {Q E} q => by
      obtain ⟨hg, hdbg, hm | ⟨hm, hv, hnn⟩⟩ := hc
      · exact ld_glob (X := X.suite a ((a, oe3) :: (X.pn ++ pins))) S3 hg hm q hdbg
      · exact ld_blt (X := X.suite a ((a, oe3) :: (X.pn ++ pins))) S3 hg hm hv q hnn hdbg
    refine test (LM.here ?_)
    cases b with
    | true =>
      refine codeAny_handlers_suite (HandSPX.lands_againZ fl3 fun h4 fl4 up4 => ?_)
      have J4 : L2.Inv X pins σ' H' { s' with heap := h4 } := J.landed nb fl4.1 ((up.trans up3).trans up4) os ag
      obtain ⟨oe4, vs4, he4, hz4, hd4⟩ := fl4.there
      refine wpAny_mono ((hsu a oe4 cls d (X.pn ++ pins) hz4 ⟨_, hd4⟩).run [] _ _ H' _ (J4.suite he4 hd4 na nL nF) (hyes rfl a na)) (fun f s6 hsp => ?_) (fun _ _ z => False.elim z)
      cases f with
      | next => obtain ⟨σ6, H6, S6, q6⟩ := hsp; exact ⟨_, _, S6.unsuite ok, q6⟩
      | brk => obtain ⟨σ6, H6, S6, q6⟩ := hsp; exact ⟨_, _, S6.unsuite ok, q6⟩
      | cont => obtain ⟨σ6, H6, S6, q6⟩ := hsp; exact ⟨_, _, S6.unsuite ok, q6⟩
      | ret u => obtain ⟨v6, σ6, H6, S6, r6, q6⟩ := hsp; exact ⟨_, _, _, S6.unsuite ok, r6, q6⟩
    | false =>
      show wpAny _ X.A (handleBy (.ref a) X.env []) _ _ _
      refine wpAny_handleBy_nil ?_
      obtain ⟨k1, k2, k3, oe, vs, T, oT, ts', he, hz, hd, h1, hr⟩ := id fl3
      unfold PySem.passOn
      refine wpAny_bind (wpAny_field he hd h1 ?_)
      rw [if_neg (show ¬ ((Value.ref T == Value.none) = true) from by simp)]
      have fin : wpAny (model X.prog X.w) X.A (setFlight (.ref a) X.env.frame) (fun _ s4 => wpAny (model X.prog X.w) X.A (throw (.ref a) : Sem Flow) (SP X pins D) X.xe s4) X.xe { s' with heap := h3 } := by
        rw [hf]
        refine HandSPX.setFlight_upZ fl3 fun h4 hh4 up4 => wpAny_throw (tk _ _ ⟨a, B, sI, pins, σ', H', cls, d, rfl, J, nb, (up.trans up3).trans up4, .inr (.inr (by rw [hs]; exact hh4)), na, os, ag, hno rfl⟩)
      first
        | exact wpAny_bind (wpAny_pure (wpAny_bind fin))
        | exact wpAny_bind fin
  · cases f with
    | next => obtain ⟨σ', H', J', q⟩ := hsp; exact wpAny_execs_nil ⟨σ', H', J'.ofTry ok, q⟩
    | brk => obtain ⟨σ', H', J', q⟩ := hsp; exact ⟨σ', H', J'.ofTry ok, q⟩
    | cont => obtain ⟨σ', H', J', q⟩ := hsp; exact ⟨σ', H', J'.ofTry ok, q⟩
    | ret u => obtain ⟨v, σ', H', J', r, q⟩ := hsp; exact ⟨v, σ', H', J'.ofTry ok, r, q⟩
theorem hot_try {p : Addr × Obj} {pn : List (Addr × Obj)} {xe : Value → Shared → Prop} (h : Hot1 X.A p) (hp : p ∈ pn) : HotC (X.tr pn xe) := ⟨p, h, hp⟩
theorem ps_raiseDH {W : WX} {C : Addr} {e : Expr} (hc : HotC X) (tk : Takes X W) (he : L2N.PMk X e (fun _ H Q => Q (.ref C) none H)) : PS X (.Raise (some e) none pos) (tRaiseD W C) := ps_raiseH hc tk he
end
section
variable {P : Program} {w : World} {K : PySem.W.Frag} {mg : Str → Option Value} {base : Heap}
/-- a def that may raise there -/
theorem fnOkHX {x qual : Str} {st : Stmt} {f : Addr} {fd : FuncData} {N ps : List Str} {k : Nat} {pre : Pre} (Fn : Fun K x qual st f fd) (S : FnScope N ps (defScope st)) (len : ∀ ds R o, pre ds R o → ds.length = ps.length)
    (body : ∀ ds R o, pre ds R o → ∀ (cdv : Value) (A : Around) (outer : List Env) (s : Shared) (H : Hp) (E : XK) (p : Addr × Obj), Hot1 A p → RoomH k (A.deeper (envOfC qual (defScope st) s.heap.objs.size f cdv)) →
      ∃ t, PSs (cxH (L2.CX P w) P w K mg base N qual (defScope st) f cdv A outer s H E p) (defBody st) t ∧ ∀ (F : Hp) (Q : VK), Post K F H o Q E → Sx ⟨K, H, F, R⟩ [] (env0 N ds) t { nx := fun _ H' => Q .non H', rt := Q }) :
    FnH P w K mg base (L2.CX P w) (k + 1) f fd ps (spD K pre) := by
  obtain ⟨oc, od, kV, doc, pm, an, cdv, ct, osl, rfl, lk, hcd⟩ := Fn.ex
  refine fn_ofH lk hcd S (fun vs H Q E h => ?_) fun A outer s H vs Q E p hot hr h => ?_
  · obtain ⟨F, ds, R, o, hF, hv, hS, hp, post⟩ := h
    rw [hv.len]
    exact len ds R o hp
  · obtain ⟨F, ds, R, o, hF, hv, hS, hp, post⟩ := h
    obtain ⟨t, h1, h2⟩ := body ds R o hp cdv A outer s H E p hot hr
    exact ⟨t, h1, enter hF hv hS (h2 F Q post)⟩
end
/-! of two contracts, in a try -/
section
variable {c : Ct} {G G' : Res} {ρ : En} {ta : TE} {tr : TA} {d : D} {ds es : List D} {prm : PreM} {R A0 M M' B0 : Res} {Ew : L2.St → XK} {C Cx : Addr} {ks : List Str} {m : Str} {sp : Sp}
theorem m_methWU (hs0 : ∀ vs H Q E, spM c.K prm vs H Q E → sp vs H Q E) (hG : G = A0 ++ (M ++ B0)) (hG' : G' = A0 ++ (M' ++ B0)) (h : EvP c G ρ ta (.ins C ks ds)) (hm : m ∉ ks) (ha : EvA c G ρ tr es) (hR : ∀ x ∈ R, x ∈ c.S ∨ x ∈ A0 ∨ x ∈ B0) (hp : prm (.ins C ks ds :: es) R M (Det (.ret d) M')) : EvM c G ρ (tMethH C m sp Ew ta tr) d G' := fun F σ H A Q q => h F σ H A _ fun v F1 H1 g1 r1 => by
  subst hG hG'
  obtain ⟨a, dx, fs, rfl, h1, h2⟩ := ins_at g1.s r1 hm
  exact ⟨a, dx, fs, rfl, h1, h2, ha F1 σ H1 (A.on g1) _ fun vs F2 H2 g2 r2 => hs0 _ _ _ _ (c_outM ((A.on g1).on g2) (.cons (r1.mono g2.f) r2) hR hp (post_ret ((A.on g1).on g2) q))⟩
theorem xs_methWU (hs0 : ∀ vs H Q E, spM c.K prm vs H Q E → sp vs H Q E) (hG : G = A0 ++ (M ++ B0)) (hG' : G' = A0 ++ (M' ++ B0)) (h : EvP c G ρ ta (.ins C ks ds)) (hm : m ∉ ks) (ha : EvA c G ρ tr es) (hR : ∀ x ∈ R, x ∈ c.S ∨ x ∈ A0 ∨ x ∈ B0) (hp : prm (.ins C ks ds :: es) R M (Det (.exc Cx) M')) : EvXS c G ρ (tMethH C m sp Ew ta tr) Cx G' Ew := fun F σ H A hE Q => h F σ H A _ fun v F1 H1 g1 r1 => by
  subst hG hG'
  obtain ⟨a, dx, fs, rfl, h1, h2⟩ := ins_at g1.s r1 hm
  exact ⟨a, dx, fs, rfl, h1, h2, ha F1 σ H1 (A.on g1) _ fun vs F2 H2 g2 r2 => hs0 _ _ _ _ (c_outM ((A.on g1).on g2) (.cons (r1.mono g2.f) r2) hR hp (post_exc ((A.on g1).on g2) hE))⟩
end
def tTryH (K : PySem.W.Frag) (cv : Value) (tb : WX → TS) (tsu : Addr → Value → Option Addr → TS) (Wout : WX) : TS := fun D σ H => tb (wOnly K cv tsu Wout D) D σ H
theorem ps_tryHD {X : Cx} {x : Str} {c : Value} {body suite : List Stmt} {b₀ : Stmt} {np pos pos' : Pos} {tb : WX → TS} {ts : Addr → Value → Option Addr → TS} {Wout : WX} (hs : X.stack = X.env :: X.outer) (hf : X.env.frame = some X.env.locals) (hc : Names X x c) (tk : Takes X Wout)
    (hb : ∀ (W : WX) (pn : List (Addr × Obj)) (xe : Value → Shared → Prop), (∀ q ∈ X.pn, q ∈ pn) → Takes (X.tr pn xe) W → PassesOwn (model X.prog X.w) X.A X.env xe → PSs (X.tr pn xe) body (tb W))
    (hsu : ∀ (a : Addr) (oe : Obj) (cls : Value) (d : Option Addr) (pn : List (Addr × Obj)), Zc cls d oe → (∃ vs, oe.data = .fields vs) → PSs (X.suite a ((a, oe) :: pn)) (b₀ :: suite) (ts a cls d)) :
    PS X (.Try body [.ExceptHandler (some (.Name x np)) none (b₀ :: suite) pos'] [] [] pos) (tTryH X.K c tb ts Wout) := ps_tryHO hs hf hc tk hb hsu
theorem sx_tryH {c : Ct} {G : Res} {ρ : En} {E : Ends} {K : PySem.W.Frag} {cv : Value} {tb : WX → TS} {tsu : Addr → Value → Option Addr → TS} {Wout : WX} (h : Sx c G ρ (tb (wOnly K cv tsu Wout E)) E) : Sx c G ρ (tTryH K cv tb tsu Wout) E := h
theorem w_hotO {K : PySem.W.Frag} {cv : Value} {tsu : Addr → Value → Option Addr → TS} {Wout : WX} {X : Addr} {D : Ends} {σ : L2.St} {H : Hp} (e : PySem.W.exmOne K (.ref X) cv = some true) (q : ∀ a, H a = none → tsu a (.ref X) none D σ H) : wOnly K cv tsu Wout D (.ref X) none σ H := Dl.w_only e q
end Ho

/-! the reading of expressions over data, by rules -/
local macro_rules | `(tactic| walk_at "mem") => `(tactic| first
  | assumption
  | exact Or.inr List.mem_cons_self
  | exact Or.inr (List.mem_cons_of_mem _ List.mem_cons_self)
  | exact Or.inr (List.mem_cons_of_mem _ (List.mem_cons_of_mem _ List.mem_cons_self))
  | exact Or.inr (List.mem_cons_of_mem _ (List.mem_cons_of_mem _ (List.mem_cons_of_mem _ List.mem_cons_self)))
  | exact Or.inl (by assumption)
  | exact Or.inl List.mem_cons_self
  | exact Or.inl (List.mem_cons_of_mem _ List.mem_cons_self))
local macro_rules | `(tactic| walk_at "scr") => `(tactic| ((with_reducible apply Dl.EvS.res); (focus ((with_reducible apply Dl.p_var) <;> (exact rfl))); (focus (walk_at "mem"))))
local macro_rules | `(tactic| walk_at "pv") => `(tactic| first
  | ((with_reducible apply Dl.p_var) <;> (exact rfl))
  | (with_reducible exact Dl.p_int)
  | (with_reducible exact Dl.p_str)
  | (with_reducible exact Dl.p_bl)
  | (with_reducible exact Dl.p_non)
  | (with_reducible exact Dl.p_ty)
  | ((with_reducible apply Dl.s_arg); (focus ((with_reducible apply Dl.p_var) <;> (exact rfl))); (focus assumption); (focus (first | assumption | exact fun _ h => h)))
  | ((with_reducible apply Dl.EvS.res); (focus ((with_reducible apply Dl.p_var) <;> (exact rfl))); (focus (walk_at "mem")))
  | ((with_reducible apply Dl.p_opI) <;> (try walk_at "pv"))
  | ((with_reducible apply Dl.p_opB) <;> (try walk_at "pv"))
  | ((with_reducible apply Dl.p_opC) <;> (try walk_at "pv"))
  | ((with_reducible apply Dl.p_neg) <;> (try walk_at "pv"))
  | ((with_reducible apply Dl.p_eqI); (focus (walk_at "pv")); (focus (walk_at "pv")))
  | ((with_reducible apply Dl.p_neI); (focus (walk_at "pv")); (focus (walk_at "pv")))
  | ((with_reducible apply Dl.p_eqS); (focus (walk_at "pv")); (focus (walk_at "pv")))
  | ((with_reducible apply Dl.p_neS); (focus (walk_at "pv")); (focus (walk_at "pv")))
  | ((with_reducible apply Dl.p_eqB); (focus (walk_at "pv")); (focus (walk_at "pv")))
  | ((with_reducible apply Dl.p_neB); (focus (walk_at "pv")); (focus (walk_at "pv")))
  | ((with_reducible apply Dl.p_cat) <;> (try walk_at "pv"))
  | ((with_reducible apply Dl.p_isN) <;> (try walk_at "pv"))
  | ((with_reducible apply Dl.p_notN) <;> (try walk_at "pv"))
  | ((with_reducible apply Dl.p_ixScr); (focus (walk_at "scr")); (focus (walk_at "pv")); (try walk_at "pv"))
  | ((with_reducible apply Dl.p_ixL) <;> (try walk_at "pv"))
  | ((with_reducible apply Dl.p_ixT) <;> (try walk_at "pv"))
  | ((with_reducible apply Dl.p_ixS) <;> (try walk_at "pv"))
  | ((with_reducible apply Dl.t_test) <;> (try walk_at "pv"))
  | ((with_reducible apply Dl.t_B) <;> (try walk_at "pv"))
  | ((with_reducible apply Dl.t_not) <;> (try walk_at "pv"))
  | ((with_reducible apply Dl.t_and) <;> (try walk_at "pv"))
  | ((with_reducible apply Dl.t_or) <;> (try walk_at "pv"))
  | (with_reducible exact Dl.t_yes)
  | ((with_reducible apply Dl.p_andV) <;> (try walk_at "pv"))
  | ((with_reducible apply Dl.p_orV) <;> (try walk_at "pv"))
  | ((with_reducible apply Dl.p_notV) <;> (try walk_at "pv"))
  | ((with_reducible apply Dl.p_chainI) <;> (try walk_at "pv"))
  | ((with_reducible apply Dl.a_cons) <;> (try walk_at "pv"))
  | (with_reducible exact Dl.a_nil)
  | ((with_reducible apply Dl.p_tup) <;> (try walk_at "pv"))
  | ((with_reducible apply Dl.p_spot) <;> (try walk_at "pv"))
  | ((with_reducible apply Dl.p_run) <;> (try walk_at "pv"))
  | ((with_reducible apply Dl.n_lst) <;> (try walk_at "pv"))
  | (with_reducible exact Dl.o_none)
  | ((with_reducible apply Dl.o_some) <;> (try walk_at "pv"))
  | ((with_reducible apply Dl.p_lenScr); (focus (walk_at "scr")))
  | ((with_reducible apply Dl.p_lenT); (focus (walk_at "pv")))
  | ((with_reducible apply Dl.p_lenL) <;> (try walk_at "pv"))
  | ((with_reducible apply Dl.p_lenS) <;> (try walk_at "pv"))
  | (with_reducible exact Dl.n_dnewT)
  | ((with_reducible apply Dl.p_lenTd) <;> (try walk_at "pv"))
  | ((with_reducible apply Dl.p_dinT) <;> (try walk_at "pv"))
  | ((with_reducible apply Dl.p_dninT) <;> (try walk_at "pv"))
  | ((with_reducible apply Dl.p_get1T) <;> (try walk_at "pv"))
  | ((with_reducible apply Dl.p_get2T) <;> (try walk_at "pv"))
  | ((with_reducible apply Dl.p_neTd) <;> (try walk_at "pv"))
  | ((with_reducible apply Dl.n_copyT) <;> (try walk_at "pv"))
  | ((with_reducible apply Dl.p_abs) <;> (try walk_at "pv"))
  | ((with_reducible apply Dl.p_max2) <;> (try walk_at "pv"))
  | ((with_reducible apply Dl.p_min2) <;> (try walk_at "pv"))
  | ((with_reducible apply Dl.p_sumF) <;> (try walk_at "pv"))
  | ((with_reducible apply Dl.p_minF); (focus (walk_at "pv")); (try assumption))
  | ((with_reducible apply Dl.p_maxF); (focus (walk_at "pv")); (try assumption))
  | ((with_reducible apply Dl.p_allF) <;> (try walk_at "pv"))
  | ((with_reducible apply Dl.n_list) <;> (try walk_at "pv"))
  | ((with_reducible apply Dl.n_cat) <;> (try walk_at "pv"))
  | ((with_reducible apply Dl.n_slL) <;> (try walk_at "pv"))
  | ((with_reducible apply Dl.p_slS) <;> (try walk_at "pv"))
  | ((with_reducible apply Dl.p_slT) <;> (try walk_at "pv"))
  | ((with_reducible apply Dl.p_isi); (focus (walk_at "pv")); (focus (walk_at "pv")); (focus (first | exact (rfl : _ = "int") | exact (rfl : _ = "str") | exact (rfl : _ = "list") | exact (rfl : _ = "tuple") | exact (rfl : _ = "bool") | exact (rfl : _ = "NoneType"))); (focus (exact ⟨by decide, by decide⟩)); (focus (with_reducible (first | exact Dl.kit_NoneType_bool | exact Dl.kit_NoneType_int | exact Dl.kit_NoneType_str | exact Dl.kit_NoneType_list | exact Dl.kit_NoneType_tuple | exact Dl.kit_bool_bool | exact Dl.kit_bool_int | exact Dl.kit_bool_str | exact Dl.kit_bool_list | exact Dl.kit_bool_tuple | exact Dl.kit_int_bool | exact Dl.kit_int_int | exact Dl.kit_int_str | exact Dl.kit_int_list | exact Dl.kit_int_tuple | exact Dl.kit_str_bool | exact Dl.kit_str_int | exact Dl.kit_str_str | exact Dl.kit_str_list | exact Dl.kit_str_tuple | exact Dl.kit_list_bool | exact Dl.kit_list_int | exact Dl.kit_list_str | exact Dl.kit_list_list | exact Dl.kit_list_tuple | exact Dl.kit_tuple_bool | exact Dl.kit_tuple_int | exact Dl.kit_tuple_str | exact Dl.kit_tuple_list | exact Dl.kit_tuple_tuple))))
  | ((with_reducible apply Dl.p_count) <;> (try walk_at "pv"))
  | ((with_reducible apply Dl.p_find) <;> (try walk_at "pv"))
  | ((with_reducible apply Dl.p_joinF) <;> (try walk_at "pv"))
  | ((with_reducible apply Dl.p_inL) <;> (try walk_at "pv"))
  | ((with_reducible apply Dl.p_inT) <;> (try walk_at "pv"))
  | ((with_reducible apply Dl.p_eqD) <;> (try walk_at "pv"))
  | ((with_reducible apply Dl.p_neD) <;> (try walk_at "pv"))
  | ((with_reducible apply Dl.i_arg); (focus ((with_reducible apply Dl.p_var) <;> (exact rfl))); (focus assumption); (focus (first | assumption | exact fun _ h => h)))
  | ((with_reducible apply Dl.i_list) <;> (try walk_at "pv"))
  | ((with_reducible apply Dl.i_listG); (focus ((with_reducible apply Dl.p_var) <;> (exact rfl))); (focus (first | exact List.mem_cons_self | exact List.mem_cons_of_mem _ List.mem_cons_self | exact List.mem_cons_of_mem _ (List.mem_cons_of_mem _ List.mem_cons_self) | assumption)))
  | ((with_reducible apply Dl.i_listS); (focus ((with_reducible apply Dl.p_var) <;> (exact rfl))); (focus (first | assumption | exact List.mem_cons_self | exact List.mem_cons_of_mem _ List.mem_cons_self)))
  | ((with_reducible apply Dl.i_range1m) <;> (try walk_at "pv"))
  | ((with_reducible apply Dl.i_range2m) <;> (try walk_at "pv"))
  | ((with_reducible apply Dl.i_range1) <;> (try walk_at "pv"))
  | ((with_reducible apply Dl.i_range2) <;> (try walk_at "pv"))
  | ((with_reducible apply Dl.i_str) <;> (try walk_at "pv"))
  | ((with_reducible apply Dl.i_enum) <;> (try walk_at "pv"))
  | ((with_reducible apply Dl.i_enumS) <;> (try walk_at "pv"))
  | (with_reducible exact Dl.g_name)
  | (with_reducible exact Dl.g_nil)
  | ((with_reducible apply Dl.g_cons) <;> (try walk_at "pv"))
  | ((with_reducible apply Dl.g_tupE); (focus (exact rfl)); (focus (walk_at "pv")); exact rfl)
  | ((with_reducible apply Dl.n_map) <;> (try walk_at "pv"))
  | ((with_reducible apply Dl.n_lc) <;> (try walk_at "pv"))
  | ((with_reducible change Dl.Imp _ _); intro hImp; first | (exact (absurd hImp (by decide) : Dl.EvT _ _ _ _ true)) | (exact (absurd hImp (by decide) : Dl.EvP _ _ _ _ (.bl true))) | (exact absurd hImp (by decide)) | (walk_at "pv"))
  | (with_reducible exact Dl.May.self)
  | ((with_reducible apply Dl.May.res); walk_at "mem")
  | (show (_ ∈ (_ : Dl.Res)) ∨ (_ ∈ (_ : Dl.Res)); walk_at "mem")
  | (show ∀ j ∈ (_ : List Nat), j ∈ (_ : List Nat); decide)
  | (show ∀ x ∈ (_ : Dl.Res), x ∈ (_ : Dl.Res); first | (intro _ hx; exact nomatch hx) | (intro _ hx; exact hx) | (simp; done))
  | ((with_reducible intro _); walk_at "pv")
  | ((with_reducible apply Dl.EvP.toS); walk_at "pv")
  | ((with_reducible apply Dl.EvN.toP); walk_at "pv")
  | (with_reducible exact Dl.at_0)
  | (with_reducible exact Dl.at_1)
  | (with_reducible exact Dl.at_2)
  | (with_reducible exact Dl.at_3)
  | (show Bool; exact true)
  | walk_at "sd")
local macro_rules | `(tactic| walk_at "sd") => `(tactic| (show (_ : Prop); first
  | assumption
  | (exact ⟨by decide, by decide⟩)
  | (exact Or.inr ⟨by decide, by decide⟩)
  | (exact Or.inr ⟨by omega, by omega⟩)
  | (exact Or.inl ⟨by omega, by omega⟩)
  | decide
  | omega
  | (constructor <;> omega)
  | (simp only [List.length_range, List.length_map]; omega)
  | (show List.length (_ :: _) ≤ 100000; simp; done)
  | (exact rfl)))
local macro_rules | `(tactic| walk_at "nrm") => `(tactic| (try simp only [List.set_cons_zero, List.set_cons_succ, List.set_nil, Dl.wipeE]))
local macro_rules | `(tactic| walk_at "go") => `(tactic| ((try dsimp only [L2.cxOf, L2.Cx.nox, L2.Cx.wish]); (try simp only [Dl.env0, List.map_cons, List.map_nil, List.cons_append, List.nil_append, List.append_nil, List.length_cons, List.length_nil, List.replicate_succ, List.replicate_zero, Nat.reduceAdd, Nat.reduceSub, Nat.zero_add, Nat.sub_self])))
local macro_rules | `(tactic| walk_at "asg") => `(tactic| (apply Dl.sx_asg; (focus (walk_at "pv")); walk_at "nrm"))
local macro_rules | `(tactic| walk_at "asgT") => `(tactic| (apply Dl.sx_asgT; (focus (walk_at "pv")); (focus (walk_at "pv")); walk_at "nrm"))
local macro_rules | `(tactic| walk_at "own") => `(tactic| (apply Dl.sx_own; (focus (walk_at "pv")); walk_at "nrm"))
local macro_rules | `(tactic| walk_at "when") => `(tactic| (apply Dl.sx_when; (focus (walk_at "pv"))))
local macro_rules | `(tactic| walk_at "if") => `(tactic| (apply Dl.sx_if; (focus (walk_at "pv"))))
local macro_rules | `(tactic| walk_at "if1") => `(tactic| (apply Dl.sx_if1; (focus (walk_at "pv"))))
local macro_rules | `(tactic| walk_at "skip") => `(tactic| (apply Dl.sx_skip; apply Dl.EvT.is; (focus (walk_at "pv"))))
local macro_rules | `(tactic| walk_at "le") => `(tactic| (repeat (first | exact True.intro | (refine And.intro rfl ?_))))
local macro_rules | `(tactic| walk_at "app") => `(tactic| (first | (apply Dl.sx_app 0; (focus (walk_at "pv")); exact rfl; (focus (walk_at "pv"))) | (apply Dl.sx_app 1; (focus (walk_at "pv")); exact rfl; (focus (walk_at "pv"))) | (apply Dl.sx_app 2; (focus (walk_at "pv")); exact rfl; (focus (walk_at "pv"))); walk_at "nrm"))
local macro_rules | `(tactic| walk_at "putT") => `(tactic| (first | (apply Dl.sx_dputT 0; (focus (walk_at "pv")); (focus (walk_at "pv")); (focus (walk_at "pv")); exact rfl) | (apply Dl.sx_dputT 1; (focus (walk_at "pv")); (focus (walk_at "pv")); (focus (walk_at "pv")); exact rfl) | (apply Dl.sx_dputT 2; (focus (walk_at "pv")); (focus (walk_at "pv")); (focus (walk_at "pv")); exact rfl)))
local macro_rules | `(tactic| walk_at "may") => `(tactic| (first | exact Dl.May.self | (apply Dl.May.res; walk_at "mem")))
local macro_rules | `(tactic| walk_at "end") => `(tactic| (apply Dl.sx_end rfl))
local macro_rules | `(tactic| walk_at "last") => `(tactic| (apply Dl.Sx.last))
local macro_rules | `(tactic| walk_at "into") => `(tactic| (apply Dl.sx_into))
local macro_rules | `(tactic| walk_at "ret") => `(tactic| (apply Dl.sx_retE; (focus assumption); (focus (walk_at "pv"))))
local macro_rules | `(tactic| walk_at "retN") => `(tactic| (apply Dl.sx_retN; (focus (walk_at "pv")); assumption))
/-! more rules: tables of names, methods, calls that change -/
local macro_rules | `(tactic| walk_at "pv") => `(tactic| first
  | (with_reducible exact Dl.n_dnewK)
  | ((with_reducible apply Dl.p_dinK); (focus (walk_at "pv")); (focus (walk_at "pv")))
  | ((with_reducible apply Dl.p_dninK); (focus (walk_at "pv")); (focus (walk_at "pv")))
  | ((with_reducible apply Dl.p_getK); (focus (walk_at "pv")); (focus (walk_at "pv")); (try assumption))
  | ((with_reducible apply Dl.p_lenK); (focus (walk_at "pv")))
  | ((with_reducible apply Dl.n_listK); (focus (walk_at "pv")))
  | ((with_reducible apply Dl.t_truL); (focus (walk_at "pv")))
  | ((with_reducible apply Dl.p_inS); (focus (walk_at "pv")); (focus (walk_at "pv")))
  | ((with_reducible apply Dl.p_ninS); (focus (walk_at "pv")); (focus (walk_at "pv")))
  | ((with_reducible apply Dl.p_fmtI) <;> (try walk_at "pv"))
  | ((with_reducible apply Dl.p_strI) <;> (try walk_at "pv"))
  | ((with_reducible apply Dl.p_intB) <;> (try walk_at "pv"))
  | ((with_reducible apply Dl.p_join') <;> (try walk_at "pv"))
  | (with_reducible exact Dl.Pts.nil)
  | ((with_reducible apply Dl.Pts.cons) <;> (try walk_at "pv"))
  | ((with_reducible apply Dl.p_index); (focus (walk_at "pv")); (focus (walk_at "pv")); (try assumption)))
local macro_rules | `(tactic| walk_at "fall") => `(tactic| (apply Dl.sx_fall))
local macro_rules | `(tactic| walk_at "call") => `(tactic| (apply Dl.sx_drop; (focus (walk_at "pv"))))
local macro_rules | `(tactic| walk_at "putK") => `(tactic| (first | (apply Dl.sx_dputK 0; (focus (walk_at "pv")); (focus (walk_at "pv")); (focus (walk_at "pv")); exact rfl) | (apply Dl.sx_dputK 1; (focus (walk_at "pv")); (focus (walk_at "pv")); (focus (walk_at "pv")); exact rfl) | (apply Dl.sx_dputK 2; (focus (walk_at "pv")); (focus (walk_at "pv")); (focus (walk_at "pv")); exact rfl)))
/-! more rules of k08 -/
namespace Lw
open PySem PySem.Spec PyProof.Rows L2 Dl
/-! the text by places, the names' places, what the top has written -/
def topS (i : Nat) : Stmt := PySem.Challenge.pw_seatplan_k05_a_group_sits.main.body.getD i (.Pass ⟨0, 0, 0, 0⟩)
abbrev s_need_hall : Stmt := topS 18
theorem sc_need_hall : FnScope ["rows", "signs"] ["rows"] (defScope s_need_hall) := ⟨rfl, rfl, rfl, by decide +kernel, rfl, by decide +kernel, by decide +kernel⟩
abbrev s_need_row : Stmt := topS 19
theorem sc_need_row : FnScope ["signs", "sign"] ["signs"] (defScope s_need_row) := ⟨rfl, rfl, rfl, by decide +kernel, rfl, by decide +kernel, by decide +kernel⟩
abbrev s_blocks_of : Stmt := topS 20
theorem sc_blocks_of : FnScope ["rows", "blocks", "row", "signs"] ["rows"] (defScope s_blocks_of) := ⟨rfl, rfl, rfl, by decide +kernel, rfl, by decide +kernel, by decide +kernel⟩
abbrev s_blocks_of_row : Stmt := topS 21
theorem sc_blocks_of_row : FnScope ["row", "signs", "blocks", "many", "place", "sign"] ["row", "signs"] (defScope s_blocks_of_row) := ⟨rfl, rfl, rfl, by decide +kernel, rfl, by decide +kernel, by decide +kernel⟩
abbrev s_is_seat : Stmt := topS 22
theorem sc_is_seat : FnScope ["rows", "row", "place"] ["rows", "row", "place"] (defScope s_is_seat) := ⟨rfl, rfl, rfl, by decide +kernel, rfl, by decide +kernel, by decide +kernel⟩
abbrev s_is_name : Stmt := topS 27
theorem sc_is_name : FnScope ["name", "sign"] ["name"] (defScope s_is_name) := ⟨rfl, rfl, rfl, by decide +kernel, rfl, by decide +kernel, by decide +kernel⟩
abbrev s_need_name : Stmt := topS 28
theorem sc_need_name : FnScope ["name"] ["name"] (defScope s_need_name) := ⟨rfl, rfl, rfl, by decide +kernel, rfl, by decide +kernel, by decide +kernel⟩
abbrev s_need_size : Stmt := topS 29
theorem sc_need_size : FnScope ["size"] ["size"] (defScope s_need_size) := ⟨rfl, rfl, rfl, by decide +kernel, rfl, by decide +kernel, by decide +kernel⟩
abbrev s_runs_of : Stmt := topS 31
theorem sc_runs_of : FnScope ["rows", "taken"] ["rows", "taken"] (defScope s_runs_of) := ⟨rfl, rfl, rfl, by decide +kernel, rfl, by decide +kernel, by decide +kernel⟩
abbrev s_with_taken : Stmt := topS 32
theorem sc_with_taken : FnScope ["rows", "taken", "sign", "shown", "row", "signs", "places", "place"] ["rows", "taken", "sign"] (defScope s_with_taken) := ⟨rfl, rfl, rfl, by decide +kernel, rfl, by decide +kernel, by decide +kernel⟩
abbrev s_fitting : Stmt := topS 33
theorem sc_fitting : FnScope ["runs", "size", "best", "run"] ["runs", "size"] (defScope s_fitting) := ⟨rfl, rfl, rfl, by decide +kernel, rfl, by decide +kernel, by decide +kernel⟩
abbrev s_spots_of : Stmt := topS 34
theorem sc_spots_of : FnScope ["row", "first", "many", "place"] ["row", "first", "many"] (defScope s_spots_of) := ⟨rfl, rfl, rfl, by decide +kernel, rfl, by decide +kernel, by decide +kernel⟩
abbrev s_Plan__init : Stmt := inClass (topS 36) 0
theorem sc_Plan__init : FnScope ["self", "rows"] ["self", "rows"] (defScope s_Plan__init) := ⟨rfl, rfl, rfl, by decide +kernel, rfl, by decide +kernel, by decide +kernel⟩
abbrev s_Plan_sit : Stmt := inClass (topS 36) 1
theorem sc_Plan_sit : FnScope ["self", "name", "size"] ["self", "name", "size"] (defScope s_Plan_sit) := ⟨rfl, rfl, rfl, by decide +kernel, rfl, by decide +kernel, by decide +kernel⟩
abbrev s_Plan_party : Stmt := inClass (topS 36) 2
theorem sc_Plan_party : FnScope ["self", "pairs", "run", "come", "name", "spots", "size"] ["self", "pairs"] (defScope s_Plan_party) := ⟨rfl, rfl, rfl, by decide +kernel, rfl, by decide +kernel, by decide +kernel⟩
abbrev s_Plan_free : Stmt := inClass (topS 36) 7
theorem sc_Plan_free : FnScope ["self"] ["self"] (defScope s_Plan_free) := ⟨rfl, rfl, rfl, by decide +kernel, rfl, by decide +kernel, by decide +kernel⟩
abbrev s_Plan_groups : Stmt := inClass (topS 36) 9
theorem sc_Plan_groups : FnScope ["self", "name", "spots"] ["self"] (defScope s_Plan_groups) := ⟨rfl, rfl, rfl, by decide +kernel, rfl, by decide +kernel, by decide +kernel⟩
abbrev s_Plan_seats : Stmt := inClass (topS 36) 10
theorem sc_Plan_seats : FnScope ["self", "name"] ["self", "name"] (defScope s_Plan_seats) := ⟨rfl, rfl, rfl, by decide +kernel, rfl, by decide +kernel, by decide +kernel⟩
abbrev s_Plan_who : Stmt := inClass (topS 36) 11
theorem sc_Plan_who : FnScope ["self", "row", "place"] ["self", "row", "place"] (defScope s_Plan_who) := ⟨rfl, rfl, rfl, by decide +kernel, rfl, by decide +kernel, by decide +kernel⟩
abbrev s_Plan_taken : Stmt := inClass (topS 36) 12
theorem sc_Plan_taken : FnScope ["self", "name", "spots", "spot"] ["self"] (defScope s_Plan_taken) := ⟨rfl, rfl, rfl, by decide +kernel, rfl, by decide +kernel, by decide +kernel⟩
abbrev s_Plan_settle : Stmt := inClass (topS 36) 13
theorem sc_Plan_settle : FnScope ["self", "name", "spots", "taken", "spot"] ["self", "name", "spots"] (defScope s_Plan_settle) := ⟨rfl, rfl, rfl, by decide +kernel, rfl, by decide +kernel, by decide +kernel⟩
abbrev s_Plan_do : Stmt := inClass (topS 36) 14
theorem sc_Plan_do : FnScope ["self", "at", "gone", "come"] ["self", "at", "gone", "come"] (defScope s_Plan_do) := ⟨rfl, rfl, rfl, by decide +kernel, rfl, by decide +kernel, by decide +kernel⟩
abbrev s_Plan_need_new : Stmt := inClass (topS 36) 15
theorem sc_Plan_need_new : FnScope ["self", "pairs", "used", "name", "size"] ["self", "pairs"] (defScope s_Plan_need_new) := ⟨rfl, rfl, rfl, by decide +kernel, rfl, by decide +kernel, by decide +kernel⟩
abbrev s_Plan_need_known : Stmt := inClass (topS 36) 16
theorem sc_Plan_need_known : FnScope ["self", "name", "names"] ["self", "name"] (defScope s_Plan_need_known) := ⟨rfl, rfl, rfl, by decide +kernel, rfl, by decide +kernel, by decide +kernel⟩
abbrev s_Plan_need_seat : Stmt := inClass (topS 36) 17
theorem sc_Plan_need_seat : FnScope ["self", "spot"] ["self", "spot"] (defScope s_Plan_need_seat) := ⟨rfl, rfl, rfl, by decide +kernel, rfl, by decide +kernel, by decide +kernel⟩
abbrev s_need_unused : Stmt := topS 37
theorem sc_need_unused : FnScope ["name", "used"] ["name", "used"] (defScope s_need_unused) := ⟨rfl, rfl, rfl, by decide +kernel, rfl, by decide +kernel, by decide +kernel⟩
abbrev s_groups_in : Stmt := topS 38
theorem sc_groups_in : FnScope ["run", "pairs", "row", "first", "_", "groups", "name", "size"] ["run", "pairs"] (defScope s_groups_in) := ⟨rfl, rfl, rfl, by decide +kernel, rfl, by decide +kernel, by decide +kernel⟩
abbrev s_drawn : Stmt := topS 43
theorem sc_drawn : FnScope ["plan"] ["plan"] (defScope s_drawn) := ⟨rfl, rfl, rfl, by decide +kernel, rfl, by decide +kernel, by decide +kernel⟩
abbrev s_read : Stmt := topS 44
theorem sc_read : FnScope ["rows", "lines", "plan", "line", "name", "spots"] ["rows", "lines"] (defScope s_read) := ⟨rfl, rfl, rfl, by decide +kernel, rfl, by decide +kernel, by decide +kernel⟩
abbrev s_group_of : Stmt := topS 45
theorem sc_group_of : FnScope ["line", "parts", "name", "words", "spots", "at", "word"] ["line"] (defScope s_group_of) := ⟨rfl, rfl, rfl, by decide +kernel, rfl, by decide +kernel, by decide +kernel⟩
abbrev s_spot_of : Stmt := topS 46
theorem sc_spot_of : FnScope ["word", "numbers"] ["word"] (defScope s_spot_of) := ⟨rfl, rfl, rfl, by decide +kernel, rfl, by decide +kernel, by decide +kernel⟩
abbrev s_number_of : Stmt := topS 47
theorem sc_number_of : FnScope ["figures", "sign"] ["figures"] (defScope s_number_of) := ⟨rfl, rfl, rfl, by decide +kernel, rfl, by decide +kernel, by decide +kernel⟩
abbrev s_law_cell_at : Stmt := topS 49
theorem sc_law_cell_at : FnScope ["_law_script", "_law_k"] ["_law_script", "_law_k"] (defScope s_law_cell_at) := ⟨rfl, rfl, rfl, by decide +kernel, rfl, by decide +kernel, by decide +kernel⟩
abbrev s_law_spot : Stmt := topS 50
theorem sc_law_spot : FnScope ["_law_spot_here"] ["_law_spot_here"] (defScope s_law_spot) := ⟨rfl, rfl, rfl, by decide +kernel, rfl, by decide +kernel, by decide +kernel⟩
abbrev s_law_row_by : Stmt := topS 51
theorem sc_law_row_by : FnScope ["_law_n", "_law_many", "_law_gap_here", "_law_signs", "_law_place"] ["_law_n"] (defScope s_law_row_by) := ⟨rfl, rfl, rfl, by decide +kernel, rfl, by decide +kernel, by decide +kernel⟩
abbrev s_law_names_by : Stmt := topS 52
theorem sc_law_names_by : FnScope ["_law_n", "_law_many", "_law_some", "_law_size", "_law_at", "_law_word", "_law_names", "_law_k", "_law_sign", "_law_back", "_law_j"] ["_law_n", "_law_many"] (defScope s_law_names_by) := ⟨rfl, rfl, rfl, by decide +kernel, rfl, by decide +kernel, by decide +kernel⟩
abbrev s_law_held_by : Stmt := topS 53
theorem sc_law_held_by : FnScope ["_law_rows", "_law_names", "_law_n", "_law_held", "_law_at", "_law_row", "_law_place", "_law_who", "_law_turned", "_law_name"] ["_law_rows", "_law_names", "_law_n"] (defScope s_law_held_by) := ⟨rfl, rfl, rfl, by decide +kernel, rfl, by decide +kernel, by decide +kernel⟩
abbrev s_law_runs : Stmt := topS 54
theorem sc_law_runs : FnScope ["_law_rows", "_law_taken", "_law_runs_here", "_law_row", "_law_many", "_law_place"] ["_law_rows", "_law_taken"] (defScope s_law_runs) := ⟨rfl, rfl, rfl, by decide +kernel, rfl, by decide +kernel, by decide +kernel⟩
abbrev s_law_lines : Stmt := topS 55
theorem sc_law_lines : FnScope ["_law_held", "_law_lines_here", "_law_name", "_law_spot_here"] ["_law_held"] (defScope s_law_lines) := ⟨rfl, rfl, rfl, by decide +kernel, rfl, by decide +kernel, by decide +kernel⟩
abbrev s_law_gap : Stmt := topS 56
theorem sc_law_gap : FnScope ["_law_plan", "_law_row", "_law_place"] ["_law_plan", "_law_row", "_law_place"] (defScope s_law_gap) := ⟨rfl, rfl, rfl, by decide +kernel, rfl, by decide +kernel, by decide +kernel⟩
abbrev s_law_stands : Stmt := topS 57
theorem sc_law_stands : FnScope ["_law_plan", "_law_rows", "_law_held", "_law_taken", "_law_name", "_law_spot_here", "_law_row", "_law_place"] ["_law_plan", "_law_rows", "_law_held"] (defScope s_law_stands) := ⟨rfl, rfl, rfl, by decide +kernel, rfl, by decide +kernel, by decide +kernel⟩
abbrev s_law : Stmt := topS 58
theorem sc_law : FnScope ["_law_script", "_law_rows", "_law_names", "_law_held", "_law_plan", "_law_taken", "_law_name", "_law_spot_here", "_law_size", "_law_able", "_law_found", "_law_least", "_law_first", "_law_j", "_law_run", "_law_k"] ["_law_script"] (defScope s_law) := ⟨rfl, rfl, rfl, by decide +kernel, rfl, by decide +kernel, by decide +kernel⟩
structure Top (K : PySem.W.Frag) (mg : Str → Option Value) where
  a_need_hall : Addr
  f_need_hall : FuncData
  F_need_hall : Fun K "need_hall" "need_hall" s_need_hall a_need_hall f_need_hall
  b_need_hall : Binds K f_need_hall ["rows"] []
  g_need_hall : mg "need_hall" = some (.ref a_need_hall)
  a_need_row : Addr
  f_need_row : FuncData
  F_need_row : Fun K "need_row" "need_row" s_need_row a_need_row f_need_row
  b_need_row : Binds K f_need_row ["signs"] []
  g_need_row : mg "need_row" = some (.ref a_need_row)
  a_blocks_of : Addr
  f_blocks_of : FuncData
  F_blocks_of : Fun K "blocks_of" "blocks_of" s_blocks_of a_blocks_of f_blocks_of
  b_blocks_of : Binds K f_blocks_of ["rows"] []
  g_blocks_of : mg "blocks_of" = some (.ref a_blocks_of)
  a_blocks_of_row : Addr
  f_blocks_of_row : FuncData
  F_blocks_of_row : Fun K "blocks_of_row" "blocks_of_row" s_blocks_of_row a_blocks_of_row f_blocks_of_row
  b_blocks_of_row : Binds K f_blocks_of_row ["row", "signs"] []
  g_blocks_of_row : mg "blocks_of_row" = some (.ref a_blocks_of_row)
  a_is_seat : Addr
  f_is_seat : FuncData
  F_is_seat : Fun K "is_seat" "is_seat" s_is_seat a_is_seat f_is_seat
  b_is_seat : Binds K f_is_seat ["rows", "row", "place"] []
  g_is_seat : mg "is_seat" = some (.ref a_is_seat)
  a_is_name : Addr
  f_is_name : FuncData
  F_is_name : Fun K "is_name" "is_name" s_is_name a_is_name f_is_name
  b_is_name : Binds K f_is_name ["name"] []
  g_is_name : mg "is_name" = some (.ref a_is_name)
  a_need_name : Addr
  f_need_name : FuncData
  F_need_name : Fun K "need_name" "need_name" s_need_name a_need_name f_need_name
  b_need_name : Binds K f_need_name ["name"] []
  g_need_name : mg "need_name" = some (.ref a_need_name)
  a_need_size : Addr
  f_need_size : FuncData
  F_need_size : Fun K "need_size" "need_size" s_need_size a_need_size f_need_size
  b_need_size : Binds K f_need_size ["size"] []
  g_need_size : mg "need_size" = some (.ref a_need_size)
  a_runs_of : Addr
  f_runs_of : FuncData
  F_runs_of : Fun K "runs_of" "runs_of" s_runs_of a_runs_of f_runs_of
  b_runs_of : Binds K f_runs_of ["rows", "taken"] []
  g_runs_of : mg "runs_of" = some (.ref a_runs_of)
  a_with_taken : Addr
  f_with_taken : FuncData
  F_with_taken : Fun K "with_taken" "with_taken" s_with_taken a_with_taken f_with_taken
  b_with_taken : Binds K f_with_taken ["rows", "taken", "sign"] []
  g_with_taken : mg "with_taken" = some (.ref a_with_taken)
  a_fitting : Addr
  f_fitting : FuncData
  F_fitting : Fun K "fitting" "fitting" s_fitting a_fitting f_fitting
  b_fitting : Binds K f_fitting ["runs", "size"] []
  g_fitting : mg "fitting" = some (.ref a_fitting)
  a_spots_of : Addr
  f_spots_of : FuncData
  F_spots_of : Fun K "spots_of" "spots_of" s_spots_of a_spots_of f_spots_of
  b_spots_of : Binds K f_spots_of ["row", "first", "many"] []
  g_spots_of : mg "spots_of" = some (.ref a_spots_of)
  a_need_unused : Addr
  f_need_unused : FuncData
  F_need_unused : Fun K "need_unused" "need_unused" s_need_unused a_need_unused f_need_unused
  b_need_unused : Binds K f_need_unused ["name", "used"] []
  g_need_unused : mg "need_unused" = some (.ref a_need_unused)
  a_groups_in : Addr
  f_groups_in : FuncData
  F_groups_in : Fun K "groups_in" "groups_in" s_groups_in a_groups_in f_groups_in
  b_groups_in : Binds K f_groups_in ["run", "pairs"] []
  g_groups_in : mg "groups_in" = some (.ref a_groups_in)
  a_drawn : Addr
  f_drawn : FuncData
  F_drawn : Fun K "drawn" "drawn" s_drawn a_drawn f_drawn
  b_drawn : Binds K f_drawn ["plan"] []
  g_drawn : mg "drawn" = some (.ref a_drawn)
  a_read : Addr
  f_read : FuncData
  F_read : Fun K "read" "read" s_read a_read f_read
  b_read : Binds K f_read ["rows", "lines"] []
  g_read : mg "read" = some (.ref a_read)
  a_group_of : Addr
  f_group_of : FuncData
  F_group_of : Fun K "group_of" "group_of" s_group_of a_group_of f_group_of
  b_group_of : Binds K f_group_of ["line"] []
  g_group_of : mg "group_of" = some (.ref a_group_of)
  a_spot_of : Addr
  f_spot_of : FuncData
  F_spot_of : Fun K "spot_of" "spot_of" s_spot_of a_spot_of f_spot_of
  b_spot_of : Binds K f_spot_of ["word"] []
  g_spot_of : mg "spot_of" = some (.ref a_spot_of)
  a_number_of : Addr
  f_number_of : FuncData
  F_number_of : Fun K "number_of" "number_of" s_number_of a_number_of f_number_of
  b_number_of : Binds K f_number_of ["figures"] []
  g_number_of : mg "number_of" = some (.ref a_number_of)
  a_law_cell_at : Addr
  f_law_cell_at : FuncData
  F_law_cell_at : Fun K "_law_cell_at" "_law_cell_at" s_law_cell_at a_law_cell_at f_law_cell_at
  b_law_cell_at : Binds K f_law_cell_at ["_law_script", "_law_k"] []
  g_law_cell_at : mg "_law_cell_at" = some (.ref a_law_cell_at)
  a_law_spot : Addr
  f_law_spot : FuncData
  F_law_spot : Fun K "_law_spot" "_law_spot" s_law_spot a_law_spot f_law_spot
  b_law_spot : Binds K f_law_spot ["_law_spot_here"] []
  g_law_spot : mg "_law_spot" = some (.ref a_law_spot)
  a_law_row_by : Addr
  f_law_row_by : FuncData
  F_law_row_by : Fun K "_law_row_by" "_law_row_by" s_law_row_by a_law_row_by f_law_row_by
  b_law_row_by : Binds K f_law_row_by ["_law_n"] []
  g_law_row_by : mg "_law_row_by" = some (.ref a_law_row_by)
  a_law_names_by : Addr
  f_law_names_by : FuncData
  F_law_names_by : Fun K "_law_names_by" "_law_names_by" s_law_names_by a_law_names_by f_law_names_by
  b_law_names_by : Binds K f_law_names_by ["_law_n", "_law_many"] []
  g_law_names_by : mg "_law_names_by" = some (.ref a_law_names_by)
  a_law_held_by : Addr
  f_law_held_by : FuncData
  F_law_held_by : Fun K "_law_held_by" "_law_held_by" s_law_held_by a_law_held_by f_law_held_by
  b_law_held_by : Binds K f_law_held_by ["_law_rows", "_law_names", "_law_n"] []
  g_law_held_by : mg "_law_held_by" = some (.ref a_law_held_by)
  a_law_runs : Addr
  f_law_runs : FuncData
  F_law_runs : Fun K "_law_runs" "_law_runs" s_law_runs a_law_runs f_law_runs
  b_law_runs : Binds K f_law_runs ["_law_rows", "_law_taken"] []
  g_law_runs : mg "_law_runs" = some (.ref a_law_runs)
  a_law_lines : Addr
  f_law_lines : FuncData
  F_law_lines : Fun K "_law_lines" "_law_lines" s_law_lines a_law_lines f_law_lines
  b_law_lines : Binds K f_law_lines ["_law_held"] []
  g_law_lines : mg "_law_lines" = some (.ref a_law_lines)
  a_law_gap : Addr
  f_law_gap : FuncData
  F_law_gap : Fun K "_law_gap" "_law_gap" s_law_gap a_law_gap f_law_gap
  b_law_gap : Binds K f_law_gap ["_law_plan", "_law_row", "_law_place"] []
  g_law_gap : mg "_law_gap" = some (.ref a_law_gap)
  a_law_stands : Addr
  f_law_stands : FuncData
  F_law_stands : Fun K "_law_stands" "_law_stands" s_law_stands a_law_stands f_law_stands
  b_law_stands : Binds K f_law_stands ["_law_plan", "_law_rows", "_law_held"] []
  g_law_stands : mg "_law_stands" = some (.ref a_law_stands)
  a_law : Addr
  f_law : FuncData
  F_law : Fun K "law" "law" s_law a_law f_law
  b_law : Binds K f_law ["_law_script"] []
  g_law : mg "law" = some (.ref a_law)
  a_Plan : Addr
  g_Plan : mg "Plan" = some (.ref a_Plan)
  c_Plan : Cls K a_Plan
  n_Plan_hall : NoAttr K a_Plan "hall"
  n_Plan__groups : NoAttr K a_Plan "_groups"
  n_Plan__deeds : NoAttr K a_Plan "_deeds"
  a_Plan__init : Addr
  f_Plan__init : FuncData
  F_Plan__init : Fun K "__init__" "Plan.__init__" s_Plan__init a_Plan__init f_Plan__init
  b_Plan__init : Binds K f_Plan__init ["self", "rows"] []
  mk_Plan : Mk K a_Plan a_Plan__init
  a_Plan_sit : Addr
  f_Plan_sit : FuncData
  F_Plan_sit : Fun K "sit" "Plan.sit" s_Plan_sit a_Plan_sit f_Plan_sit
  b_Plan_sit : Binds K f_Plan_sit ["self", "name", "size"] []
  me_Plan_sit : Meth K a_Plan "sit" a_Plan_sit
  a_Plan_party : Addr
  f_Plan_party : FuncData
  F_Plan_party : Fun K "party" "Plan.party" s_Plan_party a_Plan_party f_Plan_party
  b_Plan_party : Binds K f_Plan_party ["self", "pairs"] []
  me_Plan_party : Meth K a_Plan "party" a_Plan_party
  a_Plan_free : Addr
  f_Plan_free : FuncData
  F_Plan_free : Fun K "free" "Plan.free" s_Plan_free a_Plan_free f_Plan_free
  b_Plan_free : Binds K f_Plan_free ["self"] []
  me_Plan_free : Meth K a_Plan "free" a_Plan_free
  a_Plan_groups : Addr
  f_Plan_groups : FuncData
  F_Plan_groups : Fun K "groups" "Plan.groups" s_Plan_groups a_Plan_groups f_Plan_groups
  b_Plan_groups : Binds K f_Plan_groups ["self"] []
  me_Plan_groups : Meth K a_Plan "groups" a_Plan_groups
  a_Plan_seats : Addr
  f_Plan_seats : FuncData
  F_Plan_seats : Fun K "seats" "Plan.seats" s_Plan_seats a_Plan_seats f_Plan_seats
  b_Plan_seats : Binds K f_Plan_seats ["self", "name"] []
  me_Plan_seats : Meth K a_Plan "seats" a_Plan_seats
  a_Plan_who : Addr
  f_Plan_who : FuncData
  F_Plan_who : Fun K "who" "Plan.who" s_Plan_who a_Plan_who f_Plan_who
  b_Plan_who : Binds K f_Plan_who ["self", "row", "place"] []
  me_Plan_who : Meth K a_Plan "who" a_Plan_who
  a_Plan_taken : Addr
  f_Plan_taken : FuncData
  F_Plan_taken : Fun K "taken" "Plan.taken" s_Plan_taken a_Plan_taken f_Plan_taken
  b_Plan_taken : Binds K f_Plan_taken ["self"] []
  me_Plan_taken : Meth K a_Plan "taken" a_Plan_taken
  a_Plan_settle : Addr
  f_Plan_settle : FuncData
  F_Plan_settle : Fun K "settle" "Plan.settle" s_Plan_settle a_Plan_settle f_Plan_settle
  b_Plan_settle : Binds K f_Plan_settle ["self", "name", "spots"] []
  me_Plan_settle : Meth K a_Plan "settle" a_Plan_settle
  a_Plan_do : Addr
  f_Plan_do : FuncData
  F_Plan_do : Fun K "_do" "Plan._do" s_Plan_do a_Plan_do f_Plan_do
  b_Plan_do : Binds K f_Plan_do ["self", "at", "gone", "come"] []
  me_Plan_do : Meth K a_Plan "_do" a_Plan_do
  a_Plan_need_new : Addr
  f_Plan_need_new : FuncData
  F_Plan_need_new : Fun K "_need_new" "Plan._need_new" s_Plan_need_new a_Plan_need_new f_Plan_need_new
  b_Plan_need_new : Binds K f_Plan_need_new ["self", "pairs"] []
  me_Plan_need_new : Meth K a_Plan "_need_new" a_Plan_need_new
  a_Plan_need_known : Addr
  f_Plan_need_known : FuncData
  F_Plan_need_known : Fun K "_need_known" "Plan._need_known" s_Plan_need_known a_Plan_need_known f_Plan_need_known
  b_Plan_need_known : Binds K f_Plan_need_known ["self", "name"] []
  me_Plan_need_known : Meth K a_Plan "_need_known" a_Plan_need_known
  a_Plan_need_seat : Addr
  f_Plan_need_seat : FuncData
  F_Plan_need_seat : Fun K "_need_seat" "Plan._need_seat" s_Plan_need_seat a_Plan_need_seat f_Plan_need_seat
  b_Plan_need_seat : Binds K f_Plan_need_seat ["self", "spot"] []
  me_Plan_need_seat : Meth K a_Plan "_need_seat" a_Plan_need_seat
  a_BadHall : Addr
  g_BadHall : mg "BadHall" = some (.ref a_BadHall)
  x_BadHall : PySem.W.excIn K a_BadHall [.type "ValueError", .type "Exception", .type "BaseException", .type "object"] "ValueError.__new__" = true
  k_BadHall : PySem.W.keepIn K (.ref a_BadHall) = true
  b_BadHall : PySem.W.subIn K (.ref a_BadHall) (.type "BaseException") = some true
  t_BadHall : PySem.W.typeIn K (.ref a_BadHall) = some (.type "type")
  e_BadHall : PySem.W.exmOne K (.ref a_BadHall) (.ref a_BadHall) = some true
  a_BadLine : Addr
  g_BadLine : mg "BadLine" = some (.ref a_BadLine)
  x_BadLine : PySem.W.excIn K a_BadLine [.type "ValueError", .type "Exception", .type "BaseException", .type "object"] "ValueError.__new__" = true
  k_BadLine : PySem.W.keepIn K (.ref a_BadLine) = true
  b_BadLine : PySem.W.subIn K (.ref a_BadLine) (.type "BaseException") = some true
  t_BadLine : PySem.W.typeIn K (.ref a_BadLine) = some (.type "type")
  e_BadLine : PySem.W.exmOne K (.ref a_BadLine) (.ref a_BadLine) = some true
  a_BadName : Addr
  g_BadName : mg "BadName" = some (.ref a_BadName)
  x_BadName : PySem.W.excIn K a_BadName [.type "ValueError", .type "Exception", .type "BaseException", .type "object"] "ValueError.__new__" = true
  k_BadName : PySem.W.keepIn K (.ref a_BadName) = true
  b_BadName : PySem.W.subIn K (.ref a_BadName) (.type "BaseException") = some true
  t_BadName : PySem.W.typeIn K (.ref a_BadName) = some (.type "type")
  e_BadName : PySem.W.exmOne K (.ref a_BadName) (.ref a_BadName) = some true
  a_BadSize : Addr
  g_BadSize : mg "BadSize" = some (.ref a_BadSize)
  x_BadSize : PySem.W.excIn K a_BadSize [.type "ValueError", .type "Exception", .type "BaseException", .type "object"] "ValueError.__new__" = true
  k_BadSize : PySem.W.keepIn K (.ref a_BadSize) = true
  b_BadSize : PySem.W.subIn K (.ref a_BadSize) (.type "BaseException") = some true
  t_BadSize : PySem.W.typeIn K (.ref a_BadSize) = some (.type "type")
  e_BadSize : PySem.W.exmOne K (.ref a_BadSize) (.ref a_BadSize) = some true
  a_Known : Addr
  g_Known : mg "Known" = some (.ref a_Known)
  x_Known : PySem.W.excIn K a_Known [.type "ValueError", .type "Exception", .type "BaseException", .type "object"] "ValueError.__new__" = true
  k_Known : PySem.W.keepIn K (.ref a_Known) = true
  b_Known : PySem.W.subIn K (.ref a_Known) (.type "BaseException") = some true
  t_Known : PySem.W.typeIn K (.ref a_Known) = some (.type "type")
  e_Known : PySem.W.exmOne K (.ref a_Known) (.ref a_Known) = some true
  a_NoRoom : Addr
  g_NoRoom : mg "NoRoom" = some (.ref a_NoRoom)
  x_NoRoom : PySem.W.excIn K a_NoRoom [.type "ValueError", .type "Exception", .type "BaseException", .type "object"] "ValueError.__new__" = true
  k_NoRoom : PySem.W.keepIn K (.ref a_NoRoom) = true
  b_NoRoom : PySem.W.subIn K (.ref a_NoRoom) (.type "BaseException") = some true
  t_NoRoom : PySem.W.typeIn K (.ref a_NoRoom) = some (.type "type")
  e_NoRoom : PySem.W.exmOne K (.ref a_NoRoom) (.ref a_NoRoom) = some true
  a_NoSeat : Addr
  g_NoSeat : mg "NoSeat" = some (.ref a_NoSeat)
  x_NoSeat : PySem.W.excIn K a_NoSeat [.type "ValueError", .type "Exception", .type "BaseException", .type "object"] "ValueError.__new__" = true
  k_NoSeat : PySem.W.keepIn K (.ref a_NoSeat) = true
  b_NoSeat : PySem.W.subIn K (.ref a_NoSeat) (.type "BaseException") = some true
  t_NoSeat : PySem.W.typeIn K (.ref a_NoSeat) = some (.type "type")
  e_NoSeat : PySem.W.exmOne K (.ref a_NoSeat) (.ref a_NoSeat) = some true
  a_Taken : Addr
  g_Taken : mg "Taken" = some (.ref a_Taken)
  x_Taken : PySem.W.excIn K a_Taken [.type "ValueError", .type "Exception", .type "BaseException", .type "object"] "ValueError.__new__" = true
  k_Taken : PySem.W.keepIn K (.ref a_Taken) = true
  b_Taken : PySem.W.subIn K (.ref a_Taken) (.type "BaseException") = some true
  t_Taken : PySem.W.typeIn K (.ref a_Taken) = some (.type "type")
  e_Taken : PySem.W.exmOne K (.ref a_Taken) (.ref a_Taken) = some true
  a_Unknown : Addr
  g_Unknown : mg "Unknown" = some (.ref a_Unknown)
  x_Unknown : PySem.W.excIn K a_Unknown [.type "ValueError", .type "Exception", .type "BaseException", .type "object"] "ValueError.__new__" = true
  k_Unknown : PySem.W.keepIn K (.ref a_Unknown) = true
  b_Unknown : PySem.W.subIn K (.ref a_Unknown) (.type "BaseException") = some true
  t_Unknown : PySem.W.typeIn K (.ref a_Unknown) = some (.type "type")
  e_Unknown : PySem.W.exmOne K (.ref a_Unknown) (.ref a_Unknown) = some true
  I_Plan : Dl.Isi K a_Plan
  m_all : mg "all" = none
  m_bool : mg "bool" = none
  m_dict : mg "dict" = none
  m_enumerate : mg "enumerate" = none
  m_int : mg "int" = none
  m_isinstance : mg "isinstance" = none
  m_len : mg "len" = none
  m_list : mg "list" = none
  m_max : mg "max" = none
  m_min : mg "min" = none
  m_range : mg "range" = none
  m_str : mg "str" = none
  m_sum : mg "sum" = none
  m_tuple : mg "tuple" = none
  u_BEHIND_NAME : Value
  h_BEHIND_NAME : mg "BEHIND_NAME" = some u_BEHIND_NAME
  r_BEHIND_NAME : RelV (.str ": ") u_BEHIND_NAME
  u_FIGURES : Value
  h_FIGURES : mg "FIGURES" = some u_FIGURES
  r_FIGURES : RelV (.str "0123456789") u_FIGURES
  u_GAP : Value
  h_GAP : mg "GAP" = some u_GAP
  r_GAP : RelV (.str ".") u_GAP
  u_LARGEST_SIZE : Value
  h_LARGEST_SIZE : mg "LARGEST_SIZE" = some u_LARGEST_SIZE
  r_LARGEST_SIZE : RelV (.int 2400) u_LARGEST_SIZE
  u_LONGEST_NAME : Value
  h_LONGEST_NAME : mg "LONGEST_NAME" = some u_LONGEST_NAME
  r_LONGEST_NAME : RelV (.int 12) u_LONGEST_NAME
  u_MOST_PLACES : Value
  h_MOST_PLACES : mg "MOST_PLACES" = some u_MOST_PLACES
  r_MOST_PLACES : RelV (.int 60) u_MOST_PLACES
  u_MOST_ROWS : Value
  h_MOST_ROWS : mg "MOST_ROWS" = some u_MOST_ROWS
  r_MOST_ROWS : RelV (.int 40) u_MOST_ROWS
  u_NAME_SIGNS : Value
  h_NAME_SIGNS : mg "NAME_SIGNS" = some u_NAME_SIGNS
  r_NAME_SIGNS : RelV (.str "abcdefghijklmnopqrstuvwxyz0123456789-") u_NAME_SIGNS
  u_SEAT : Value
  h_SEAT : mg "SEAT" = some u_SEAT
  r_SEAT : RelV (.str "o") u_SEAT
  u_TAKEN_SEAT : Value
  h_TAKEN_SEAT : mg "TAKEN_SEAT" = some u_TAKEN_SEAT
  r_TAKEN_SEAT : RelV (.str "#") u_TAKEN_SEAT
/-! ### the k-th number of the script, or nought -/
def cellAt (ns : List Int) (k : Int) : Int := if k < (ns.length : Int) then ns.getD k.toNat 0 else 0
def pre_law_cell_at : Pre := fun ds R o => ∃ (a : Addr) (ns : List Int) (k : Int), ds = [.ref a, .int k] ∧ R = [(a, .scr ns)] ∧ 0 ≤ k ∧ o = .ret (.int (cellAt ns k))
theorem p_law_cell_at {c : Ct} {G : Res} {ρ : En} {ta tb : TE} {a : Addr} {ns : List Int} {k : Int} {E : XK} (ha : EvP c G ρ ta (.ref a)) (m : (a, .scr ns) ∈ c.S ∨ (a, .scr ns) ∈ G) (hb : EvP c G ρ tb (.int k)) (h0 : 0 ≤ k) :
    EvP c G ρ (tCall (spD c.K pre_law_cell_at) [] E (tCons ta (tCons tb tNil))) (.int (cellAt ns k)) :=
  p_call (a_cons ha (a_cons hb a_nil)) (R := [(a, .scr ns)]) (fun x hx => by rcases List.mem_singleton.mp hx with rfl; exact m) ⟨a, ns, k, rfl, rfl, h0, rfl⟩
theorem ok_law_cell_at {P : Program} {w : World} {K : PySem.W.Frag} {mg : Str → Option Value} {base : Heap} (T : Top K mg) : FnOk P w K mg base CX0 1 T.a_law_cell_at T.f_law_cell_at ["_law_script", "_law_k"] (spD K pre_law_cell_at) := by
  refine fnOk T.F_law_cell_at sc_law_cell_at (fun ds R o h => by obtain ⟨a, ns, k, rfl, _⟩ := h; rfl) fun ds R o h cdv A outer s H E hr => ?_
  obtain ⟨a, ns, k, rfl, rfl, hk, rfl⟩ := h
  refine ⟨_, (pss_cons (ps_if (pt_cmpR op_lt (pv 1) (pe_callB call_len_seq (by rfl) T.m_len PySem.boot_len (pa_cons (pv 0) pa_nil)) (nomark _))
  (pss_one (ps_ret (pe_ix ix_list (pv 0) (pv 1) (fun _ _ => rfl))))
  pss_nil)
  (pss_one (ps_ret pe_int))), fun F Q post => ?_⟩
  walk_at "go"
  walk_at "when" <;> intro hb
  · have hb' : k < (ns.length : Int) := by simpa using hb
    have hg : ns[k.toNat]? = some (ns.getD k.toNat 0) := by rw [List.getD_eq_getElem?_getD, List.getElem?_eq_getElem (by omega)]; rfl
    have hat : atI ns k = some (cellAt ns k) := by rw [cellAt, if_pos hb']; exact at_n hk hg
    refine sx_ret (d := .int (cellAt ns k)) ?_ post
    walk_at "pv"
  · have hb' : ¬ k < (ns.length : Int) := by simpa using hb
    refine sx_ret (d := .int (cellAt ns k)) ?_ post
    rw [cellAt, if_neg hb']
    walk_at "pv"
local macro_rules | `(tactic| walk_at "pv") => `(tactic| ((with_reducible apply p_law_cell_at) <;> (try walk_at "pv")))

/-! ### texts as lists of codes -/
def sOf (l : List Nat) : Str := ⟨l.toArray⟩
theorem sOf_len (l : List Nat) : (sOf l).length = l.length := by show l.toArray.size = _; simp
theorem sOf_app (l m : List Nat) : sOf l ++ sOf m = sOf (l ++ m) := by
  show Str.mk (l.toArray ++ m.toArray) = Str.mk (l ++ m).toArray
  simp
theorem sOf_nil : ("" : Str) = sOf [] := by decide +kernel
theorem sOf_o : ("o" : Str) = sOf [111] := by decide +kernel
theorem sOf_dot : ("." : Str) = sOf [46] := by decide +kernel
theorem sOf_cps (l : List Nat) : (sOf l).cps.toList = l := by simp [sOf]
theorem sOf_inj {l m : List Nat} : sOf l = sOf m ↔ l = m := by
  constructor
  · intro h
    have := congrArg (fun s : Str => s.cps.toList) h
    simpa [sOf] using this
  · intro h; rw [h]
theorem of_sOf (s : Str) : sOf s.cps.toList = s := by cases s; simp [sOf]
theorem cut_len (s : Str) (lo hi : Option Int) : (cutS s lo hi).length ≤ s.length := by
  show (((s.cps.toList.drop _).take _).toArray).size ≤ s.cps.size
  simp
  omega
theorem cut_mem (s : Str) (lo hi : Option Int) : ∀ c ∈ (cutS s lo hi).cps.toList, c ∈ s.cps.toList := by
  intro c hc
  have h : c ∈ (s.cps.toList.drop (HT.sIx s.length 0 lo)).take (HT.sIx s.length s.length hi - HT.sIx s.length 0 lo) := by
    have : (cutS s lo hi).cps.toList = (s.cps.toList.drop (HT.sIx s.length 0 lo)).take (HT.sIx s.length s.length hi - HT.sIx s.length 0 lo) := by
      unfold cutS; rfl
    rwa [this] at hc
  exact List.mem_of_mem_drop (List.mem_of_mem_take h)

/-! ### a row by a number -/
def rowN (n0 : Int) : Int := n0 * 48271 % 2147483647
def rowMany (n : Int) : Int := if n / 12 % 9 = 1 then 60 - n / 108 % 3 else n % 12
def rowSign (n : Int) (p : Nat) : Nat := if (n / 15876 % 3 > 0 ∧ ((p : Int) + n / 2268) % (2 + n / 324 % 7) = 0) ∨ (p : Int) * (p : Int) % 11 = n / 47628 % 13 then 46 else 111
def rowUpTo (n : Int) (i : Nat) : Str := sOf ((List.range i).map (rowSign n))
def rowBy (n0 : Int) : Str := rowUpTo (rowN n0) (rowMany (rowN n0)).toNat
theorem rowMany_le (n : Int) : 0 ≤ rowMany n ∧ rowMany n ≤ 60 := by unfold rowMany; split <;> omega
theorem rowUpTo_len (n : Int) (i : Nat) : (rowUpTo n i).length = i := by rw [rowUpTo, sOf_len]; simp
theorem rowUpTo_succ (n : Int) (i : Nat) : rowUpTo n (i + 1) = rowUpTo n i ++ sOf [rowSign n i] := by
  rw [rowUpTo, rowUpTo, sOf_app, List.range_succ, List.map_append]; rfl
theorem rowBy_len (n : Int) : (rowBy n).length ≤ 60 := by
  rw [rowBy, rowUpTo_len]; have := rowMany_le (rowN n); omega
/-- a row of a hall: at most sixty signs, seats and gaps -/
def GoodRow (s : Str) : Prop := s.length ≤ 60 ∧ ∀ c ∈ s.cps.toList, c = 111 ∨ c = 46
theorem rowBy_good (n : Int) : GoodRow (rowBy n) := by
  refine ⟨rowBy_len n, fun c hc => ?_⟩
  rw [rowBy, rowUpTo, sOf_cps] at hc
  obtain ⟨p, _, rfl⟩ := List.mem_map.mp hc
  unfold rowSign
  split
  · exact .inr rfl
  · exact .inl rfl
def pre_law_row_by : Pre := fun ds R o => ∃ n : Int, ds = [.int n] ∧ R = [] ∧ o = .ret (.str (rowBy n))
theorem p_law_row_by {c : Ct} {G : Res} {ρ : En} {ta : TE} {n : Int} {E : XK} (ha : EvP c G ρ ta (.int n)) : EvP c G ρ (tCall (spD c.K pre_law_row_by) [] E (tCons ta tNil)) (.str (rowBy n)) :=
  p_call (a_cons ha a_nil) (R := []) (fun x hx => nomatch hx) ⟨n, rfl, rfl, rfl⟩
theorem ok_law_row_by {P : Program} {w : World} {K : PySem.W.Frag} {mg : Str → Option Value} {base : Heap} (T : Top K mg) : FnOk P w K mg base CX0 1 T.a_law_row_by T.f_law_row_by ["_law_n"] (spD K pre_law_row_by) := by
  refine fnOk T.F_law_row_by sc_law_row_by (fun ds R o h => by obtain ⟨n, rfl, _⟩ := h; rfl) fun ds R o h cdv A outer s H E hr => ?_
  obtain ⟨n0, rfl, rfl, rfl⟩ := h
  refine ⟨_, (pss_cons (ps_set (i := 0) sc_law_row_by.nd rfl (Or.inl rfl) (pe_op op_mod (pe_op op_mul (pv 0) pe_int) pe_int))
  (pss_cons (ps_set (i := 1) sc_law_row_by.nd rfl (Or.inl rfl) (pe_op op_mod (pv 0) pe_int))
  (pss_cons (ps_if (pt_cmpR op_eq (pe_op op_mod (pe_op op_fdiv (pv 0) pe_int) pe_int) pe_int (nomark _))
  (pss_one (ps_set (i := 1) sc_law_row_by.nd rfl (Or.inl rfl) (pe_op op_sub pe_int (pe_op op_mod (pe_op op_fdiv (pv 0) pe_int) pe_int))))
  pss_nil)
  (pss_cons (ps_set (i := 2) sc_law_row_by.nd rfl (Or.inl rfl) (pe_op op_add pe_int (pe_op op_mod (pe_op op_fdiv (pv 0) pe_int) pe_int)))
  (pss_cons (ps_set (i := 3) sc_law_row_by.nd rfl (Or.inl rfl) pe_str)
  (pss_cons (ps_for PassesOwn.never rfl (pi_range1 (by rfl) T.m_range (pa_cons (pv 1) pa_nil)) (pg_name (i := 4) sc_law_row_by.nd rfl (Or.inl rfl))
  (pss_one (ps_if (PW.pt (pw_or (PW.pt (pw_and (pt_cmpR op_gt (pe_op op_mod (pe_op op_fdiv (pv 0) pe_int) pe_int) pe_int (nomark _)) (pw_and1 (pt_cmpR op_eq (pe_op op_mod (pe_op op_add (pv 4) (pe_op op_fdiv (pv 0) pe_int)) (pv 2)) pe_int (nomark _))))) (pw_or1 (pt_cmpR op_eq (pe_op op_mod (pe_op op_mul (pv 4) (pv 4)) pe_int) (pe_op op_mod (pe_op op_fdiv (pv 0) pe_int) pe_int) (nomark _)))))
  (pss_one (ps_set (i := 3) sc_law_row_by.nd rfl (Or.inl rfl) (pe_op op_add_str (pv 3) pe_str)))
  (pss_one (ps_set (i := 3) sc_law_row_by.nd rfl (Or.inl rfl) (pe_op op_add_str (pv 3) pe_str))))))
  (pss_one (ps_ret (pv 3))))))))), fun F Q post => ?_⟩
  walk_at "go"
  walk_at "asg"
  walk_at "asg"
  have hn : ∃ n, n = n0 * 48271 % 2147483647 := ⟨_, rfl⟩
  obtain ⟨n, hn⟩ := hn
  rw [← hn]
  have e0 : rowN n0 = n := hn.symm
  have hn0 : 0 ≤ n := by omega
  have hm := rowMany_le n
  apply sx_ifAsg (d := .int (rowMany n))
  · walk_at "pv"
  · intro hb
    have hb' : n / 12 % 9 = 1 := by simpa using hb
    have e : rowMany n = 60 - n / 108 % 3 := by unfold rowMany; rw [if_pos hb']
    rw [e]
    walk_at "pv"
  · intro hb
    have hb' : ¬ n / 12 % 9 = 1 := by simpa using hb
    have e : rowMany n = n % 12 := by unfold rowMany; rw [if_neg hb']
    rw [e]
    walk_at "le"
  walk_at "nrm"
  walk_at "asg"
  walk_at "asg"
  refine sx_forR (lo := 0) (n := (rowMany n).toNat) (fun _ => []) (fun i => [some (.int n), some (.int (rowMany n)), some (.int (2 + n / 324 % 7)), some (.str (rowUpTo n i)), none]) ?_ rfl ⟨rfl, rfl, rfl, ?_, trivial⟩ (fun i hi S' hS => ?_) ?_
  · walk_at "pv"
  · rw [sOf_nil]; rfl
  · rw [Int.zero_add]
    walk_at "nrm"
    have hl : (rowUpTo n i).length = i := rowUpTo_len n i
    have h1 : ("." : Str).length = 1 := by decide +kernel
    have h2 : ("o" : Str).length = 1 := by decide +kernel
    walk_at "if1" <;> intro hb
    · have hs : rowSign n i = 46 := by
        unfold rowSign
        rw [if_pos]
        simpa using hb
      walk_at "last"
      walk_at "asg"
      walk_at "end"
      · rfl
      · rw [rowUpTo_succ, hs, ← sOf_dot]
        exact ⟨rfl, rfl, rfl, rfl, trivial⟩
    · have hs : rowSign n i = 111 := by
        unfold rowSign
        rw [if_neg]
        simpa using hb
      walk_at "last"
      walk_at "asg"
      walk_at "end"
      · rfl
      · rw [rowUpTo_succ, hs, ← sOf_o]
        exact ⟨rfl, rfl, rfl, rfl, trivial⟩
  · refine sx_ret (p_var rfl) ?_
    rw [rowBy, e0] at post
    exact post
local macro_rules | `(tactic| walk_at "pv") => `(tactic| ((with_reducible apply p_law_row_by) <;> (try walk_at "pv")))

/-- a hall: one to forty good rows -/
def GoodHall (rows : List Str) : Prop := 1 ≤ rows.length ∧ rows.length ≤ 40 ∧ ∀ r ∈ rows, GoodRow r

/-! ### seats -/
def signAt (rows : List Str) (r p : Int) : Option Nat := if 0 ≤ r ∧ 0 ≤ p then (rows[r.toNat]?).bind fun s => s.cps.toList[p.toNat]? else none
def isSeat (rows : List Str) (r p : Int) : Bool := signAt rows r p == some 111
theorem isSeat_row {rows : List Str} {r p : Int} (h : ¬ (0 ≤ r ∧ r < (rows.length : Int))) : isSeat rows r p = false := by
  unfold isSeat signAt
  split
  · rename_i g
    rw [List.getElem?_eq_none (by omega)]
    rfl
  · rfl
theorem isSeat_place {rows : List Str} {r p : Int} {s : Str} (hs : rows[r.toNat]? = some s) (h : ¬ (0 ≤ p ∧ p < (s.length : Int))) : isSeat rows r p = false := by
  unfold isSeat signAt
  split
  · rename_i g
    rw [hs]
    show (s.cps.toList[p.toNat]? == some 111) = false
    rw [List.getElem?_eq_none (by have : s.cps.toList.length = s.length := by simp [PySem.Str.length]
                                  omega)]
    rfl
  · rfl
theorem isSeat_at {rows : List Str} {r p : Int} {s : Str} {c : Nat} (h0 : 0 ≤ r) (hs : rows[r.toNat]? = some s) (h1 : 0 ≤ p) (hc : s.cps.toList[p.toNat]? = some c) : isSeat rows r p = decide (c = 111) := by
  unfold isSeat signAt
  rw [if_pos ⟨h0, h1⟩, hs]
  show (s.cps.toList[p.toNat]? == some 111) = _
  rw [hc]
  by_cases e : c = 111
  · subst e; rfl
  · rw [decide_eq_false e]; simp [e]
theorem at_sign {s : Str} {i : Int} {c : Nat} (h0 : 0 ≤ i) (h : s.cps.toList[i.toNat]? = some c) : atI s.cps.toList i = some c := by
  have e : i = ((i.toNat : Nat) : Int) := by omega
  rw [e]
  exact atI_nat h
theorem cps_len (s : Str) : s.cps.toList.length = s.length := by simp [PySem.Str.length]
theorem sOf_one (c : Nat) : (⟨#[c]⟩ : Str) = sOf [c] := rfl
theorem sign_o (c : Nat) : decide ((⟨#[c]⟩ : Str) = ("o" : Str)) = decide (c = 111) := by
  rw [sOf_o, sOf_one]
  exact decide_eq_decide.mpr (sOf_inj.trans (by simp))
/-- rows of at most sixty signs -/
def Short (rows : List Str) : Prop := ∀ s ∈ rows, s.length ≤ 100
theorem Short.at {rows : List Str} (h : Short rows) {i : Nat} {s : Str} (e : rows[i]? = some s) : s.length ≤ 100000 := by
  have := h s (List.mem_of_getElem? e); omega
theorem GoodHall.short {rows : List Str} (h : GoodHall rows) : Short rows := fun s hs => by have := (h.2.2 s hs).1; omega

/-! ### runs of places side by side where f holds: first place, how many -/
def scanP (f : Nat → Bool) : Nat → List (Nat × Nat) × Nat
  | 0 => ([], 0)
  | i + 1 => if f i = true then ((scanP f i).1, (scanP f i).2 + 1) else if 0 < (scanP f i).2 then ((scanP f i).1 ++ [(i - (scanP f i).2, (scanP f i).2)], 0) else scanP f i
theorem scanP_one {f : Nat → Bool} {i : Nat} (h : f i = true) : scanP f (i + 1) = ((scanP f i).1, (scanP f i).2 + 1) := by
  show (if f i = true then _ else _) = _
  rw [if_pos h]
theorem scanP_cut {f : Nat → Bool} {i : Nat} (h : ¬ f i = true) (h0 : 0 < (scanP f i).2) : scanP f (i + 1) = ((scanP f i).1 ++ [(i - (scanP f i).2, (scanP f i).2)], 0) := by
  show (if f i = true then _ else if 0 < (scanP f i).2 then _ else _) = _
  rw [if_neg h, if_pos h0]
theorem scanP_stay {f : Nat → Bool} {i : Nat} (h : ¬ f i = true) (h0 : ¬ 0 < (scanP f i).2) : scanP f (i + 1) = scanP f i := by
  show (if f i = true then _ else if 0 < (scanP f i).2 then _ else _) = _
  rw [if_neg h, if_neg h0]
def RunOk (f : Nat → Bool) (b : Nat × Nat) : Prop := 1 ≤ b.2 ∧ (∀ j, b.1 ≤ j → j < b.1 + b.2 → f j = true) ∧ (b.1 = 0 ∨ f (b.1 - 1) = false) ∧ f (b.1 + b.2) = false
structure ScanOk (f : Nat → Bool) (i : Nat) (st : List (Nat × Nat) × Nat) : Prop where
  le : st.2 ≤ i
  ins : ∀ j, i - st.2 ≤ j → j < i → f j = true
  left : i - st.2 = 0 ∨ f (i - st.2 - 1) = false
  ok : ∀ b ∈ st.1, RunOk f b
  lt : ∀ b ∈ st.1, b.1 + b.2 + 1 ≤ i - st.2
  up : st.1.Pairwise fun b c => b.1 + b.2 < c.1
  sum : (st.1.map (·.2)).sum + st.2 = ((List.range i).filter f).length
  all : ∀ j, j < i - st.2 → f j = true → ∃ b ∈ st.1, b.1 ≤ j ∧ j < b.1 + b.2
theorem scanP_ok (f : Nat → Bool) : ∀ i, ScanOk f i (scanP f i)
  | 0 => ⟨Nat.le_refl _, fun j _ h => by omega, .inl rfl, fun b h => by simp [scanP] at h, fun b h => by simp [scanP] at h, by simp [scanP], rfl, fun j h => by omega⟩
  | i + 1 => by
    have k := scanP_ok f i
    have hr : (List.range (i + 1)).filter f = (List.range i).filter f ++ (if f i = true then [i] else []) := by
      rw [List.range_succ, List.filter_append]
      congr 1
      by_cases h : f i = true <;> simp [h]
    have hle := k.le
    unfold scanP
    by_cases hf : f i = true
    · rw [if_pos hf]
      refine ⟨?_, fun j h1 h2 => ?_, ?_, k.ok, fun b hb => ?_, k.up, ?_, fun j h1 h2 => ?_⟩
      · show (scanP f i).2 + 1 ≤ i + 1; omega
      · have h1' : i + 1 - ((scanP f i).2 + 1) ≤ j := h1
        by_cases e : j = i
        · rw [e]; exact hf
        · exact k.ins j (by omega) (by omega)
      · show i + 1 - ((scanP f i).2 + 1) = 0 ∨ f (i + 1 - ((scanP f i).2 + 1) - 1) = false
        rw [show i + 1 - ((scanP f i).2 + 1) = i - (scanP f i).2 by omega]
        exact k.left
      · show b.1 + b.2 + 1 ≤ i + 1 - ((scanP f i).2 + 1)
        have := k.lt b hb; omega
      · have := k.sum
        rw [hr, if_pos hf, List.length_append, ← this]
        show ((scanP f i).1.map (·.2)).sum + ((scanP f i).2 + 1) = ((scanP f i).1.map (·.2)).sum + (scanP f i).2 + 1
        omega
      · have h1' : j < i + 1 - ((scanP f i).2 + 1) := h1
        exact k.all j (by omega) h2
    · have hff : f i = false := by simpa using hf
      rw [if_neg hf]
      by_cases h0 : 0 < (scanP f i).2
      · rw [if_pos h0]
        refine ⟨Nat.zero_le _, fun j h1 h2 => ?_, .inr ?_, fun b hb => ?_, fun b hb => ?_, ?_, ?_, fun j h1 h2 => ?_⟩
        · have h1' : i + 1 - 0 ≤ j := h1
          omega
        · show f (i + 1 - 0 - 1) = false
          exact hff
        · rcases List.mem_append.mp hb with hb | hb
          · exact k.ok b hb
          · obtain rfl := List.mem_singleton.mp hb
            refine ⟨h0, fun j h1 h2 => ?_, k.left, ?_⟩
            · have h1' : i - (scanP f i).2 ≤ j := h1
              have h2' : j < i - (scanP f i).2 + (scanP f i).2 := h2
              exact k.ins j h1' (by omega)
            · show f (i - (scanP f i).2 + (scanP f i).2) = false
              rw [show i - (scanP f i).2 + (scanP f i).2 = i by omega]
              exact hff
        · rcases List.mem_append.mp hb with hb | hb
          · have := k.lt b hb
            show b.1 + b.2 + 1 ≤ i + 1 - 0
            omega
          · obtain rfl := List.mem_singleton.mp hb
            show i - (scanP f i).2 + (scanP f i).2 + 1 ≤ i + 1 - 0
            omega
        · refine List.pairwise_append.mpr ⟨k.up, by simp, fun b hb c hc => ?_⟩
          obtain rfl := List.mem_singleton.mp hc
          have := k.lt b hb
          show b.1 + b.2 < i - (scanP f i).2
          omega
        · have := k.sum
          rw [hr, if_neg hf, List.append_nil, ← this]
          simp
        · have h1' : j < i + 1 - 0 := h1
          by_cases hj : j < i - (scanP f i).2
          · obtain ⟨b, hb, h3⟩ := k.all j hj h2
            exact ⟨b, List.mem_append_left _ hb, h3⟩
          · by_cases e : j = i
            · rw [e, hff] at h2; cases h2
            · exact ⟨_, List.mem_append_right _ (List.mem_singleton.mpr rfl), by show i - (scanP f i).2 ≤ j; omega, by show j < i - (scanP f i).2 + (scanP f i).2; omega⟩
      · rw [if_neg h0]
        have h00 : (scanP f i).2 = 0 := by omega
        refine ⟨by omega, fun j h1 h2 => by omega, .inr ?_, k.ok, fun b hb => ?_, k.up, ?_, fun j h1 h2 => ?_⟩
        · rw [h00]; exact hff
        · have := k.lt b hb; omega
        · have := k.sum
          rw [hr, if_neg hf, List.append_nil, ← this]
        · rw [h00] at h1
          by_cases e : j = i
          · rw [e, hff] at h2; cases h2
          · exact k.all j (by omega) h2
/-- all runs among the first n places -/
def runsP (f : Nat → Bool) (n : Nat) : List (Nat × Nat) := (scanP f (n + 1)).1
structure RunsOk (f : Nat → Bool) (n : Nat) (l : List (Nat × Nat)) : Prop where
  ok : ∀ b ∈ l, RunOk f b
  lt : ∀ b ∈ l, b.1 + b.2 ≤ n
  up : l.Pairwise fun b c => b.1 + b.2 < c.1
  sum : (l.map (·.2)).sum = ((List.range n).filter f).length
  all : ∀ j, j < n → f j = true → ∃ b ∈ l, b.1 ≤ j ∧ j < b.1 + b.2
theorem runsP_ok {f : Nat → Bool} {n : Nat} (h : f n = false) : RunsOk f n (runsP f n) := by
  have k := scanP_ok f (n + 1)
  have h0 : (scanP f (n + 1)).2 = 0 := by
    by_cases e : (scanP f (n + 1)).2 = 0
    · exact e
    · have := k.ins n (by omega) (by omega)
      rw [h] at this; cases this
  refine ⟨k.ok, fun b hb => ?_, k.up, ?_, fun j hj hf => ?_⟩
  · have := k.lt b hb; omega
  · have := k.sum
    rw [h0, Nat.add_zero] at this
    have e : (List.range (n + 1)).filter f = (List.range n).filter f := by
      rw [List.range_succ, List.filter_append]; simp [h]
    rw [e] at this
    exact this
  · exact k.all j (by omega) hf
/-- the place holds a seat -/
def seatP (s : Str) (i : Nat) : Bool := s.cps[i]? == some 111

/-! ### how often a sign stands in a text -/
theorem occ_one (x : Str) (c limit : Nat) : ∀ (l : List Nat) (st : Array Nat × Nat), (∀ i ∈ l, st.2 ≤ i) → l.Pairwise (· < ·) → st.1.size + l.length ≤ limit →
    (forIn l st (StrLaws.occBody x ⟨#[c]⟩ x.length limit)).run.fst.size = st.1.size + (l.filter fun i => x.cps.toList[i]? == some c).length
  | [], st, _, _, _ => by simp
  | i :: l, st, h1, h2, h3 => by
    rw [List.forIn_cons]
    unfold StrLaws.occBody
    have hp := List.pairwise_cons.mp h2
    have hi := h1 i (by simp)
    simp only [List.length_cons] at h3
    by_cases hc : x.cps.toList[i]? = some c
    · have hs := (StrLaws.subAt_one x c i).mpr hc
      rw [if_pos ⟨⟨⟨by omega, hi⟩, hs.1⟩, hs.2⟩]
      have ih := occ_one x c limit l (st.1.push i, i + (⟨#[c]⟩ : Str).length) (fun j hj => by
        have := hp.1 j hj
        show i + 1 ≤ j
        omega) hp.2 (by rw [Array.size_push]; omega)
      rw [List.filter_cons_of_pos (by rw [hc]; simp)]
      refine Eq.trans ih ?_
      rw [Array.size_push, List.length_cons]
      omega
    · rw [if_neg (fun q => hc ((StrLaws.subAt_one x c i).mp ⟨q.1.2, q.2⟩))]
      have ih := occ_one x c limit l (st.1, st.2) (fun j hj => h1 j (by simp [hj])) hp.2 (by show st.1.size + l.length ≤ limit; omega)
      rw [List.filter_cons_of_neg (by simpa using hc)]
      exact ih
theorem count_one (x : Str) (c : Nat) : Txt.count x ⟨#[c]⟩ = (((List.range x.length).filter fun i => x.cps.toList[i]? == some c).length : Nat) := by
  unfold Txt.count
  rw [StrLaws.occ_eq]
  have h := occ_one x c (x.length + 1) (List.range' 0 (x.length + 1 - 0)) (#[], 0) (fun _ _ => Nat.zero_le _) (by
    have := List.pairwise_lt_range' (s := 0) (n := x.length + 1)
    simpa using this) (by simp)
  rw [Array.length_toList]
  refine congrArg Nat.cast (Eq.trans h ?_)
  have e : List.range' 0 (x.length + 1 - 0) = List.range (x.length + 1) := by rw [List.range_eq_range']; simp
  rw [e, List.range_succ, List.filter_append]
  have hn : x.cps.toList[x.length]? = none := List.getElem?_eq_none (by rw [cps_len]; exact Nat.le_refl _)
  have e2 : ([x.length].filter fun i => x.cps.toList[i]? == some c) = [] := by
    apply List.filter_eq_nil_iff.mpr
    intro a ha
    obtain rfl := List.mem_singleton.mp ha
    rw [hn]; simp
  rw [e2, List.append_nil]
  simp
theorem count_o (s : Str) : Txt.count s ("o" : Str) = (((List.range s.length).filter (seatP s)).length : Nat) := by
  rw [sOf_o, ← sOf_one, count_one]
  have e : (fun i => s.cps.toList[i]? == some 111) = seatP s := by
    funext i; unfold seatP; simp
  rw [e]

/-- a run of a row -/
def bRun (row : Int) (b : Nat × Nat) : Rn := (row, (b.1 : Int), (b.2 : Int))
def tRun (t : Nat × Nat × Nat) : Rn := bRun (t.1 : Int) t.2
/-! ### the blocks of a hall, one by one -/
def hallTs (g : Str → List (Nat × Nat)) : Nat → List Str → List (Nat × Nat × Nat)
  | _, [] => []
  | k, s :: rs => (g s).map (fun b => (k, b)) ++ hallTs g (k + 1) rs
theorem hallTs_mem {g : Str → List (Nat × Nat)} : ∀ (rs : List Str) (k : Nat) (t : Nat × Nat × Nat), t ∈ hallTs g k rs → k ≤ t.1 ∧ ∃ s, rs[t.1 - k]? = some s ∧ t.2 ∈ g s
  | [], k, t, h => by simp [hallTs] at h
  | s :: rs, k, t, h => by
    rcases List.mem_append.mp h with h | h
    · obtain ⟨b, hb, rfl⟩ := List.mem_map.mp h
      exact ⟨Nat.le_refl _, s, by simp, hb⟩
    · obtain ⟨h1, s', h2, h3⟩ := hallTs_mem rs (k + 1) t h
      refine ⟨by omega, s', ?_, h3⟩
      rw [show t.1 - k = (t.1 - (k + 1)) + 1 by omega, List.getElem?_cons_succ]
      exact h2
theorem hallTs_up {g : Str → List (Nat × Nat)} (hg : ∀ s, (g s).Pairwise fun b c => b.1 + b.2 < c.1) : ∀ (rs : List Str) (k : Nat), (hallTs g k rs).Pairwise fun t u => t.1 < u.1 ∨ (t.1 = u.1 ∧ t.2.1 + t.2.2 < u.2.1)
  | [], k => by simp [hallTs]
  | s :: rs, k => by
    refine List.pairwise_append.mpr ⟨?_, hallTs_up hg rs (k + 1), fun t ht u hu => ?_⟩
    · exact List.pairwise_map.mpr ((hg s).imp fun h => .inr ⟨rfl, h⟩)
    · obtain ⟨b, _, rfl⟩ := List.mem_map.mp ht
      have := (hallTs_mem rs (k + 1) u hu).1
      exact .inl (by show k < u.1; omega)
theorem hallTs_sum {g : Str → List (Nat × Nat)} {f : Str → Nat} (hg : ∀ s, ((g s).map (·.2)).sum = f s) : ∀ (rs : List Str) (k : Nat), ((hallTs g k rs).map (·.2.2)).sum = (rs.map f).sum
  | [], k => rfl
  | s :: rs, k => by
    show ((((g s).map (fun b => (k, b))) ++ hallTs g (k + 1) rs).map (·.2.2)).sum = _
    rw [List.map_append, List.sum_append_nat, hallTs_sum hg rs (k + 1), List.map_map, List.map_cons, List.sum_cons, ← hg s]
    rfl
/-- seats of the rows -/
theorem isSeat_nat {rows : List Str} {r : Nat} {s : Str} (hs : rows[r]? = some s) (p : Nat) : isSeat rows (r : Int) (p : Int) = seatP s p := by
  unfold isSeat signAt seatP
  rw [if_pos ⟨by omega, by omega⟩]
  simp [hs]
theorem isSeat_neg {rows : List Str} {r p : Int} (h : p < 0) : isSeat rows r p = false := by
  unfold isSeat signAt
  rw [if_neg (by omega)]
  rfl
def blocksRow (s : Str) : List (Nat × Nat) := runsP (seatP s) s.length
theorem dot_at (s : Str) {i c : Nat} (h : (s ++ ("." : Str)).cps[i]? = some c) : decide (c = 111) = seatP s i := by
  have e : (s ++ ("." : Str)).cps.toList = s.cps.toList ++ [46] := by
    rw [sOf_dot, ← of_sOf s, sOf_app]; simp [sOf_cps]
  have h' : (s.cps.toList ++ [46])[i]? = some c := by rw [← e]; simpa using h
  unfold seatP
  have e2 : s.cps[i]? = s.cps.toList[i]? := by simp
  rw [e2]
  by_cases hi : i < s.cps.toList.length
  · rw [List.getElem?_append_left hi] at h'
    rw [h']
    by_cases q : c = 111
    · subst q; rfl
    · simp [q]
  · rw [List.getElem?_append_right (by omega)] at h'
    rw [List.getElem?_eq_none (by omega)]
    have : c = 46 := by
      have h3 := List.mem_of_getElem? h'
      simpa using h3
    subst this
    decide
theorem seatP_end (s : Str) : seatP s s.length = false := by
  unfold seatP
  rw [Array.getElem?_eq_none (by show s.cps.size ≤ s.length; exact Nat.le_refl _)]
  rfl
theorem blocksRow_ok (s : Str) : RunsOk (seatP s) s.length (blocksRow s) := runsP_ok (seatP_end s)
theorem runs_count {f : Nat → Bool} {n : Nat} {l : List (Nat × Nat)} (h : RunsOk f n l) : l.length ≤ n := by
  have h1 : l.length ≤ (l.map (·.2)).sum := by
    have hk := h.ok
    clear h
    induction l with
    | nil => simp
    | cons b r ih =>
      have := (hk b (by simp)).1
      have h2 := ih fun c hc => hk c (by simp [hc])
      simp
      omega
  rw [h.sum] at h1
  have := List.length_filter_le f (List.range n)
  simp at this
  omega
theorem hallTs_snoc (g : Str → List (Nat × Nat)) : ∀ (rs : List Str) (k : Nat) (s : Str), hallTs g k (rs ++ [s]) = hallTs g k rs ++ (g s).map (fun b => (k + rs.length, b))
  | [], k, s => by simp [hallTs]
  | r :: rs, k, s => by
    show (g r).map (fun b => (k, b)) ++ hallTs g (k + 1) (rs ++ [s]) = (g r).map (fun b => (k, b)) ++ hallTs g (k + 1) rs ++ _
    rw [hallTs_snoc g rs (k + 1) s, List.append_assoc]
    congr 2
    rw [show k + 1 + rs.length = k + (r :: rs).length by simp only [List.length_cons]; omega]
theorem hallTs_len {g : Str → List (Nat × Nat)} {n : Nat} : ∀ (rs : List Str) (k : Nat), (∀ s ∈ rs, (g s).length ≤ n) → (hallTs g k rs).length ≤ n * rs.length
  | [], _, _ => by simp [hallTs]
  | r :: rs, k, h => by
    have h1 := h r (by simp)
    have h2 := hallTs_len rs (k + 1) fun s hs => h s (by simp [hs])
    show ((g r).map (fun b => (k, b)) ++ hallTs g (k + 1) rs).length ≤ n * (rs.length + 1)
    rw [List.length_append, Nat.mul_add, List.length_map]
    omega
def hallRs (rows : List Str) : List Rn := (hallTs blocksRow 0 rows).map tRun
theorem hallRs_snoc (rs : List Str) (s : Str) : hallRs (rs ++ [s]) = hallRs rs ++ (blocksRow s).map (bRun (rs.length : Int)) := by
  unfold hallRs
  rw [hallTs_snoc, List.map_append, List.map_map, Nat.zero_add]
  rfl

/-! ### the blocks of a row -/
def pre_blocks_of_row : Pre := fun ds R o => ∃ (row : Int) (s : Str), ds = [.int row, .str s] ∧ R = [] ∧ s.length ≤ 100 ∧ o = .new (.lst (((blocksRow s).map (bRun row)).map encRun))
theorem n_blocks_of_row {c : Ct} {G : Res} {ρ : En} {ta tb : TE} {row : Int} {s : Str} {E : XK} (ha : EvP c G ρ ta (.int row)) (hb : EvP c G ρ tb (.str s)) (hz : s.length ≤ 100) :
    EvN c G ρ (tCall (spD c.K pre_blocks_of_row) [] E (tCons ta (tCons tb tNil))) (.lst (((blocksRow s).map (bRun row)).map encRun)) :=
  n_call (a_cons ha (a_cons hb a_nil)) (R := []) (fun x hx => nomatch hx) ⟨row, s, rfl, rfl, hz, rfl⟩ fun _ e => nomatch e
theorem ok_blocks_of_row {P : Program} {w : World} {K : PySem.W.Frag} {mg : Str → Option Value} {base : Heap} (T : Top K mg) : FnOk P w K mg base CX0 1 T.a_blocks_of_row T.f_blocks_of_row ["row", "signs"] (spD K pre_blocks_of_row) := by
  refine fnOk T.F_blocks_of_row sc_blocks_of_row (fun ds R o h => by obtain ⟨row, s, rfl, _⟩ := h; rfl) fun ds R o h cdv A outer s H E hr => ?_
  obtain ⟨row, s, rfl, rfl, hz, rfl⟩ := h
  refine ⟨_, (pss_cons (ps_set (i := 2) sc_blocks_of_row.nd rfl (Or.inl rfl) (pe_lst pa_nil))
  (pss_cons (ps_set (i := 3) sc_blocks_of_row.nd rfl (Or.inl rfl) pe_int)
  (pss_cons (ps_for PassesOwn.never rfl (Xb.pi_enumS (by rfl) T.m_enumerate (pa_cons (pe_op op_add_str (pv 1) (pe_glob rfl T.h_GAP T.r_GAP)) pa_nil)) (pg_tup rfl (pgs_cons (pg_name (i := 4) sc_blocks_of_row.nd rfl (Or.inl rfl)) (pgs_cons (pg_name (i := 5) sc_blocks_of_row.nd rfl (Or.inl rfl)) pgs_nil)))
  (pss_one (ps_if (pt_cmpR op_eq (pv 5) (pe_glob rfl T.h_SEAT T.r_SEAT) (nomark _))
  (pss_one (ps_aug (i := 3) sc_blocks_of_row.nd rfl (Or.inl rfl) pe_int ip_add))
  (pss_one (ps_if (pt_cmpR op_gt (pv 3) pe_int (nomark _))
  (pss_cons (ps_expr (pe_bm PySem.F.plainAttrs_list PySem.F.slot_list_append PySem.F.type_list_append mt_append (pv 2) (pa_cons (pe_tup (pa_cons (pv 0) (pa_cons (pe_op op_sub (pv 4) (pv 3)) (pa_cons (pv 3) pa_nil)))) pa_nil)))
  (pss_one (ps_set (i := 3) sc_blocks_of_row.nd rfl (Or.inl rfl) pe_int)))
  pss_nil)))))
  (pss_one (ps_ret (pv 2)))))), fun F Q post => ?_⟩
  walk_at "go"
  walk_at "own"
  intro p
  walk_at "nrm"
  walk_at "asg"
  have h1l : ("." : Str).length = 1 := by decide +kernel
  have hsz : (s ++ ("." : Str)).cps.size = s.length + 1 := by
    show (s.cps ++ ("." : Str).cps).size = _
    rw [Array.size_append]
    exact congrArg (s.cps.size + ·) h1l
  refine sx_forE (gr := []) (ds := signsD (s ++ ("." : Str))) (fun i => [(p, .lst (((scanP (seatP s) i).1.map (bRun row)).map encRun))]) (fun i => [some (.int row), some (.str s), some (.ref p), some (.int ((scanP (seatP s) i).2 : Int)), none, none]) ?_ (fun x hx => nomatch hx) rfl ⟨rfl, rfl, rfl, rfl, trivial⟩ (fun i d hd S' hS => ?_) ?_
  · walk_at "pv"
  · unfold signsD at hd
    rw [List.getElem?_map] at hd
    obtain ⟨c, hc, rfl⟩ := Option.map_eq_some_iff.mp hd
    have hf := dot_at s (i := i) (c := c) (by simpa using hc)
    have hi : i < s.length + 1 := by
      have := (List.getElem?_eq_some_iff.mp hc).1
      rw [Array.length_toList, hsz] at this
      exact this
    have hm := (scanP_ok (seatP s) i).le
    have hlen : (scanP (seatP s) i).1.length ≤ i := by
      have k := scanP_ok (seatP s) i
      have h1 : (scanP (seatP s) i).1.length ≤ ((scanP (seatP s) i).1.map (·.2)).sum := by
        have hk := k.ok
        generalize (scanP (seatP s) i).1 = l at hk
        induction l with
        | nil => simp
        | cons b r ih =>
          have := (hk b (by simp)).1
          have h2 := ih fun c hc => hk c (by simp [hc])
          simp
          omega
      have h2 := k.sum
      have h3 := List.length_filter_le (seatP s) (List.range i)
      rw [List.length_range] at h3
      omega
    walk_at "nrm"
    walk_at "if1" <;> intro hb
    · rw [sign_o, hf] at hb
      apply Sx.last
      apply sx_aug
      · exact rfl
      · walk_at "pv"
      walk_at "nrm"
      walk_at "end"
      · rw [scanP_one hb]
      · rw [scanP_one hb]
        exact ⟨rfl, rfl, rfl, rfl, trivial⟩
    · rw [sign_o, hf] at hb
      have hb' : ¬ seatP s i = true := by simp [hb]
      walk_at "last"
      walk_at "when" <;> intro hq
      · have h0 : 0 < (scanP (seatP s) i).2 := by simpa using hq
        walk_at "app"
        · simp; omega
        walk_at "last"
        walk_at "asg"
        walk_at "into"
        walk_at "end"
        · rw [scanP_cut hb' h0, List.map_append, List.map_append]
          have e6 : (((i - (scanP (seatP s) i).2 : Nat) : Int)) = (i : Int) - ((scanP (seatP s) i).2 : Int) := by omega
          simp [bRun, e6, encRun]
        · rw [scanP_cut hb' h0]
          exact ⟨rfl, rfl, rfl, rfl, trivial⟩
      · have h0 : ¬ 0 < (scanP (seatP s) i).2 := by simpa using hq
        walk_at "end"
        · rw [scanP_stay hb' h0]
        · rw [scanP_stay hb' h0]
          exact ⟨rfl, rfl, rfl, rfl, trivial⟩
  · have e : (signsD (s ++ ("." : Str))).length = s.length + 1 := by unfold signsD; rw [List.length_map, Array.length_toList, hsz]
    rw [e]
    exact sx_retG (p_var rfl) List.mem_cons_self post
local macro_rules | `(tactic| walk_at "pv") => `(tactic| ((with_reducible apply n_blocks_of_row) <;> (try walk_at "pv")))

/-! ### the blocks of a hall -/
def pre_blocks_of : Pre := fun ds R o => ∃ (rows : List Str), ds = [.lst (rows.map D.str)] ∧ R = [] ∧ rows.length ≤ 100 ∧ Short rows ∧ o = .new (.lst ((hallRs rows).map encRun))
theorem n_blocks_of {c : Ct} {G : Res} {ρ : En} {ta : TE} {rows : List Str} {E : XK} (ha : EvP c G ρ ta (.lst (rows.map D.str))) (hl : rows.length ≤ 100) (hs : Short rows) :
    EvN c G ρ (tCall (spD c.K pre_blocks_of) [] E (tCons ta tNil)) (.lst ((hallRs rows).map encRun)) :=
  n_call (a_cons ha a_nil) (R := []) (fun x hx => nomatch hx) ⟨rows, rfl, rfl, hl, hs, rfl⟩ fun _ e => nomatch e
theorem ok_blocks_of {P : Program} {w : World} {K : PySem.W.Frag} {mg : Str → Option Value} {base : Heap} (T : Top K mg) : FnOk P w K mg base CX0 2 T.a_blocks_of T.f_blocks_of ["rows"] (spD K pre_blocks_of) := by
  refine fnOk T.F_blocks_of sc_blocks_of (fun ds R o h => by obtain ⟨rows, rfl, _⟩ := h; rfl) fun ds R o h cdv A outer s H E hr => ?_
  obtain ⟨rows, rfl, rfl, hn, hsh, rfl⟩ := h
  refine ⟨_, (pss_cons (ps_set (i := 1) sc_blocks_of.nd rfl (Or.inl rfl) (pe_lst pa_nil))
  (pss_cons (ps_for PassesOwn.never rfl (pi_enum (by rfl) T.m_enumerate (pa_cons (pv 0) pa_nil)) (pg_tup rfl (pgs_cons (pg_name (i := 2) sc_blocks_of.nd rfl (Or.inl rfl)) (pgs_cons (pg_name (i := 3) sc_blocks_of.nd rfl (Or.inl rfl)) pgs_nil)))
  (pss_one (ps_expr (pe_bm PySem.F.plainAttrs_list PySem.F.slot_list_extend PySem.F.type_list_extend mt_extend (pv 1) (pa_cons (pe_call (ok_blocks_of_row T) (hr.mono (by decide)) (by rfl) T.g_blocks_of_row T.F_blocks_of_row.kp T.b_blocks_of_row .nil pass0 (pa_cons (pv 2) (pa_cons (pv 3) pa_nil))) pa_nil)))))
  (pss_one (ps_ret (pv 1))))), fun F Q post => ?_⟩
  walk_at "go"
  walk_at "own"
  intro p
  walk_at "nrm"
  refine sx_forE (gr := []) (ds := rows.map D.str) (fun i => [(p, .lst ((hallRs (rows.take i)).map encRun))]) (fun i => [some (.lst (rows.map D.str)), some (.ref p), none, none]) ?_ (fun x hx => nomatch hx) rfl ⟨rfl, rfl, trivial⟩ (fun i d hd S' hS => ?_) ?_
  · walk_at "pv"
  · rw [List.getElem?_map] at hd
    obtain ⟨s, hs, rfl⟩ := Option.map_eq_some_iff.mp hd
    have hsz : s.length ≤ 100 := hsh s (List.mem_of_getElem? hs)
    have hil := (List.getElem?_eq_some_iff.mp hs).1
    have hb1 := runs_count (blocksRow_ok s)
    have hb2 : (hallTs blocksRow 0 (rows.take i)).length ≤ 100 * (rows.take i).length :=
      hallTs_len _ _ fun r hr => Nat.le_trans (runs_count (blocksRow_ok r)) (hsh r (List.mem_of_mem_take hr))
    rw [List.length_take] at hb2
    walk_at "nrm"
    apply Sx.last
    apply sx_ext 0
    · walk_at "pv"
    · exact rfl
    · walk_at "pv"
    · simp [hallRs]; omega
    walk_at "nrm"
    walk_at "end"
    · rw [List.take_add_one, hs]
      show [(p, D.lst ((hallRs (rows.take i)).map encRun ++ _))] = [(p, D.lst ((hallRs (rows.take i ++ [s])).map encRun))]
      rw [hallRs_snoc, List.map_append, show ((rows.take i).length : Int) = (i : Int) by rw [List.length_take]; omega]
    · walk_at "le"
  · rw [List.length_map, List.take_length]
    exact sx_retG (p_var rfl) List.mem_cons_self post
local macro_rules | `(tactic| walk_at "pv") => `(tactic| ((with_reducible apply n_blocks_of) <;> (try walk_at "pv")))

/-! ### rows with the taken seats shown by a sign -/
def tkn (td : TD) (r p : Int) : Bool := (valA td (r, p)).isSome
def shownS (td : TD) (r : Int) (s : Str) (sg : Nat) : Str := sOf ((List.range s.length).map fun (i : Nat) => if tkn td r (i : Int) then sg else s.cps.toList.getD i 0)
theorem shownS_len (td : TD) (r : Int) (s : Str) (sg : Nat) : (shownS td r s sg).length = s.length := by rw [shownS, sOf_len]; simp
def shown : Nat → TD → List Str → Nat → List Str
  | _, _, [], _ => []
  | k, td, s :: rs, sg => shownS td (k : Int) s sg :: shown (k + 1) td rs sg
theorem shown_snoc (td : TD) (sg : Nat) : ∀ (rs : List Str) (k : Nat) (s : Str), shown k td (rs ++ [s]) sg = shown k td rs sg ++ [shownS td ((k + rs.length : Nat) : Int) s sg]
  | [], k, s => by simp [shown]
  | r :: rs, k, s => by
    show shownS td (k : Int) r sg :: shown (k + 1) td (rs ++ [s]) sg = _
    rw [shown_snoc td sg rs (k + 1) s, show k + 1 + rs.length = k + (r :: rs).length by simp only [List.length_cons]; omega]
    rfl
theorem shown_len (td : TD) (sg : Nat) : ∀ (rs : List Str) (k : Nat), (shown k td rs sg).length = rs.length
  | [], _ => rfl
  | r :: rs, k => by show (shown (k + 1) td rs sg).length + 1 = _; rw [shown_len td sg rs (k + 1)]; rfl
theorem shown_short (td : TD) (sg : Nat) {n : Nat} : ∀ (rs : List Str) (k : Nat), (∀ s ∈ rs, s.length ≤ n) → ∀ s ∈ shown k td rs sg, s.length ≤ n
  | [], _, _, s, hs => by cases hs
  | r :: rs, k, h, s, hs => by
    rcases List.mem_cons.mp hs with rfl | hs
    · rw [shownS_len]; exact h r (by simp)
    · exact shown_short td sg rs (k + 1) (fun x hx => h x (by simp [hx])) s hs
theorem shown_at (td : TD) (sg : Nat) : ∀ (rs : List Str) (k i : Nat), (shown k td rs sg)[i]? = (rs[i]?).map fun s => shownS td ((k + i : Nat) : Int) s sg
  | [], _, _ => by simp [shown]
  | r :: rs, k, 0 => by simp [shown]
  | r :: rs, k, i + 1 => by
    show (shown (k + 1) td rs sg)[i]? = (rs[i]?).map _
    rw [shown_at td sg rs (k + 1) i, show k + 1 + i = k + (i + 1) by omega]
/-- texts of one sign each, joined -/
theorem join_signs : ∀ (l : List Nat), Txt.join ("" : Str) (l.map fun k => (⟨#[k]⟩ : Str)) = sOf l := by
  intro l
  have h := eq_of_beq (join_plain_closes ("" : Str) (l.map fun k => (⟨#[k]⟩ : Str)))
  rw [h, sOf_nil]
  clear h
  show Str.join ⟨#[]⟩ _ = _
  induction l with
  | nil => rfl
  | cons k l ih =>
    rw [List.map_cons, join_nil_cons, ih, sOf_one, sOf_app]
    rfl
/-- the seats that are shown: free ones -/
theorem shown_seat {td : TD} {r : Int} {s : Str} {p : Nat} : seatP (shownS td r s 46) p = (seatP s p && !tkn td r (p : Int)) := by
  unfold seatP shownS sOf
  simp only [List.getElem?_toArray, List.getElem?_map]
  by_cases hp : p < s.length
  · rw [List.getElem?_range hp]
    have hg : s.cps.toList[p]? = some (s.cps.toList.getD p 0) := by
      rw [List.getD_eq_getElem?_getD, List.getElem?_eq_getElem (by rw [cps_len]; exact hp)]
      rfl
    have hg2 : s.cps[p]? = some (s.cps.toList.getD p 0) := by rw [← hg]; simp
    rw [hg2]
    cases ht : tkn td r (p : Int) <;> simp [ht]
  · rw [List.getElem?_eq_none (by simp; omega), Array.getElem?_eq_none (by show s.length ≤ p; omega)]
    rfl
/-! ### the seats of a hall, one by one -/
def seatsK : Nat → List Str → List Spot
  | _, [] => []
  | k, s :: rs => ((List.range s.length).filter (seatP s)).map (fun (i : Nat) => ((k : Int), (i : Int))) ++ seatsK (k + 1) rs
theorem seatP_lt {s : Str} {p : Nat} (h : seatP s p = true) : p < s.length := by
  unfold seatP at h
  by_cases q : p < s.cps.size
  · exact q
  · rw [Array.getElem?_eq_none (by omega)] at h; cases h
theorem seatsK_mem : ∀ (rs : List Str) (k : Nat) (x : Spot), x ∈ seatsK k rs ↔ ∃ i p : Nat, ∃ s, rs[i]? = some s ∧ seatP s p = true ∧ x = (((k + i : Nat) : Int), (p : Int))
  | [], k, x => by simp [seatsK]
  | r :: rs, k, x => by
    rw [seatsK, List.mem_append, seatsK_mem rs (k + 1) x]
    constructor
    · rintro (h | ⟨i, p, s, h1, h2, h3⟩)
      · obtain ⟨p, hp, rfl⟩ := List.mem_map.mp h
        exact ⟨0, p, r, rfl, (List.mem_filter.mp hp).2, rfl⟩
      · exact ⟨i + 1, p, s, h1, h2, by rw [h3, show k + 1 + i = k + (i + 1) by omega]⟩
    · rintro ⟨i, p, s, h1, h2, h3⟩
      cases i with
      | zero =>
        simp at h1
        subst h1
        exact .inl (List.mem_map.mpr ⟨p, List.mem_filter.mpr ⟨List.mem_range.mpr (seatP_lt h2), h2⟩, h3.symm⟩)
      | succ i => exact .inr ⟨i, p, s, by simpa using h1, h2, by rw [h3, show k + 1 + i = k + (i + 1) by omega]⟩
theorem nodup_map_on {α β : Type} {f : α → β} {l : List α} (h : l.Nodup) (hf : ∀ x ∈ l, ∀ y ∈ l, f x = f y → x = y) : (l.map f).Nodup := by
  induction l with
  | nil => exact List.nodup_nil
  | cons a l ih =>
    rw [List.nodup_cons] at h
    rw [List.map_cons, List.nodup_cons]
    refine ⟨fun hm => ?_, ih h.2 fun x hx y hy => hf x (List.mem_cons_of_mem _ hx) y (List.mem_cons_of_mem _ hy)⟩
    obtain ⟨x, hx, e⟩ := List.mem_map.mp hm
    have := hf x (List.mem_cons_of_mem _ hx) a List.mem_cons_self e
    subst this
    exact h.1 hx
theorem seatsK_nodup : ∀ (rs : List Str) (k : Nat), (seatsK k rs).Nodup
  | [], _ => List.nodup_nil
  | r :: rs, k => by
    rw [seatsK, List.nodup_append]
    refine ⟨nodup_map_on (List.Pairwise.filter _ List.nodup_range) fun x _ y _ e => ?_, seatsK_nodup rs (k + 1), fun x hx y hy e => ?_⟩
    · have := (Prod.mk.inj e).2; omega
    · subst e
      obtain ⟨p, _, rfl⟩ := List.mem_map.mp hx
      obtain ⟨i, q, s, _, _, e⟩ := (seatsK_mem rs (k + 1) _).mp hy
      have := (Prod.mk.inj e).1
      omega
theorem seatsK_len : ∀ (rs : List Str) (k : Nat), (seatsK k rs).length = (rs.map fun s => ((List.range s.length).filter (seatP s)).length).sum
  | [], _ => rfl
  | r :: rs, k => by
    rw [seatsK, List.length_append, seatsK_len rs (k + 1), List.length_map, List.map_cons, List.sum_cons]
theorem seatsK_shown (td : TD) : ∀ (rs : List Str) (k : Nat), seatsK k (shown k td rs 46) = (seatsK k rs).filter fun x => !tkn td x.1 x.2
  | [], _ => rfl
  | r :: rs, k => by
    rw [shown, seatsK, seatsK, List.filter_append, seatsK_shown td rs (k + 1), shownS_len, List.filter_map, List.filter_filter]
    congr 2
    exact List.filter_congr fun p _ => by rw [shown_seat]; simp [Function.comp, Bool.and_comm]
theorem filter_two {α : Type} (p : α → Bool) : ∀ l : List α, (l.filter p).length + (l.filter fun x => !p x).length = l.length
  | [] => rfl
  | a :: l => by
    have := filter_two p l
    cases h : p a <;> simp [h] <;> omega
/-- of a table of taken seats, each one a seat: free ones and taken ones are all -/
theorem free_count {td : TD} {rows : List Str} (hn : (td.map (·.1)).Nodup) (hs : ∀ e ∈ td, e.1 ∈ seatsK 0 rows) : (seatsK 0 (shown 0 td rows 46)).length + td.length = (seatsK 0 rows).length := by
  rw [seatsK_shown, ← filter_two (fun x : Spot => tkn td x.1 x.2) (seatsK 0 rows), Nat.add_comm]
  congr 1
  have e : td.length = (td.map (·.1)).length := by simp
  rw [e]
  refine List.Perm.length_eq ((List.perm_ext_iff_of_nodup hn (List.Pairwise.filter _ (seatsK_nodup rows 0))).mpr fun x => ?_)
  rw [List.mem_filter]
  constructor
  · intro hx
    obtain ⟨e, he, rfl⟩ := List.mem_map.mp hx
    exact ⟨hs e he, valA_isSome.mpr hx⟩
  · rintro ⟨_, h⟩
    exact valA_isSome.mp h

/-! ### with the taken seats shown -/
def pre_with_taken : Pre := fun ds R o => ∃ (rows : List Str) (td : TD) (sg : Nat), ds = [.lst (rows.map D.str), tdD td, .str ⟨#[sg]⟩] ∧ R = [] ∧ rows.length ≤ 100 ∧ Short rows ∧ o = .new (.lst ((shown 0 td rows sg).map D.str))
theorem n_with_taken {c : Ct} {G : Res} {ρ : En} {ta tb tc : TE} {rows : List Str} {td : TD} {sg : Nat} {E : XK} (ha : EvP c G ρ ta (.lst (rows.map D.str))) (hb : EvP c G ρ tb (tdD td)) (hc : EvP c G ρ tc (.str ⟨#[sg]⟩)) (hl : rows.length ≤ 100) (hs : Short rows) :
    EvN c G ρ (tCall (spD c.K pre_with_taken) [] E (tCons ta (tCons tb (tCons tc tNil)))) (.lst ((shown 0 td rows sg).map D.str)) :=
  n_call (a_cons ha (a_cons hb (a_cons hc a_nil))) (R := []) (fun x hx => nomatch hx) ⟨rows, td, sg, rfl, rfl, hl, hs, rfl⟩ fun _ e => nomatch e
theorem ok_with_taken {P : Program} {w : World} {K : PySem.W.Frag} {mg : Str → Option Value} {base : Heap} (T : Top K mg) : FnOk P w K mg base CX0 1 T.a_with_taken T.f_with_taken ["rows", "taken", "sign"] (spD K pre_with_taken) := by
  refine fnOk T.F_with_taken sc_with_taken (fun ds R o h => by obtain ⟨rows, td, sg, rfl, _⟩ := h; rfl) fun ds R o h cdv A outer s H E hr => ?_
  obtain ⟨rows, td, sg, rfl, rfl, hn, hsh, rfl⟩ := h
  refine ⟨_, (pss_cons (ps_set (i := 3) sc_with_taken.nd rfl (Or.inl rfl) (pe_lst pa_nil))
  (pss_cons (ps_for PassesOwn.never rfl (pi_enum (by rfl) T.m_enumerate (pa_cons (pv 0) pa_nil)) (pg_tup rfl (pgs_cons (pg_name (i := 4) sc_with_taken.nd rfl (Or.inr rfl)) (pgs_cons (pg_name (i := 5) sc_with_taken.nd rfl (Or.inr rfl)) pgs_nil)))
  (pss_cons (by exact (ps_setLc (i := 6) (own := [("place", 7)]) (g := (gName 7)) (tt := tYes) rfl sc_with_taken.nd rfl rfl (sw_true rfl rfl rfl (by decide +kernel)) (by exact (pi_range1 (by rfl) T.m_range (pa_cons (pe_callB call_len_str (by rfl) T.m_len PySem.boot_len (pa_cons (pv 5) pa_nil)) pa_nil))) (blkOk_by (N := ["rows", "taken", "sign", "shown", "row", "signs", "places", "place"]) (sc := defScope s_with_taken) (by decide +kernel)) (fun _ _ _ _ _ => by exact (pg_name (i := 7) sc_with_taken.nd rfl (Or.inl rfl))) (fun _ _ _ _ _ => by exact pts_nil) (fun _ _ _ _ _ => by exact (pe_ifExp (pt_cmp (pc_din (hu_of hr) (pe_tup (pa_cons (pv 4) (pa_cons (pv 7) pa_nil))) (pv 1))) (pv 2) (pe_ix ix_str (pv 5) (pv 7) (fun _ _ => rfl))))))
  (pss_one (ps_expr (pe_bm PySem.F.plainAttrs_list PySem.F.slot_list_append PySem.F.type_list_append mt_append (pv 3) (pa_cons (pe_m1 PySem.F.slot_str_join PySem.F.type_str_join mt_join pe_str (pv 6)) pa_nil))))))
  (pss_one (ps_ret (pv 3))))), fun F Q post => ?_⟩
  walk_at "go"
  walk_at "own"
  intro p
  walk_at "nrm"
  refine sx_forE (gr := []) (ds := rows.map D.str) (fun i => [(p, .lst ((shown 0 td (rows.take i) sg).map D.str))]) (fun i => [some (.lst (rows.map D.str)), some (tdD td), some (.str ⟨#[sg]⟩), some (.ref p), none, none, none, none]) ?_ (fun x hx => nomatch hx) rfl ⟨rfl, rfl, rfl, rfl, trivial⟩ (fun i d hd S' hS => ?_) ?_
  · walk_at "pv"
  · rw [List.getElem?_map] at hd
    obtain ⟨s, hs, rfl⟩ := Option.map_eq_some_iff.mp hd
    have hsz : s.length ≤ 100 := hsh s (List.mem_of_getElem? hs)
    have hil := (List.getElem?_eq_some_iff.mp hs).1
    have hlen := shown_len td sg (rows.take i) 0
    rw [List.length_take] at hlen
    walk_at "nrm"
    apply sx_asg (d := .lst ((List.range s.length).map fun (q : Nat) => D.str (if tkn td (i : Int) (q : Int) then ⟨#[sg]⟩ else ⟨#[s.cps.toList.getD q 0]⟩)))
    · apply EvN.toP
      apply n_map (g := []) (us := List.range s.length) (enc := fun (q : Nat) => D.int (q : Int)) (f := fun (q : Nat) => D.str (if tkn td (i : Int) (q : Int) then ⟨#[sg]⟩ else ⟨#[s.cps.toList.getD q 0]⟩))
      · rw [show List.range s.length = List.range ((s.length : Int)).toNat by simp]
        walk_at "pv"
      · exact fun x hx => nomatch hx
      · intro u hu
        walk_at "pv"
      · decide
      · intro u hu
        have hu' := List.mem_range.mp hu
        have hat : atI s.cps.toList (u : Int) = some (s.cps.toList.getD u 0) := by
          apply at_sign (by omega)
          rw [Int.toNat_natCast, List.getD_eq_getElem?_getD, List.getElem?_eq_getElem (by rw [cps_len]; exact hu')]
          rfl
        apply p_ifS
        · show Dl.EvT _ _ _ _ (valA td ((i : Int), (u : Int))).isSome
          walk_at "pv"
        · intro _; walk_at "pv"
        · intro _; walk_at "pv"
      · simp; omega
    walk_at "nrm"
    apply Sx.last
    have e : (List.range s.length).map (fun (q : Nat) => if tkn td (i : Int) (q : Int) then (⟨#[sg]⟩ : Str) else ⟨#[s.cps.toList.getD q 0]⟩) = ((List.range s.length).map fun (q : Nat) => if tkn td (i : Int) (q : Int) then sg else s.cps.toList.getD q 0).map fun k => (⟨#[k]⟩ : Str) := by
      rw [List.map_map]
      refine List.map_congr_left fun q _ => ?_
      show _ = (⟨#[if tkn td (i : Int) (q : Int) then sg else s.cps.toList.getD q 0]⟩ : Str)
      split <;> rfl
    have ones : ∀ l : List Nat, ((l.map fun k => (⟨#[k]⟩ : Str)).map (·.length)).sum = l.length := by
      intro l
      induction l with
      | nil => rfl
      | cons k l ih => rw [List.map_cons, List.map_cons, List.sum_cons, ih, List.length_cons]; show 1 + _ = _; omega
    apply sx_app 0 (d := .str (shownS td (i : Int) s sg))
    · walk_at "pv"
    · exact rfl
    · refine EvP.is (p_joinF (us := List.range s.length) (g := fun (q : Nat) => if tkn td (i : Int) (q : Int) then (⟨#[sg]⟩ : Str) else ⟨#[s.cps.toList.getD q 0]⟩) (s := ("" : Str)) ?_ ?_ ?_) ?_
      · walk_at "pv"
      · walk_at "pv"
      · rw [e, ones]
        have z : ("" : Str).length = 0 := by decide +kernel
        rw [z]
        simp
        omega
      · rw [e, join_signs]
        rfl
    · simp; omega
    walk_at "nrm"
    walk_at "end"
    · rw [List.take_add_one, hs]
      show _ = [(p, D.lst ((shown 0 td (rows.take i ++ [s]) sg).map D.str))]
      rw [shown_snoc, List.map_append, show ((0 + (rows.take i).length : Nat) : Int) = (i : Int) by rw [List.length_take]; omega]
      rfl
    · walk_at "le"
  · rw [List.length_map, List.take_length]
    exact sx_retG (p_var rfl) List.mem_cons_self post
local macro_rules | `(tactic| walk_at "pv") => `(tactic| ((with_reducible apply n_with_taken) <;> (try walk_at "pv")))

/-! ### the free runs -/
def freeRs (rows : List Str) (td : TD) : List Rn := hallRs (shown 0 td rows 46)
def pre_runs_of : Pre := fun ds R o => ∃ (rows : List Str) (td : TD), ds = [.lst (rows.map D.str), tdD td] ∧ R = [] ∧ rows.length ≤ 100 ∧ Short rows ∧ o = .new (.lst ((freeRs rows td).map encRun))
theorem n_runs_of {c : Ct} {G : Res} {ρ : En} {ta tb : TE} {rows : List Str} {td : TD} {E : XK} (ha : EvP c G ρ ta (.lst (rows.map D.str))) (hb : EvP c G ρ tb (tdD td)) (hl : rows.length ≤ 100) (hs : Short rows) :
    EvN c G ρ (tCall (spD c.K pre_runs_of) [] E (tCons ta (tCons tb tNil))) (.lst ((freeRs rows td).map encRun)) :=
  n_call (a_cons ha (a_cons hb a_nil)) (R := []) (fun x hx => nomatch hx) ⟨rows, td, rfl, rfl, hl, hs, rfl⟩ fun _ e => nomatch e
theorem ok_runs_of {P : Program} {w : World} {K : PySem.W.Frag} {mg : Str → Option Value} {base : Heap} (T : Top K mg) : FnOk P w K mg base CX0 3 T.a_runs_of T.f_runs_of ["rows", "taken"] (spD K pre_runs_of) := by
  refine fnOk T.F_runs_of sc_runs_of (fun ds R o h => by obtain ⟨rows, td, rfl, _⟩ := h; rfl) fun ds R o h cdv A outer s H E hr => ?_
  obtain ⟨rows, td, rfl, rfl, hn, hsh, rfl⟩ := h
  refine ⟨_, (pss_one (ps_ret (pe_call (ok_blocks_of T) (hr.mono (by decide)) (by rfl) T.g_blocks_of T.F_blocks_of.kp T.b_blocks_of .nil pass0 (pa_cons (pe_call (ok_with_taken T) (hr.mono (by decide)) (by rfl) T.g_with_taken T.F_with_taken.kp T.b_with_taken .nil pass0 (pa_cons (pv 0) (pa_cons (pv 1) (pa_cons (pe_glob rfl T.h_GAP T.r_GAP) pa_nil)))) pa_nil)))), fun F Q post => ?_⟩
  walk_at "go"
  have h1 := shown_len td 46 rows 0
  have h2 : (shown 0 td rows 46).length ≤ 100 := by omega
  have h3 : Short (shown 0 td rows 46) := shown_short td 46 rows 0 hsh
  have hdot : ("." : Str) = ⟨#[46]⟩ := sOf_dot
  rw [hdot]
  walk_at "retN"
local macro_rules | `(tactic| walk_at "pv") => `(tactic| ((with_reducible apply n_runs_of) <;> (try walk_at "pv")))

/-! ### the run that fits -/
def encOR : Option Rn → D
  | none => .non
  | some r => encRun r
def fitStep (size : Int) : Option Rn → Rn → Option Rn
  | none, run => if size ≤ run.2.2 then some run else none
  | some b, run => if size ≤ run.2.2 ∧ run.2.2 < b.2.2 then some run else some b
def fitOf (runs : List Rn) (size : Int) : Option Rn := runs.foldl (fitStep size) none
theorem fold_succ {α β : Type} {f : β → α → β} {b : β} {l : List α} {i : Nat} {x : α} (h : l[i]? = some x) : (l.take (i + 1)).foldl f b = f ((l.take i).foldl f b) x := by
  rw [List.take_add_one, h, List.foldl_append]
  rfl
def pre_fitting : Pre := fun ds R o => ∃ (d : D) (runs : List Rn) (size : Int), ds = [d, .int size] ∧ Arg d R (.lst (runs.map encRun)) ∧ o = .ret (encOR (fitOf runs size))
theorem p_fitting {c : Ct} {G : Res} {ρ : En} {ta tb : TE} {d : D} {R : Res} {runs : List Rn} {size : Int} {E : XK} (ha : EvP c G ρ ta d) (m : May c G d (.lst (runs.map encRun)) R) (hb : EvP c G ρ tb (.int size)) :
    EvP c G ρ (tCall (spD c.K pre_fitting) [] E (tCons ta (tCons tb tNil))) (encOR (fitOf runs size)) :=
  p_call (a_cons ha (a_cons hb a_nil)) m.2 ⟨d, runs, size, rfl, m.1, rfl⟩
theorem ok_fitting {P : Program} {w : World} {K : PySem.W.Frag} {mg : Str → Option Value} {base : Heap} (T : Top K mg) : FnOk P w K mg base CX0 1 T.a_fitting T.f_fitting ["runs", "size"] (spD K pre_fitting) := by
  refine fnOk T.F_fitting sc_fitting (fun ds R o h => by obtain ⟨d, runs, size, rfl, _⟩ := h; rfl) fun ds R o h cdv A outer s H E hr => ?_
  obtain ⟨d, runs, size, rfl, hl, rfl⟩ := h
  refine ⟨_, (pss_cons (ps_set (i := 2) sc_fitting.nd rfl (Or.inl rfl) pe_non)
  (pss_cons (ps_for PassesOwn.never rfl (pi_list (pv 0)) (pg_name (i := 3) sc_fitting.nd rfl (Or.inl rfl))
  (pss_one (ps_if (PW.pt (pw_and (pt_cmpR op_ge (pe_ix ix_tup (pv 3) pe_int (fun _ _ => rfl)) (pv 1) (nomark _)) (pw_and1 (PW.pt (pw_or (pt_cmpR op_isN (pv 2) pe_non (nomark _)) (pw_or1 (pt_cmpR op_lt (pe_ix ix_tup (pv 3) pe_int (fun _ _ => rfl)) (pe_ix ix_tup (pv 2) pe_int (fun _ _ => rfl)) (nomark _))))))))
  (pss_one (ps_set (i := 2) sc_fitting.nd rfl (Or.inl rfl) (pv 3)))
  pss_nil)))
  (pss_one (ps_ret (pv 2))))), fun F Q post => ?_⟩
  walk_at "go"
  walk_at "asg"
  refine sx_forU (us := runs) (fun _ => []) (fun i => [some d, some (.int size), some (encOR ((runs.take i).foldl (fitStep size) none)), none]) (i_arg (p_var rfl) hl (fun x hx => hx)) (fun x hx => nomatch hx) rfl ⟨rfl, rfl, rfl, trivial⟩ (fun i u hu S' hS => ?_) ?_
  · walk_at "nrm"
    rw [fold_succ hu]
    generalize (runs.take i).foldl (fitStep size) none = best
    cases best with
    | none =>
      apply sx_if1
      · walk_at "pv"
      · intro hb
        have hb' : size ≤ u.2.2 := by simpa [D.isN, encOR] using hb
        apply Sx.last
        walk_at "asg"
        refine sx_end rfl rfl ⟨rfl, rfl, ?_, trivial⟩
        rw [fitStep, if_pos hb']
        rfl
      · intro hb
        have hb' : ¬ size ≤ u.2.2 := by simpa [D.isN, encOR] using hb
        refine sx_end rfl rfl ⟨rfl, rfl, ?_, trivial⟩
        rw [fitStep, if_neg hb']
    | some b =>
      apply sx_if1
      · walk_at "pv"
      · intro hb
        have hb' : size ≤ u.2.2 ∧ u.2.2 < b.2.2 := by simpa [D.isN, encOR, encRun] using hb
        apply Sx.last
        walk_at "asg"
        refine sx_end rfl rfl ⟨rfl, rfl, ?_, trivial⟩
        rw [fitStep, if_pos hb']
        rfl
      · intro hb
        have hb' : ¬ (size ≤ u.2.2 ∧ u.2.2 < b.2.2) := by simpa [D.isN, encOR, encRun] using hb
        refine sx_end rfl rfl ⟨rfl, rfl, ?_, trivial⟩
        rw [fitStep, if_neg hb']
  · refine sx_ret (p_var rfl) ?_
    rw [List.take_length]
    exact post
local macro_rules | `(tactic| walk_at "pv") => `(tactic| ((with_reducible apply p_fitting) <;> (try walk_at "pv")))

/-! ### what is asked of rows, names and sizes, where it holds -/
local macro_rules | `(tactic| walk_at "pv") => `(tactic| ((with_reducible apply Dl.p_inT); (focus (walk_at "pv")); (focus (walk_at "pv")); (focus (exact rfl)); (focus (exact rfl))))
theorem in_gap {c : Nat} (h : c = 111 ∨ c = 46) : inV (.str ⟨#[c]⟩) [V.str ("o" : Str), V.str ("." : Str)] = true := by
  rcases h with rfl | rfl <;> decide +kernel
def pre_need_row : Pre := fun ds R o => ∃ s : Str, ds = [.str s] ∧ R = [] ∧ GoodRow s ∧ o = .ret .non
theorem p_need_row {c : Ct} {G : Res} {ρ : En} {ta : TE} {s : Str} {E : XK} (ha : EvP c G ρ ta (.str s)) (hg : GoodRow s) : EvP c G ρ (tCall (spD c.K pre_need_row) [] E (tCons ta tNil)) .non :=
  p_call (a_cons ha a_nil) (R := []) (fun x hx => nomatch hx) ⟨s, rfl, rfl, hg, rfl⟩
theorem ok_need_row {P : Program} {w : World} {K : PySem.W.Frag} {mg : Str → Option Value} {base : Heap} (T : Top K mg) : FnOk P w K mg base (L2N.CX P w) 1 T.a_need_row T.f_need_row ["signs"] (spD K pre_need_row) := by
  refine Ho.fnOkXN T.F_need_row sc_need_row (fun ds R o h => by obtain ⟨s, rfl, _⟩ := h; rfl) fun ds R o h cdv A outer sh H E hr => ?_
  obtain ⟨s, rfl, rfl, hg, rfl⟩ := h
  refine ⟨_, (pss_cons (ps_if (PW.pt (pw_or (pt_not (pt_val (pe_callB call_isi (by rfl) T.m_isinstance PyProof.Rows.boot_isinstance (pa_cons (pv 0) (pa_cons (pe_bltn (v := .ty "str") (by rfl) T.m_str PyProof.Rows.boot_str rfl) pa_nil))))) (pw_or1 (pt_cmpR op_gt (pe_callB call_len_str (by rfl) T.m_len PySem.boot_len (pa_cons (pv 0) pa_nil)) (pe_glob rfl T.h_MOST_PLACES T.r_MOST_PLACES) (nomark _)))))
  (pss_one (Ho.ps_raiseDN rfl (L2N.takes_of rfl rfl rfl rfl) (L2N.pmk_own PySem.F.excBase_ValueError T.x_BadHall T.g_BadHall T.k_BadHall (raises_own T.b_BadHall T.t_BadHall) rfl)))
  pss_nil)
  (pss_one (ps_for (passes_of rfl) rfl (pi_str (pv 0)) (pg_name (i := 1) sc_need_row.nd rfl (Or.inl rfl))
  (pss_one (ps_if (pt_cmpR op_notIn_seq (pv 1) (pe_tup (pa_cons (pe_glob rfl T.h_SEAT T.r_SEAT) (pa_cons (pe_glob rfl T.h_GAP T.r_GAP) pa_nil))) (by rfl))
  (pss_one (Ho.ps_raiseDN rfl (L2N.takes_of rfl rfl rfl rfl) (L2N.pmk_own PySem.F.excBase_ValueError T.x_BadHall T.g_BadHall T.k_BadHall (raises_own T.b_BadHall T.t_BadHall) rfl)))
  pss_nil))))), fun F Q post => ?_⟩
  walk_at "go"
  have hz : s.length ≤ 100000 := by have := hg.1; omega
  have hz60 := hg.1
  apply sx_skip
  · refine EvT.is (t_or (a := false) (b := false) ?_ fun _ => ?_) rfl
    · apply EvT.is
      · walk_at "pv"
      · rfl
    · refine EvT.is (a := decide ((60 : Int) < (s.length : Int))) ?_ (by simp; omega)
      walk_at "pv"
  walk_at "last"
  refine sx_forU (us := s.cps.toList) (enc := fun k => D.str ⟨#[k]⟩) (gr := []) (fun _ => []) (fun _ => [some (.str s), none]) ?_ (fun x hx => nomatch hx) rfl ⟨rfl, trivial⟩ (fun i c hc S' hS => ?_) ?_
  · exact i_str (p_var rfl)
  · have hcm := hg.2 c (List.mem_of_getElem? hc)
    walk_at "nrm"
    walk_at "last"
    walk_at "skip"
    · show (!inV (.str ⟨#[c]⟩) [V.str ("o" : Str), V.str ("." : Str)]) = false
      rw [in_gap hcm]; rfl
    walk_at "end"
    · rfl
    · walk_at "le"
  · exact sx_fall fun σ F' H' A => post _ F' H' A.go .non
local macro_rules | `(tactic| walk_at "pv") => `(tactic| ((with_reducible apply p_need_row) <;> (try walk_at "pv")))
def pre_need_hall : Pre := fun ds R o => ∃ rows : List Str, ds = [.lst (rows.map D.str)] ∧ R = [] ∧ GoodHall rows ∧ o = .new (.lst (rows.map D.str))
theorem n_need_hall {c : Ct} {G : Res} {ρ : En} {ta : TE} {rows : List Str} {E : XK} (ha : EvP c G ρ ta (.lst (rows.map D.str))) (hg : GoodHall rows) : EvN c G ρ (tCall (spD c.K pre_need_hall) [] E (tCons ta tNil)) (.lst (rows.map D.str)) :=
  n_call (a_cons ha a_nil) (R := []) (fun x hx => nomatch hx) ⟨rows, rfl, rfl, hg, rfl⟩ fun _ e => nomatch e
theorem ok_need_hall {P : Program} {w : World} {K : PySem.W.Frag} {mg : Str → Option Value} {base : Heap} (T : Top K mg) : FnOk P w K mg base (L2N.CX P w) 2 T.a_need_hall T.f_need_hall ["rows"] (spD K pre_need_hall) := by
  refine Ho.fnOkXN T.F_need_hall sc_need_hall (fun ds R o h => by obtain ⟨s, rfl, _⟩ := h; rfl) fun ds R o h cdv A outer sh H E hr => ?_
  obtain ⟨rows, rfl, rfl, hg, rfl⟩ := h
  refine ⟨_, (pss_cons (ps_if (PW.pt (pw_or (pt_not (pt_val (pe_callB call_isi (by rfl) T.m_isinstance PyProof.Rows.boot_isinstance (pa_cons (pv 0) (pa_cons (pe_bltn (v := .ty "list") (by rfl) T.m_list PyProof.Rows.boot_list rfl) pa_nil))))) (pw_or1 (pt_not (pt_chain op_le op_le pe_int (pe_callB call_len_seq (by rfl) T.m_len PySem.boot_len (pa_cons (pv 0) pa_nil)) (pe_glob rfl T.h_MOST_ROWS T.r_MOST_ROWS))))))
  (pss_one (Ho.ps_raiseDN rfl (L2N.takes_of rfl rfl rfl rfl) (L2N.pmk_own PySem.F.excBase_ValueError T.x_BadHall T.g_BadHall T.k_BadHall (raises_own T.b_BadHall T.t_BadHall) rfl)))
  pss_nil)
  (pss_cons (ps_for (passes_of rfl) rfl (pi_list (pv 0)) (pg_name (i := 1) sc_need_hall.nd rfl (Or.inl rfl))
  (pss_one (ps_expr (pe_call (ok_need_row T) (hr.mono (by decide)) (by rfl) T.g_need_row T.F_need_row.kp T.b_need_row .nil (Ho.pass_outN (L2N.takes_of rfl rfl rfl rfl)) (pa_cons (pv 1) pa_nil)))))
  (pss_one (ps_ret (pe_callTy call_list_of (by rfl) T.m_list PyProof.Rows.boot_list (pa_cons (pv 0) pa_nil)))))), fun F Q post => ?_⟩
  walk_at "go"
  have h1 := hg.1
  have h2 := hg.2.1
  have hl : ((rows.map D.str).length : Int) = (rows.length : Int) := by simp
  apply sx_skip
  · refine EvT.is (t_or (a := false) (b := false) ?_ fun _ => ?_) rfl
    · apply EvT.is
      · walk_at "pv"
      · rfl
    · apply EvT.is
      · walk_at "pv"
      · simp
        omega
  refine sx_forU (us := rows) (enc := D.str) (gr := []) (fun _ => []) (fun _ => [some (.lst (rows.map D.str)), none]) ?_ (fun x hx => nomatch hx) rfl ⟨rfl, trivial⟩ (fun i s hs S' hS => ?_) ?_
  · exact i_list (p_var rfl)
  · have hgr := hg.2.2 s (List.mem_of_getElem? hs)
    walk_at "nrm"
    walk_at "last"
    walk_at "call"
    walk_at "end"
    · rfl
    · walk_at "le"
  · walk_at "retN"
local macro_rules | `(tactic| walk_at "pv") => `(tactic| ((with_reducible apply n_need_hall) <;> (try walk_at "pv")))
/-! names -/
def nameSigns : List Nat := ("abcdefghijklmnopqrstuvwxyz0123456789-" : Str).cps.toList
def GoodName (s : Str) : Prop := 1 ≤ s.length ∧ s.length ≤ 12 ∧ ∀ c ∈ s.cps.toList, c ∈ nameSigns
theorem signs_in : nameSigns.all (fun c => inS ("abcdefghijklmnopqrstuvwxyz0123456789-" : Str) ⟨#[c]⟩) = true := by decide +kernel
def pre_is_name : Pre := fun ds R o => ∃ s : Str, ds = [.str s] ∧ R = [] ∧ GoodName s ∧ o = .ret (.bl true)
theorem p_is_name {c : Ct} {G : Res} {ρ : En} {ta : TE} {s : Str} {E : XK} (ha : EvP c G ρ ta (.str s)) (hg : GoodName s) : EvP c G ρ (tCall (spD c.K pre_is_name) [] E (tCons ta tNil)) (.bl true) :=
  p_call (a_cons ha a_nil) (R := []) (fun x hx => nomatch hx) ⟨s, rfl, rfl, hg, rfl⟩
theorem ok_is_name {P : Program} {w : World} {K : PySem.W.Frag} {mg : Str → Option Value} {base : Heap} (T : Top K mg) : FnOk P w K mg base CX0 1 T.a_is_name T.f_is_name ["name"] (spD K pre_is_name) := by
  refine fnOk T.F_is_name sc_is_name (fun ds R o h => by obtain ⟨s, rfl, _⟩ := h; rfl) fun ds R o h cdv A outer sh H E hr => ?_
  obtain ⟨s, rfl, rfl, hg, rfl⟩ := h
  refine ⟨_, (pss_cons (ps_if (PW.pt (pw_or (pt_not (pt_val (pe_callB call_isi (by rfl) T.m_isinstance PyProof.Rows.boot_isinstance (pa_cons (pv 0) (pa_cons (pe_bltn (v := .ty "str") (by rfl) T.m_str PyProof.Rows.boot_str rfl) pa_nil))))) (pw_or1 (pt_not (pt_chain op_le op_le pe_int (pe_callB call_len_str (by rfl) T.m_len PySem.boot_len (pa_cons (pv 0) pa_nil)) (pe_glob rfl T.h_LONGEST_NAME T.r_LONGEST_NAME))))))
  (pss_one (ps_ret pe_bl))
  pss_nil)
  (pss_cons (ps_for PassesOwn.never rfl (pi_str (pv 0)) (pg_name (i := 1) sc_is_name.nd rfl (Or.inl rfl))
  (pss_one (ps_if (pt_cmpR op_notin_str (pv 1) (pe_glob rfl T.h_NAME_SIGNS T.r_NAME_SIGNS) (by rfl))
  (pss_one (ps_ret pe_bl))
  pss_nil)))
  (pss_one (ps_ret pe_bl)))), fun F Q post => ?_⟩
  walk_at "go"
  have h1 := hg.1
  have h2 := hg.2.1
  have hz : s.length ≤ 100000 := by omega
  apply sx_skip
  · refine EvT.is (t_or (a := false) (b := false) ?_ fun _ => ?_) rfl
    · apply EvT.is
      · walk_at "pv"
      · rfl
    · apply EvT.is
      · walk_at "pv"
      · simp
        omega
  refine sx_forU (us := s.cps.toList) (enc := fun k => D.str ⟨#[k]⟩) (gr := []) (fun _ => []) (fun _ => [some (.str s), none]) ?_ (fun x hx => nomatch hx) rfl ⟨rfl, trivial⟩ (fun i c hc S' hS => ?_) ?_
  · exact i_str (p_var rfl)
  · have hcm := List.all_eq_true.mp signs_in c (hg.2.2 c (List.mem_of_getElem? hc))
    walk_at "nrm"
    walk_at "last"
    walk_at "skip"
    · rw [hcm]; rfl
    walk_at "end"
    · rfl
    · walk_at "le"
  · walk_at "ret"
    rfl
local macro_rules | `(tactic| walk_at "pv") => `(tactic| ((with_reducible apply p_is_name) <;> (try walk_at "pv")))
def pre_need_name : Pre := fun ds R o => ∃ s : Str, ds = [.str s] ∧ R = [] ∧ GoodName s ∧ o = .ret .non
theorem p_need_name {c : Ct} {G : Res} {ρ : En} {ta : TE} {s : Str} {E : XK} (ha : EvP c G ρ ta (.str s)) (hg : GoodName s) : EvP c G ρ (tCall (spD c.K pre_need_name) [] E (tCons ta tNil)) .non :=
  p_call (a_cons ha a_nil) (R := []) (fun x hx => nomatch hx) ⟨s, rfl, rfl, hg, rfl⟩
theorem ok_need_name {P : Program} {w : World} {K : PySem.W.Frag} {mg : Str → Option Value} {base : Heap} (T : Top K mg) : FnOk P w K mg base (L2N.CX P w) 2 T.a_need_name T.f_need_name ["name"] (spD K pre_need_name) := by
  refine Ho.fnOkXN T.F_need_name sc_need_name (fun ds R o h => by obtain ⟨s, rfl, _⟩ := h; rfl) fun ds R o h cdv A outer sh H E hr => ?_
  obtain ⟨s, rfl, rfl, hg, rfl⟩ := h
  refine ⟨_, (pss_one (ps_if (pt_not (pt_val (pe_call (ok_is_name T) (hr.mono (by decide)) (by rfl) T.g_is_name T.F_is_name.kp T.b_is_name .nil pass0 (pa_cons (pv 0) pa_nil))))
  (pss_one (Ho.ps_raiseDN rfl (L2N.takes_of rfl rfl rfl rfl) (L2N.pmk_own PySem.F.excBase_ValueError T.x_BadName T.g_BadName T.k_BadName (raises_own T.b_BadName T.t_BadName) rfl)))
  pss_nil)), fun F Q post => ?_⟩
  walk_at "go"
  walk_at "last"
  walk_at "skip"
  · rfl
  exact sx_fall fun σ F' H' A => post _ F' H' A.go .non
local macro_rules | `(tactic| walk_at "pv") => `(tactic| ((with_reducible apply p_need_name) <;> (try walk_at "pv")))
def pre_need_size : Pre := fun ds R o => ∃ n : Int, ds = [.int n] ∧ R = [] ∧ 1 ≤ n ∧ n ≤ 2400 ∧ o = .ret .non
theorem p_need_size {c : Ct} {G : Res} {ρ : En} {ta : TE} {n : Int} {E : XK} (ha : EvP c G ρ ta (.int n)) (h1 : 1 ≤ n) (h2 : n ≤ 2400) : EvP c G ρ (tCall (spD c.K pre_need_size) [] E (tCons ta tNil)) .non :=
  p_call (a_cons ha a_nil) (R := []) (fun x hx => nomatch hx) ⟨n, rfl, rfl, h1, h2, rfl⟩
theorem ok_need_size {P : Program} {w : World} {K : PySem.W.Frag} {mg : Str → Option Value} {base : Heap} (T : Top K mg) : FnOk P w K mg base (L2N.CX P w) 1 T.a_need_size T.f_need_size ["size"] (spD K pre_need_size) := by
  refine Ho.fnOkXN T.F_need_size sc_need_size (fun ds R o h => by obtain ⟨n, rfl, _⟩ := h; rfl) fun ds R o h cdv A outer sh H E hr => ?_
  obtain ⟨n, rfl, rfl, h1, h2, rfl⟩ := h
  refine ⟨_, (pss_one (ps_if (PW.pt (pw_or (pt_val (pe_callB call_isi (by rfl) T.m_isinstance PyProof.Rows.boot_isinstance (pa_cons (pv 0) (pa_cons (pe_bltn (v := .ty "bool") (by rfl) T.m_bool PyProof.Rows.boot_bool rfl) pa_nil)))) (pw_or (pt_not (pt_val (pe_callB call_isi (by rfl) T.m_isinstance PyProof.Rows.boot_isinstance (pa_cons (pv 0) (pa_cons (pe_bltn (v := .ty "int") (by rfl) T.m_int PyProof.Rows.boot_int rfl) pa_nil))))) (pw_or1 (pt_not (pt_chain op_le op_le pe_int (pv 0) (pe_glob rfl T.h_LARGEST_SIZE T.r_LARGEST_SIZE)))))))
  (pss_one (Ho.ps_raiseDN rfl (L2N.takes_of rfl rfl rfl rfl) (L2N.pmk_own PySem.F.excBase_ValueError T.x_BadSize T.g_BadSize T.k_BadSize (raises_own T.b_BadSize T.t_BadSize) rfl)))
  pss_nil)), fun F Q post => ?_⟩
  walk_at "go"
  walk_at "last"
  apply sx_skip
  · refine EvT.is (t_or (a := false) (b := false) ?_ fun _ => ?_) rfl
    · walk_at "pv"
    refine EvT.is (t_or (a := false) (b := false) ?_ fun _ => ?_) rfl
    · apply EvT.is
      · walk_at "pv"
      · rfl
    · apply EvT.is
      · walk_at "pv"
      · simp
        omega
  exact sx_fall fun σ F' H' A => post _ F' H' A.go .non
local macro_rules | `(tactic| walk_at "pv") => `(tactic| ((with_reducible apply p_need_size) <;> (try walk_at "pv")))
/-- a new name -/
def pre_need_unused : Pre := fun ds R o => ∃ (d : D) (ns : List Str) (n : Str), ds = [.str n, d] ∧ Arg d R (.lst (ns.map D.str)) ∧ n ∉ ns ∧ o = .ret .non
theorem p_need_unused {c : Ct} {G : Res} {ρ : En} {ta tb : TE} {d : D} {R : Res} {ns : List Str} {n : Str} {E : XK} (ha : EvP c G ρ ta (.str n)) (hb : EvP c G ρ tb d) (m : May c G d (.lst (ns.map D.str)) R) (hn : n ∉ ns) : EvP c G ρ (tCall (spD c.K pre_need_unused) [] E (tCons ta (tCons tb tNil))) .non :=
  p_call (a_cons ha (a_cons hb a_nil)) m.2 ⟨d, ns, n, rfl, m.1, hn, rfl⟩
theorem inV_strs {n : Str} : ∀ {ns : List Str}, n ∉ ns → inV (.str n) ((ns.map D.str).map D.v) = false := by
  intro ns h
  unfold inV
  rw [List.any_eq_false]
  intro v hv
  obtain ⟨x, hx, rfl⟩ := List.mem_map.mp hv
  obtain ⟨y, hy, rfl⟩ := List.mem_map.mp hx
  have : y ≠ n := fun e => h (e ▸ hy)
  simp [eqV, D.v, this]
theorem fl_strs (ns : List Str) : (ns.map D.str).all D.fl = true := by
  rw [List.all_eq_true]
  intro d hd
  obtain ⟨y, _, rfl⟩ := List.mem_map.mp hd
  rfl
theorem ok_need_unused {P : Program} {w : World} {K : PySem.W.Frag} {mg : Str → Option Value} {base : Heap} (T : Top K mg) : FnOk P w K mg base (L2N.CX P w) 1 T.a_need_unused T.f_need_unused ["name", "used"] (spD K pre_need_unused) := by
  refine Ho.fnOkXN T.F_need_unused sc_need_unused (fun ds R o h => by obtain ⟨d, ns, n, rfl, _⟩ := h; rfl) fun ds R o h cdv A outer sh H E hr => ?_
  obtain ⟨d, ns, n, rfl, hd, hn, rfl⟩ := h
  refine ⟨_, (pss_one (ps_if (pt_cmpR op_in_seq (pv 0) (pv 1) (by rfl))
  (pss_one (Ho.ps_raiseDN rfl (L2N.takes_of rfl rfl rfl rfl) (L2N.pmk_own PySem.F.excBase_ValueError T.x_Known T.g_Known T.k_Known (raises_own T.b_Known T.t_Known) rfl)))
  pss_nil)), fun F Q post => ?_⟩
  walk_at "go"
  walk_at "last"
  have hfl := fl_strs ns
  apply sx_skip
  · refine EvT.is (t_test (p_inL (p_var rfl) (s_arg (p_var rfl) hd fun _ h => h) rfl hfl)) ?_
    show inV (.str n) ((ns.map D.str).map D.v) = false
    exact inV_strs hn
  exact sx_fall fun σ F' H' A => post _ F' H' A.go .non

/-! ### groups, pairs, plans as data -/
abbrev Gp := Str × List Spot
def encGp (g : Gp) : D := .tup [.str g.1, .lst (g.2.map encSpot)]
abbrev Pr := Str × Int
def encPr (p : Pr) : D := .tup [.str p.1, .int p.2]
def planKs : List Str := ["hall", "_groups", "_deeds"]
def planD (C : Addr) (rows : List Str) (g d : Addr) : D := .ins C planKs [.lst (rows.map D.str), .ref g, .ref d]
theorem gsp_ne : (("_groups" : Str) == "hall") = false := by decide +kernel
theorem dds_ne : (("_deeds" : Str) == "hall") = false := by decide +kernel
theorem ddg_ne : (("_deeds" : Str) == "_groups") = false := by decide +kernel
theorem all_eq (s : Str) : (s == s) = true := by simp
section
variable {c : Ct} {G : Res} {ρ : En} {ta : TE} {C : Addr} {rows : List Str} {g d : Addr}
theorem p_hall (h : EvP c G ρ ta (planD C rows g d)) (cl : Cls c.K C) (na : NoAttr c.K C "hall") : EvP c G ρ (tFld c.K ta "hall") (.lst (rows.map D.str)) := p_fld h cl na (by
  show List.lookup ("hall" : Str) [(("hall" : Str), D.lst (rows.map D.str)), ("_groups", .ref g), ("_deeds", .ref d)] = _
  rw [List.lookup_cons, all_eq])
theorem p_groups (h : EvP c G ρ ta (planD C rows g d)) (cl : Cls c.K C) (na : NoAttr c.K C "_groups") : EvP c G ρ (tFld c.K ta "_groups") (.ref g) := p_fld h cl na (by
  show List.lookup ("_groups" : Str) [(("hall" : Str), D.lst (rows.map D.str)), ("_groups", .ref g), ("_deeds", .ref d)] = _
  rw [List.lookup_cons, gsp_ne, List.lookup_cons, all_eq])
theorem p_deeds (h : EvP c G ρ ta (planD C rows g d)) (cl : Cls c.K C) (na : NoAttr c.K C "_deeds") : EvP c G ρ (tFld c.K ta "_deeds") (.ref d) := p_fld h cl na (by
  show List.lookup ("_deeds" : Str) [(("hall" : Str), D.lst (rows.map D.str)), ("_groups", .ref g), ("_deeds", .ref d)] = _
  rw [List.lookup_cons, dds_ne, List.lookup_cons, ddg_ne, List.lookup_cons, all_eq])
end
local macro_rules | `(tactic| walk_at "pv") => `(tactic| ((with_reducible apply p_hall); (focus (walk_at "pv")); (focus assumption); (focus assumption)))
local macro_rules | `(tactic| walk_at "pv") => `(tactic| ((with_reducible apply p_groups); (focus (walk_at "pv")); (focus assumption); (focus assumption)))
local macro_rules | `(tactic| walk_at "pv") => `(tactic| ((with_reducible apply p_deeds); (focus (walk_at "pv")); (focus assumption); (focus assumption)))
/-- over pairs, to two names -/
theorem sx_forP {c : Ct} {G : Res} {ρ : En} {ts tz : TS} {E : Ends} {α : Type} {us : List α} {ea eb : α → D} {wi : TI} {j1 j2 : Nat} {gr : Res} (Gs : Nat → Res) (ρs : Nat → En) (hi : EvI c G ρ wi (us.map fun u => .tup [ea u, eb u]) gr) (hg : ∀ x ∈ gr, ∀ i, x ∈ Gs i) (h0 : G = Gs 0) (l0 : Le (ρs 0) ρ)
    (hs : ∀ i u, us[i]? = some u → ∀ S' : Res, (∀ x ∈ c.S, x ∈ S') → Sx (c.wS S') (Gs i) (((ρs i).set j1 (some (ea u))).set j2 (some (eb u))) ts { E with nx := StE (c.wS S') (Gs (i + 1)) (ρs (i + 1)), ct := StE (c.wS S') (Gs (i + 1)) (ρs (i + 1)), bk := tz E })
    (q : Sx c (Gs us.length) (ρs us.length) tz E) : Sx c G ρ (tSeq (tFor wi (gTup c.K 2 (gCons (gName j1) (gCons (gName j2) gNil))) ts) tz) E := by
  have key : ∀ (i : Nat) (d : D), (us.map fun u => D.tup [ea u, eb u])[i]? = some d → ∃ u, us[i]? = some u ∧ d = .tup [ea u, eb u] := fun i d hd => by
    rw [List.getElem?_map] at hd
    obtain ⟨u, hu, rfl⟩ := Option.map_eq_some_iff.mp hd
    exact ⟨u, hu, rfl⟩
  refine sx_for (js := [j1] ++ ([j2] ++ [])) Gs ρs (fun i d => match d with | D.tup [a, b] => ((ρs i).set j1 (some a)).set j2 (some b) | _ => ρs i) hi hg h0 l0 (fun i d hd S' => ?_) (fun i d hd S' hS => ?_) (by rw [List.length_map]; exact q)
  · obtain ⟨u, _, rfl⟩ := key i d hd
    exact g_tup (g_cons g_name (g_cons g_name g_nil)) rfl
  · obtain ⟨u, hu, rfl⟩ := key i d hd
    exact hs i u hu S' hS
/-! ### spots side by side -/
def spotsOf (r f m : Int) : List Spot := (List.range m.toNat).map fun (i : Nat) => (r, f + (i : Int))
theorem spotsOf_len (r f m : Int) : (spotsOf r f m).length = m.toNat := by simp [spotsOf]
def pre_spots_of : Pre := fun ds R o => ∃ r f m : Int, ds = [.int r, .int f, .int m] ∧ R = [] ∧ -1000000000000 ≤ f ∧ f ≤ 1000000000000 ∧ 0 ≤ m ∧ m ≤ 10000 ∧ o = .new (.lst ((spotsOf r f m).map encSpot))
theorem n_spots_of {c : Ct} {G : Res} {ρ : En} {ta tb tc : TE} {r f m : Int} {E : XK} (ha : EvP c G ρ ta (.int r)) (hb : EvP c G ρ tb (.int f)) (hc : EvP c G ρ tc (.int m)) (h1 : -1000000000000 ≤ f) (h2 : f ≤ 1000000000000) (h3 : 0 ≤ m) (h4 : m ≤ 10000) :
    EvN c G ρ (tCall (spD c.K pre_spots_of) [] E (tCons ta (tCons tb (tCons tc tNil)))) (.lst ((spotsOf r f m).map encSpot)) :=
  n_call (a_cons ha (a_cons hb (a_cons hc a_nil))) (R := []) (fun x hx => nomatch hx) ⟨r, f, m, rfl, rfl, h1, h2, h3, h4, rfl⟩ fun _ e => nomatch e
theorem ok_spots_of {P : Program} {w : World} {K : PySem.W.Frag} {mg : Str → Option Value} {base : Heap} (T : Top K mg) : FnOk P w K mg base CX0 1 T.a_spots_of T.f_spots_of ["row", "first", "many"] (spD K pre_spots_of) := by
  refine fnOk T.F_spots_of sc_spots_of (fun ds R o h => by obtain ⟨r, f, m, rfl, _⟩ := h; rfl) fun ds R o h cdv A outer sh H E hr => ?_
  obtain ⟨r, f, m, rfl, rfl, h1, h2, h3, h4, rfl⟩ := h
  refine ⟨_, (pss_one (ps_ret (by exact (pe_lc (own := [("place", 3)]) (g := (gName 3)) (tt := tYes) rfl sc_spots_of.nd (by exact (pi_range2 (by rfl) T.m_range (pa_cons (pv 1) (pa_cons (pe_op op_add (pv 1) (pv 2)) pa_nil)))) (blkOk_by (N := ["row", "first", "many", "place"]) (sc := defScope s_spots_of) (by decide +kernel)) (fun _ _ _ _ _ => by exact (pg_name (i := 3) sc_spots_of.nd rfl (Or.inl rfl))) (fun _ _ _ _ _ => by exact pts_nil) (fun _ _ _ _ _ => by exact (pe_tup (pa_cons (pv 0) (pa_cons (pv 3) pa_nil)))))))), fun F Q post => ?_⟩
  walk_at "go"
  have e : (spotsOf r f m).map encSpot = (List.range (f + m - f).toNat).map fun (i : Nat) => encSpot (r, f + (i : Int)) := by
    unfold spotsOf
    rw [List.map_map, show f + m - f = m by omega]
    rfl
  rw [e] at post
  walk_at "retN"
local macro_rules | `(tactic| walk_at "pv") => `(tactic| ((with_reducible apply n_spots_of) <;> (try walk_at "pv")))
/-! ### the groups of a party within a run -/
def groupsIn (r : Int) : Int → List Pr → List Gp
  | _, [] => []
  | f, p :: ps => (p.1, spotsOf r f p.2) :: groupsIn r (f + p.2) ps
theorem groupsIn_snoc (r : Int) (p : Pr) : ∀ (ps : List Pr) (f : Int), groupsIn r f (ps ++ [p]) = groupsIn r f ps ++ [(p.1, spotsOf r (f + (ps.map (·.2)).sum) p.2)]
  | [], f => by simp [groupsIn]
  | q :: ps, f => by
    show (q.1, spotsOf r f q.2) :: groupsIn r (f + q.2) (ps ++ [p]) = _
    rw [groupsIn_snoc r p ps (f + q.2), List.map_cons, List.sum_cons, Int.add_assoc]
    rfl
theorem groupsIn_len (r : Int) : ∀ (ps : List Pr) (f : Int), (groupsIn r f ps).length = ps.length
  | [], _ => rfl
  | p :: ps, f => by show (groupsIn r (f + p.2) ps).length + 1 = _; rw [groupsIn_len r ps]; rfl
theorem sum_le {ps : List Pr} (h : ∀ p ∈ ps, 0 ≤ p.2 ∧ p.2 ≤ 2400) : 0 ≤ (ps.map (·.2)).sum ∧ (ps.map (·.2)).sum ≤ 2400 * (ps.length : Int) := by
  induction ps with
  | nil => simp
  | cons p ps ih =>
    have h1 := h p List.mem_cons_self
    have h2 := ih fun q hq => h q (List.mem_cons_of_mem _ hq)
    rw [List.map_cons, List.sum_cons, List.length_cons]
    omega
theorem enum_of (us : List Pr) : us.map encPr = us.map fun u => D.tup [D.str u.1, D.int u.2] := rfl
def pre_groups_in : Pre := fun ds R o => ∃ (b : Rn) (ps : List Pr), ds = [encRun b, .lst (ps.map encPr)] ∧ R = [] ∧ 0 ≤ b.2.1 ∧ b.2.1 ≤ 100 ∧ ps.length ≤ 64 ∧ (∀ p ∈ ps, 0 ≤ p.2 ∧ p.2 ≤ 2400) ∧ o = .new (.lst ((groupsIn b.1 b.2.1 ps).map encGp))
theorem n_groups_in {c : Ct} {G : Res} {ρ : En} {ta tb : TE} {b : Rn} {ps : List Pr} {E : XK} (ha : EvP c G ρ ta (encRun b)) (hb : EvP c G ρ tb (.lst (ps.map encPr))) (h1 : 0 ≤ b.2.1) (h2 : b.2.1 ≤ 100) (h3 : ps.length ≤ 64) (h4 : ∀ p ∈ ps, 0 ≤ p.2 ∧ p.2 ≤ 2400) :
    EvN c G ρ (tCall (spD c.K pre_groups_in) [] E (tCons ta (tCons tb tNil))) (.lst ((groupsIn b.1 b.2.1 ps).map encGp)) :=
  n_call (a_cons ha (a_cons hb a_nil)) (R := []) (fun x hx => nomatch hx) ⟨b, ps, rfl, rfl, h1, h2, h3, h4, rfl⟩ fun _ e => nomatch e
theorem ok_groups_in {P : Program} {w : World} {K : PySem.W.Frag} {mg : Str → Option Value} {base : Heap} (T : Top K mg) : FnOk P w K mg base CX0 2 T.a_groups_in T.f_groups_in ["run", "pairs"] (spD K pre_groups_in) := by
  refine fnOk T.F_groups_in sc_groups_in (fun ds R o h => by obtain ⟨b, ps, rfl, _⟩ := h; rfl) fun ds R o h cdv A outer sh H E hr => ?_
  obtain ⟨⟨r, f, n⟩, ps, rfl, rfl, h1, h2, h3, h4, rfl⟩ := h
  refine ⟨_, (pss_cons (ps_asg (pv 0) (pg_tup rfl (pgs_cons (pg_name (i := 2) sc_groups_in.nd rfl (Or.inl rfl)) (pgs_cons (pg_name (i := 3) sc_groups_in.nd rfl (Or.inl rfl)) (pgs_cons (pg_name (i := 4) sc_groups_in.nd rfl (Or.inl rfl)) pgs_nil)))))
  (pss_cons (ps_set (i := 5) sc_groups_in.nd rfl (Or.inl rfl) (pe_lst pa_nil))
  (pss_cons (ps_for PassesOwn.never rfl (pi_list (pv 1)) (pg_tup rfl (pgs_cons (pg_name (i := 6) sc_groups_in.nd rfl (Or.inl rfl)) (pgs_cons (pg_name (i := 7) sc_groups_in.nd rfl (Or.inl rfl)) pgs_nil)))
  (pss_cons (ps_expr (pe_bm PySem.F.plainAttrs_list PySem.F.slot_list_append PySem.F.type_list_append mt_append (pv 5) (pa_cons (pe_tup (pa_cons (pv 6) (pa_cons (pe_call (ok_spots_of T) (hr.mono (by decide)) (by rfl) T.g_spots_of T.F_spots_of.kp T.b_spots_of .nil pass0 (pa_cons (pv 2) (pa_cons (pv 3) (pa_cons (pv 7) pa_nil)))) pa_nil))) pa_nil)))
  (pss_one (ps_aug (i := 3) sc_groups_in.nd rfl (Or.inl rfl) (pv 7) ip_add))))
  (pss_one (ps_ret (pv 5)))))), fun F Q post => ?_⟩
  simp only at h1 h2 post
  walk_at "go"
  walk_at "asgT"
  walk_at "own"
  intro p
  walk_at "nrm"
  refine sx_forP (us := ps) (ea := fun u => D.str u.1) (eb := fun u => D.int u.2) (gr := []) (fun i => [(p, .lst ((groupsIn r f (ps.take i)).map encGp))]) (fun i => [some (encRun (r, f, n)), some (.lst (ps.map encPr)), some (.int r), some (.int (f + ((ps.take i).map (·.2)).sum)), some (.int n), some (.ref p), none, none]) ?_ (fun x hx => nomatch hx) rfl ⟨rfl, rfl, rfl, ?_, rfl, rfl, trivial⟩ (fun i u hu S' hS => ?_) ?_
  · exact i_list (p_var rfl)
  · simp
  · have hb := h4 u (List.mem_of_getElem? hu)
    have hs := sum_le (ps := ps.take i) fun q hq => h4 q (List.mem_of_mem_take hq)
    have hl : (ps.take i).length ≤ 64 := by rw [List.length_take]; omega
    have hgl := groupsIn_len r (ps.take i) f
    have e1 : ps.take (i + 1) = ps.take i ++ [u] := by rw [List.take_add_one, hu]; rfl
    have e2 : ((ps.take (i + 1)).map (·.2)).sum = ((ps.take i).map (·.2)).sum + u.2 := by rw [e1]; simp
    have e3 : groupsIn r f (ps.take (i + 1)) = groupsIn r f (ps.take i) ++ [(u.1, spotsOf r (f + ((ps.take i).map (·.2)).sum) u.2)] := by rw [e1, groupsIn_snoc]
    rw [e2, e3]
    generalize ((ps.take i).map (·.2)).sum = sm at hs
    walk_at "nrm"
    apply sx_app 0 (d := encGp (u.1, spotsOf r (f + sm) u.2))
    · walk_at "pv"
    · exact rfl
    · show EvP _ _ _ _ (D.tup [.str u.1, .lst ((spotsOf r (f + sm) u.2).map encSpot)])
      walk_at "pv"
    · simp; omega
    walk_at "nrm"
    apply Sx.last
    apply sx_aug
    · exact rfl
    · walk_at "pv"
    walk_at "nrm"
    walk_at "end"
    · rw [List.map_append]; rfl
    · rw [Int.add_assoc]
      exact ⟨rfl, rfl, rfl, rfl, rfl, rfl, trivial⟩
  · rw [List.take_length]
    exact sx_retG (p_var rfl) List.mem_cons_self post
local macro_rules | `(tactic| walk_at "pv") => `(tactic| ((with_reducible apply n_groups_in) <;> (try walk_at "pv")))

/-! ### a plan's methods -/
def namesOf (gs : List Gp) : List Str := gs.map fun g => g.1
def pre_Plan_groups (C : Addr) : Pre := fun ds R o => ∃ (rows : List Str) (g d : Addr) (gs : List Gp), ds = [planD C rows g d] ∧ R = [(g, .lst (gs.map encGp))] ∧ gs.length ≤ 10000 ∧ o = .new (.lst ((namesOf gs).map D.str))
theorem meth_groups : ("groups" : Str) ∉ planKs := by decide +kernel
theorem n_Plan_groups {c : Ct} {G : Res} {ρ : En} {ta : TE} {C : Addr} {rows : List Str} {g d : Addr} {gs : List Gp} {E : XK} (ha : EvP c G ρ ta (planD C rows g d)) (m : (g, D.lst (gs.map encGp)) ∈ c.S ∨ (g, D.lst (gs.map encGp)) ∈ G) (hl : gs.length ≤ 10000) :
    EvN c G ρ (tMeth C "groups" (spD c.K (pre_Plan_groups C)) [] E ta tNil) (.lst ((namesOf gs).map D.str)) :=
  n_meth ha meth_groups a_nil (R := [(g, .lst (gs.map encGp))]) (fun x hx => by rcases List.mem_singleton.mp hx with rfl; exact m) ⟨rows, g, d, gs, rfl, rfl, hl, rfl⟩ fun _ e => nomatch e
theorem ok_Plan_groups {P : Program} {w : World} {K : PySem.W.Frag} {mg : Str → Option Value} {base : Heap} (T : Top K mg) : FnOk P w K mg base CX0 1 T.a_Plan_groups T.f_Plan_groups ["self"] (spD K (pre_Plan_groups T.a_Plan)) := by
  refine fnOk T.F_Plan_groups sc_Plan_groups (fun ds R o h => by obtain ⟨rows, g, d, gs, rfl, _⟩ := h; rfl) fun ds R o h cdv A outer sh H E hr => ?_
  obtain ⟨rows, g, d, gs, rfl, rfl, hl, rfl⟩ := h
  have cP := T.c_Plan
  have n2 := T.n_Plan__groups
  refine ⟨_, (pss_one (ps_ret (by exact (pe_lc (own := [("name", 1), ("spots", 2)]) (g := (gTup K 2 (gCons (gName 1) (gCons (gName 2) gNil)))) (tt := tYes) rfl sc_Plan_groups.nd (by exact (pi_list (pe_fld (pv 0) rfl))) (blkOk_by (N := ["self", "name", "spots"]) (sc := defScope s_Plan_groups) (by decide +kernel)) (fun _ _ _ _ _ => by exact (pg_tup rfl (pgs_cons (pg_name (i := 1) sc_Plan_groups.nd rfl (Or.inl rfl)) (pgs_cons (pg_name (i := 2) sc_Plan_groups.nd rfl (Or.inl rfl)) pgs_nil)))) (fun _ _ _ _ _ => by exact pts_nil) (fun _ _ _ _ _ => by exact (pv 1)))))), fun F Q post => ?_⟩
  walk_at "go"
  have e : (namesOf gs).map D.str = gs.map fun u => D.str u.1 := by unfold namesOf; rw [List.map_map]; rfl
  rw [e] at post
  apply sx_retN
  · apply n_map (g := []) (us := gs) (enc := encGp) (f := fun u => D.str u.1)
    · exact i_listS (p_groups (p_var rfl) cP n2) List.mem_cons_self
    · exact fun x hx => nomatch hx
    · intro u hu
      walk_at "pv"
    · decide
    · intro u hu
      walk_at "pv"
    · omega
  · exact post
local macro_rules | `(tactic| walk_at "pv") => `(tactic| ((with_reducible apply n_Plan_groups); (focus (walk_at "pv")); (focus (walk_at "mem")); (try walk_at "sd")))
/-! what is done -/
def encDeed (at_ : Int) (gone come : List Gp) : D := .tup [.int at_, .lst (gone.map encGp), .lst (come.map encGp)]
def doGs (gs : List Gp) (n k : Nat) (come : List Gp) : List Gp := gs.take n ++ come ++ gs.drop (n + k)
def pre_Plan_do (C : Addr) : PreM := fun ds R M W => ∃ (rows : List Str) (g d : Addr) (gs : List Gp) (dds : List D) (n : Nat) (gone come : List Gp), ds = [planD C rows g d, .int (n : Nat), .lst (gone.map encGp), .lst (come.map encGp)] ∧ R = [] ∧ M = [(g, .lst (gs.map encGp)), (d, .lst dds)] ∧
  n + gone.length ≤ gs.length ∧ gs.length + come.length ≤ 10000 ∧ dds.length ≤ 10000 ∧ W = Det (.ret .non) [(g, .lst ((doGs gs n gone.length come).map encGp)), (d, .lst (dds ++ [encDeed n gone come]))]
theorem gives_det {M M' : Res} {o : Out} (h : M'.map (·.1) = M.map (·.1)) : Gives M (Det o M') := fun o' M2 hw x hx => by
  obtain ⟨_, rfl⟩ := hw
  rw [h]
  exact List.mem_map.mpr ⟨x, hx, rfl⟩
theorem ok_Plan_do {P : Program} {w : World} {K : PySem.W.Frag} {mg : Str → Option Value} {base : Heap} (T : Top K mg) : FnOk P w K mg base CX0 1 T.a_Plan_do T.f_Plan_do ["self", "at", "gone", "come"] (spM K (pre_Plan_do T.a_Plan)) := by
  refine fnOkM T.F_Plan_do sc_Plan_do (fun ds R M W h => by
    obtain ⟨rows, g, d, gs, dds, n, gone, come, rfl, rfl, rfl, _, _, _, rfl⟩ := h
    exact ⟨rfl, gives_det rfl⟩) fun ds R M W h cdv A outer sh H E hr => ?_
  obtain ⟨rows, g, d, gs, dds, n, gone, come, rfl, rfl, rfl, h1, h2, h3, rfl⟩ := h
  have cP := T.c_Plan
  have n2 := T.n_Plan__groups
  have n3 := T.n_Plan__deeds
  refine ⟨_, (pss_cons (Dl.ps_setSl (pe_fld (pv 0) rfl) (po_some (pv 1)) (po_some (pe_op op_add (pv 1) (pe_callB call_len_seq (by rfl) T.m_len PySem.boot_len (pa_cons (pv 2) pa_nil)))) (pv 3))
  (pss_one (ps_expr (pe_bm PySem.F.plainAttrs_list PySem.F.slot_list_append PySem.F.type_list_append mt_append (pe_fld (pv 0) rfl) (pa_cons (pe_tup (pa_cons (pv 1) (pa_cons (pv 2) (pa_cons (pv 3) pa_nil)))) pa_nil))))), fun B F Q ways => ?_⟩
  walk_at "go"
  apply sx_slP 0 (es := come.map encGp) (ds := gs.map encGp) (p := g) (a := (n : Int)) (z := (n : Int) + ((gone.map encGp).length : Int))
  · walk_at "pv"
  · walk_at "pv"
  · exact rfl
  · walk_at "pv"
  · walk_at "pv"
  · omega
  · omega
  · simp; omega
  · simp; omega
  walk_at "nrm"
  apply Sx.last
  apply sx_app 1 (d := encDeed n gone come)
  · walk_at "pv"
  · exact rfl
  · show EvP _ _ _ _ (D.tup [.int (n : Nat), .lst (gone.map encGp), .lst (come.map encGp)])
    walk_at "pv"
  · omega
  walk_at "nrm"
  refine sx_fall fun σ F' H' A => ways.rt .non _ ⟨rfl, ?_⟩ _ F' H' A .non
  have e : ((n : Int) + ((gone.map encGp).length : Int)).toNat = n + gone.length := by simp; omega
  have e2 : ((n : Nat) : Int).toNat = n := by simp
  rw [e, e2]
  unfold doGs
  rw [List.map_append, List.map_append, List.map_take, List.map_drop]

/-! the groups of a party are new -/
def pre_Plan_need_new (C : Addr) : Pre := fun ds R o => ∃ (rows : List Str) (g d : Addr) (gs : List Gp) (ps : List Pr), ds = [planD C rows g d, .lst (ps.map encPr)] ∧ R = [(g, .lst (gs.map encGp))] ∧ gs.length ≤ 10000 ∧ ps.length ≤ 100 ∧
  (∀ p ∈ ps, GoodName p.1 ∧ 1 ≤ p.2 ∧ p.2 ≤ 2400) ∧ (namesOf gs ++ ps.map fun p => p.1).Nodup ∧ o = .ret .non
theorem meth_need_new : ("_need_new" : Str) ∉ planKs := by decide +kernel
theorem p_Plan_need_new {c : Ct} {G : Res} {ρ : En} {ta tb : TE} {C : Addr} {rows : List Str} {g d : Addr} {gs : List Gp} {ps : List Pr} {E : XK} (ha : EvP c G ρ ta (planD C rows g d)) (m : (g, D.lst (gs.map encGp)) ∈ c.S ∨ (g, D.lst (gs.map encGp)) ∈ G) (hb : EvP c G ρ tb (.lst (ps.map encPr))) (hl : gs.length ≤ 10000) (h2 : ps.length ≤ 100)
    (h3 : ∀ p ∈ ps, GoodName p.1 ∧ 1 ≤ p.2 ∧ p.2 ≤ 2400) (h4 : (namesOf gs ++ ps.map fun p => p.1).Nodup) : EvP c G ρ (tMeth C "_need_new" (spD c.K (pre_Plan_need_new C)) [] E ta (tCons tb tNil)) .non :=
  p_meth ha meth_need_new (a_cons hb a_nil) (R := [(g, .lst (gs.map encGp))]) (fun x hx => by rcases List.mem_singleton.mp hx with rfl; exact m) ⟨rows, g, d, gs, ps, rfl, rfl, hl, h2, h3, h4, rfl⟩
theorem ok_Plan_need_new {P : Program} {w : World} {K : PySem.W.Frag} {mg : Str → Option Value} {base : Heap} (T : Top K mg) : FnOk P w K mg base (L2N.CX P w) 3 T.a_Plan_need_new T.f_Plan_need_new ["self", "pairs"] (spD K (pre_Plan_need_new T.a_Plan)) := by
  refine Ho.fnOkXN T.F_Plan_need_new sc_Plan_need_new (fun ds R o h => by obtain ⟨rows, g, d, gs, ps, rfl, _⟩ := h; rfl) fun ds R o h cdv A outer sh H E hr => ?_
  obtain ⟨rows, g, d, gs, ps, rfl, rfl, hl, h2, h3, h4, rfl⟩ := h
  refine ⟨_, (pss_cons (ps_set (i := 2) sc_Plan_need_new.nd rfl (Or.inl rfl) (pe_meth0 (pv 0) T.c_Plan T.me_Plan_groups (ok_Plan_groups T) (hr.mono (by decide)) T.b_Plan_groups .nil pass0))
  (pss_one (ps_for (passes_of rfl) rfl (pi_list (pv 1)) (pg_tup rfl (pgs_cons (pg_name (i := 3) sc_Plan_need_new.nd rfl (Or.inl rfl)) (pgs_cons (pg_name (i := 4) sc_Plan_need_new.nd rfl (Or.inl rfl)) pgs_nil)))
  (pss_cons (ps_expr (pe_call (ok_need_name T) (hr.mono (by decide)) (by rfl) T.g_need_name T.F_need_name.kp T.b_need_name .nil (Ho.pass_outN (L2N.takes_of rfl rfl rfl rfl)) (pa_cons (pv 3) pa_nil)))
  (pss_cons (ps_expr (pe_call (ok_need_size T) (hr.mono (by decide)) (by rfl) T.g_need_size T.F_need_size.kp T.b_need_size .nil (Ho.pass_outN (L2N.takes_of rfl rfl rfl rfl)) (pa_cons (pv 4) pa_nil)))
  (pss_cons (ps_expr (pe_call (ok_need_unused T) (hr.mono (by decide)) (by rfl) T.g_need_unused T.F_need_unused.kp T.b_need_unused .nil (Ho.pass_outN (L2N.takes_of rfl rfl rfl rfl)) (pa_cons (pv 3) (pa_cons (pv 2) pa_nil))))
  (pss_one (ps_expr (pe_bm PySem.F.plainAttrs_list PySem.F.slot_list_append PySem.F.type_list_append mt_append (pv 2) (pa_cons (pv 3) pa_nil)))))))))), fun F Q post => ?_⟩
  walk_at "go"
  apply sx_own
  · exact n_Plan_groups (p_var rfl) (.inl List.mem_cons_self) hl
  intro p
  walk_at "nrm"
  walk_at "last"
  refine sx_forP (us := ps) (ea := fun u => D.str u.1) (eb := fun u => D.int u.2) (gr := []) (fun i => [(p, .lst ((namesOf gs ++ (ps.take i).map fun p => p.1).map D.str))]) (fun i => [some (planD T.a_Plan rows g d), some (.lst (ps.map encPr)), some (.ref p), none, none]) ?_ (fun x hx => nomatch hx) ?_ ?_ (fun i u hu S' hS => ?_) ?_
  · exact i_list (p_var rfl)
  · simp
  · exact ⟨rfl, rfl, rfl, trivial⟩
  · have hb := h3 u (List.mem_of_getElem? hu)
    obtain ⟨hg, hs1, hs2⟩ := hb
    have hil := (List.getElem?_eq_some_iff.mp hu).1
    have hn : u.1 ∉ namesOf gs ++ (ps.take i).map fun p => p.1 := by
      have e : ps = ps.take i ++ (u :: ps.drop (i + 1)) := by
        rw [List.getElem?_eq_some_iff] at hu
        obtain ⟨_, rfl⟩ := hu
        rw [← List.drop_eq_getElem_cons, List.take_append_drop]
      have h5 := h4
      rw [e, List.map_append, ← List.append_assoc, List.nodup_append] at h5
      intro hm
      exact h5.2.2 u.1 hm u.1 (by simp) rfl
    have hlen : ((namesOf gs ++ (ps.take i).map fun p => p.1).map D.str).length < 100000 := by
      rw [List.length_map, List.length_append, List.length_map, List.length_take]
      unfold namesOf
      rw [List.length_map]
      omega
    have e1 : (namesOf gs ++ (ps.take (i + 1)).map fun p => p.1) = (namesOf gs ++ (ps.take i).map fun p => p.1) ++ [u.1] := by
      rw [List.take_add_one, hu, List.map_append, List.append_assoc]; rfl
    rw [e1]
    generalize (namesOf gs ++ (ps.take i).map fun p => p.1) = used at hn hlen
    walk_at "nrm"
    walk_at "call"
    walk_at "call"
    apply sx_drop
    · exact p_need_unused (p_var rfl) (p_var rfl) (May.res (.inr List.mem_cons_self)) hn
    walk_at "last"
    walk_at "app"
    · exact hlen
    walk_at "end"
    · rw [List.map_append]; rfl
    · walk_at "le"
  · exact sx_fall fun σ F' H' A => post _ F' H' A.go .non
/-! where a group stands -/
def pre_Plan_need_known (C : Addr) : Pre := fun ds R o => ∃ (rows : List Str) (g d : Addr) (gs : List Gp) (n : Str) (j : Nat), ds = [planD C rows g d, .str n] ∧ R = [(g, .lst (gs.map encGp))] ∧ gs.length ≤ 10000 ∧ GoodName n ∧ (namesOf gs)[j]? = some n ∧ (∀ m, m < j → (namesOf gs)[m]? ≠ some n) ∧ o = .ret (.int (j : Nat))
theorem meth_need_known : ("_need_known" : Str) ∉ planKs := by decide +kernel
theorem p_Plan_need_known {c : Ct} {G : Res} {ρ : En} {ta tb : TE} {C : Addr} {rows : List Str} {g d : Addr} {gs : List Gp} {n : Str} {j : Nat} {E : XK} (ha : EvP c G ρ ta (planD C rows g d)) (m : (g, D.lst (gs.map encGp)) ∈ c.S ∨ (g, D.lst (gs.map encGp)) ∈ G) (hb : EvP c G ρ tb (.str n)) (hl : gs.length ≤ 10000) (hn : GoodName n)
    (h3 : (namesOf gs)[j]? = some n) (h4 : ∀ m, m < j → (namesOf gs)[m]? ≠ some n) : EvP c G ρ (tMeth C "_need_known" (spD c.K (pre_Plan_need_known C)) [] E ta (tCons tb tNil)) (.int (j : Nat)) :=
  p_meth ha meth_need_known (a_cons hb a_nil) (R := [(g, .lst (gs.map encGp))]) (fun x hx => by rcases List.mem_singleton.mp hx with rfl; exact m) ⟨rows, g, d, gs, n, j, rfl, rfl, hl, hn, h3, h4, rfl⟩
theorem inV_mem {n : Str} {ns : List Str} (h : n ∈ ns) : inV (.str n) ((ns.map D.str).map D.v) = true := by
  unfold inV
  rw [List.any_eq_true]
  exact ⟨.str n, List.mem_map.mpr ⟨.str n, List.mem_map.mpr ⟨n, h, rfl⟩, rfl⟩, by simp [eqV]⟩
theorem ok_Plan_need_known {P : Program} {w : World} {K : PySem.W.Frag} {mg : Str → Option Value} {base : Heap} (T : Top K mg) : FnOk P w K mg base (L2N.CX P w) 2 T.a_Plan_need_known T.f_Plan_need_known ["self", "name"] (spD K (pre_Plan_need_known T.a_Plan)) := by
  refine Ho.fnOkXN T.F_Plan_need_known sc_Plan_need_known (fun ds R o h => by obtain ⟨rows, g, d, gs, n, j, rfl, _⟩ := h; rfl) fun ds R o h cdv A outer sh H E hr => ?_
  obtain ⟨rows, g, d, gs, n, j, rfl, rfl, hl, hn, h3, h4, rfl⟩ := h
  refine ⟨_, (pss_cons (ps_set (i := 2) sc_Plan_need_known.nd rfl (Or.inl rfl) (pe_meth0 (pv 0) T.c_Plan T.me_Plan_groups (ok_Plan_groups T) (hr.mono (by decide)) T.b_Plan_groups .nil pass0))
  (pss_cons (ps_if (PW.pt (pw_or (pt_not (pt_val (pe_call (ok_is_name T) (hr.mono (by decide)) (by rfl) T.g_is_name T.F_is_name.kp T.b_is_name .nil pass0 (pa_cons (pv 1) pa_nil)))) (pw_or1 (pt_cmpR op_notIn_seq (pv 1) (pv 2) (by rfl)))))
  (pss_one (Ho.ps_raiseDN rfl (L2N.takes_of rfl rfl rfl rfl) (L2N.pmk_own PySem.F.excBase_ValueError T.x_Unknown T.g_Unknown T.k_Unknown (raises_own T.b_Unknown T.t_Unknown) rfl)))
  pss_nil)
  (pss_one (ps_ret (pe_bm PySem.F.plainAttrs_list PySem.F.slot_list_index PySem.F.type_list_index mt_index (pv 2) (pa_cons (pv 1) pa_nil)))))), fun F Q post => ?_⟩
  walk_at "go"
  apply sx_asg
  · exact (n_Plan_groups (p_var rfl) (.inl List.mem_cons_self) hl).toP
  walk_at "nrm"
  generalize namesOf gs = ns at h3 h4
  have hfl := fl_strs ns
  apply sx_skip
  · refine EvT.is (t_or (a := false) (b := false) ?_ fun _ => ?_) rfl
    · apply EvT.is
      · walk_at "pv"
      · rfl
    · refine EvT.is (t_test (p_inL (neg := true) (p_var rfl) (EvP.toS (p_var rfl)) rfl hfl)) ?_
      show (!inV (.str n) ((ns.map D.str).map D.v)) = false
      rw [inV_mem (List.mem_of_getElem? h3)]
      rfl
  refine sx_ret (p_index (EvP.toS (p_var rfl)) (p_var rfl) h3 h4) post
/-! the seats of a group -/
def pre_Plan_seats (C : Addr) : Pre := fun ds R o => ∃ (rows : List Str) (g d : Addr) (gs : List Gp) (n : Str) (j : Nat) (gp : Gp), ds = [planD C rows g d, .str n] ∧ R = [(g, .lst (gs.map encGp))] ∧ gs.length ≤ 10000 ∧ GoodName n ∧ (namesOf gs)[j]? = some n ∧ (∀ m, m < j → (namesOf gs)[m]? ≠ some n) ∧ gs[j]? = some gp ∧ o = .new (.lst (gp.2.map encSpot))
theorem meth_seats : ("seats" : Str) ∉ planKs := by decide +kernel
theorem n_Plan_seats {c : Ct} {G : Res} {ρ : En} {ta tb : TE} {C : Addr} {rows : List Str} {g d : Addr} {gs : List Gp} {n : Str} {j : Nat} {gp : Gp} {E : XK} (ha : EvP c G ρ ta (planD C rows g d)) (m : (g, D.lst (gs.map encGp)) ∈ c.S ∨ (g, D.lst (gs.map encGp)) ∈ G) (hb : EvP c G ρ tb (.str n)) (hl : gs.length ≤ 10000) (hn : GoodName n)
    (h3 : (namesOf gs)[j]? = some n) (h4 : ∀ m, m < j → (namesOf gs)[m]? ≠ some n) (h5 : gs[j]? = some gp) : EvN c G ρ (tMeth C "seats" (spD c.K (pre_Plan_seats C)) [] E ta (tCons tb tNil)) (.lst (gp.2.map encSpot)) :=
  n_meth ha meth_seats (a_cons hb a_nil) (R := [(g, .lst (gs.map encGp))]) (fun x hx => by rcases List.mem_singleton.mp hx with rfl; exact m) ⟨rows, g, d, gs, n, j, gp, rfl, rfl, hl, hn, h3, h4, h5, rfl⟩ fun _ e => nomatch e
theorem ok_Plan_seats {P : Program} {w : World} {K : PySem.W.Frag} {mg : Str → Option Value} {base : Heap} (T : Top K mg) : FnOk P w K mg base (L2N.CX P w) 3 T.a_Plan_seats T.f_Plan_seats ["self", "name"] (spD K (pre_Plan_seats T.a_Plan)) := by
  refine Ho.fnOkXN T.F_Plan_seats sc_Plan_seats (fun ds R o h => by obtain ⟨rows, g, d, gs, n, j, gp, rfl, _⟩ := h; rfl) fun ds R o h cdv A outer sh H E hr => ?_
  obtain ⟨rows, g, d, gs, n, j, gp, rfl, rfl, hl, hn, h3, h4, h5, rfl⟩ := h
  have cP := T.c_Plan
  have n2 := T.n_Plan__groups
  refine ⟨_, (pss_one (ps_ret (pe_callTy call_list_of (by rfl) T.m_list PyProof.Rows.boot_list (pa_cons (pe_ix ix_tup (pe_ix ix_list (pe_fld (pv 0) rfl) (pe_meth (pv 0) T.c_Plan T.me_Plan_need_known (ok_Plan_need_known T) (hr.mono (by decide)) T.b_Plan_need_known .nil (Ho.pass_outN (L2N.takes_of rfl rfl rfl rfl)) (pa_cons (pv 1) pa_nil)) (fun _ _ => rfl)) pe_int (fun _ _ => rfl)) pa_nil)))), fun F Q post => ?_⟩
  walk_at "go"
  apply sx_retN
  · apply n_list
    apply EvP.toS
    refine p_ixT (ds := [.str gp.1, .lst (gp.2.map encSpot)]) ?_ p_int at_1
    refine p_ixL (ds := gs.map encGp) (i := (j : Nat)) (EvS.res (p_groups (p_var rfl) cP n2) (.inl List.mem_cons_self)) ?_ (at_m (f := encGp) (by omega) (by simpa using h5))
    exact p_Plan_need_known (p_var rfl) (.inl List.mem_cons_self) (p_var rfl) hl hn h3 h4
  · exact post

/-! the taken spots -/
def takenOf (gs : List Gp) : TD := gs.foldl (fun td g => g.2.foldl (fun td s => putA td s g.1) td) []
def pre_Plan_taken (C : Addr) : Pre := fun ds R o => ∃ (rows : List Str) (g d : Addr) (gs : List Gp), ds = [planD C rows g d] ∧ R = [(g, .lst (gs.map encGp))] ∧ gs.length ≤ 5000 ∧ (∀ x ∈ gs, x.2.length ≤ 2400) ∧ o = .new (tdD (takenOf gs))
theorem meth_taken : ("taken" : Str) ∉ planKs := by decide +kernel
theorem n_Plan_taken {c : Ct} {G : Res} {ρ : En} {ta : TE} {C : Addr} {rows : List Str} {g d : Addr} {gs : List Gp} {E : XK} (ha : EvP c G ρ ta (planD C rows g d)) (m : (g, D.lst (gs.map encGp)) ∈ c.S ∨ (g, D.lst (gs.map encGp)) ∈ G) (hl : gs.length ≤ 5000) (h2 : ∀ x ∈ gs, x.2.length ≤ 2400) :
    EvN c G ρ (tMeth C "taken" (spD c.K (pre_Plan_taken C)) [] E ta tNil) (tdD (takenOf gs)) :=
  n_meth ha meth_taken a_nil (R := [(g, .lst (gs.map encGp))]) (fun x hx => by rcases List.mem_singleton.mp hx with rfl; exact m) ⟨rows, g, d, gs, rfl, rfl, hl, h2, rfl⟩ fun _ e => nomatch e
theorem ok_Plan_taken {P : Program} {w : World} {K : PySem.W.Frag} {mg : Str → Option Value} {base : Heap} (T : Top K mg) : FnOk P w K mg base CX0 1 T.a_Plan_taken T.f_Plan_taken ["self"] (spD K (pre_Plan_taken T.a_Plan)) := by
  refine fnOk T.F_Plan_taken sc_Plan_taken (fun ds R o h => by obtain ⟨rows, g, d, gs, rfl, _⟩ := h; rfl) fun ds R o h cdv A outer sh H E hr => ?_
  obtain ⟨rows, g, d, gs, rfl, rfl, hl, h2, rfl⟩ := h
  have cP := T.c_Plan
  have n2 := T.n_Plan__groups
  have hz : 2400 * gs.length + 2400 ≤ 16000000 := by omega
  refine ⟨_, (pss_one (ps_ret (by exact (Xg.pe_two (own := [("name", 1), ("spots", 2), ("spot", 3)]) (vs1 := [3]) (g := (gTup K 2 (gCons (gName 1) (gCons (gName 2) gNil)))) (g1 := (gName 3)) (wi1 := iList K (tVar 2)) rfl (hu_of hr) sc_Plan_taken.nd (by exact (pi_list (pe_fld (pv 0) rfl))) (blkOk_by (N := ["self", "name", "spots", "spot"]) (sc := defScope s_Plan_taken) (by decide +kernel)) (by decide) (fun _ _ _ _ _ => by exact (pg_tup rfl (pgs_cons (pg_name (i := 1) sc_Plan_taken.nd rfl (Or.inl rfl)) (pgs_cons (pg_name (i := 2) sc_Plan_taken.nd rfl (Or.inl rfl)) pgs_nil)))) (fun _ _ _ _ _ => by exact (pi_list (pv 2))) (fun _ _ _ _ _ => by exact (pg_name (i := 3) sc_Plan_taken.nd rfl (Or.inl rfl))) (fun _ _ _ _ _ => by exact (pv 3)) (fun _ _ _ _ _ => by exact (pv 1)))))), fun F Q post => ?_⟩
  walk_at "go"
  apply sx_retN
  · apply n_two (g := []) (us := gs) (enc := encGp) (ks := fun u => u.2) (nm := fun u => u.1) (m := 2400)
    · exact i_listS (p_groups (p_var rfl) cP n2) List.mem_cons_self
    · exact fun x hx => nomatch hx
    · intro u hu
      walk_at "pv"
    · decide
    · intro u hu
      exact i_list (p_var rfl)
    · intro u hu s hs
      exact g_name
    · decide
    · intro u hu s hs
      walk_at "pv"
    · intro u hu s hs
      walk_at "pv"
    · exact h2
    · exact hz
  · exact post
/-! the free runs -/
def pre_Plan_free (C : Addr) : Pre := fun ds R o => ∃ (rows : List Str) (g d : Addr) (gs : List Gp), ds = [planD C rows g d] ∧ R = [(g, .lst (gs.map encGp))] ∧ gs.length ≤ 5000 ∧ (∀ x ∈ gs, x.2.length ≤ 2400) ∧ GoodHall rows ∧ o = .new (.lst ((freeRs rows (takenOf gs)).map encRun))
theorem meth_free : ("free" : Str) ∉ planKs := by decide +kernel
theorem n_Plan_free {c : Ct} {G : Res} {ρ : En} {ta : TE} {C : Addr} {rows : List Str} {g d : Addr} {gs : List Gp} {E : XK} (ha : EvP c G ρ ta (planD C rows g d)) (m : (g, D.lst (gs.map encGp)) ∈ c.S ∨ (g, D.lst (gs.map encGp)) ∈ G) (hl : gs.length ≤ 5000) (h2 : ∀ x ∈ gs, x.2.length ≤ 2400) (hg : GoodHall rows) :
    EvN c G ρ (tMeth C "free" (spD c.K (pre_Plan_free C)) [] E ta tNil) (.lst ((freeRs rows (takenOf gs)).map encRun)) :=
  n_meth ha meth_free a_nil (R := [(g, .lst (gs.map encGp))]) (fun x hx => by rcases List.mem_singleton.mp hx with rfl; exact m) ⟨rows, g, d, gs, rfl, rfl, hl, h2, hg, rfl⟩ fun _ e => nomatch e
theorem ok_Plan_free {P : Program} {w : World} {K : PySem.W.Frag} {mg : Str → Option Value} {base : Heap} (T : Top K mg) : FnOk P w K mg base CX0 4 T.a_Plan_free T.f_Plan_free ["self"] (spD K (pre_Plan_free T.a_Plan)) := by
  refine fnOk T.F_Plan_free sc_Plan_free (fun ds R o h => by obtain ⟨rows, g, d, gs, rfl, _⟩ := h; rfl) fun ds R o h cdv A outer sh H E hr => ?_
  obtain ⟨rows, g, d, gs, rfl, rfl, hl, h2, hg, rfl⟩ := h
  have cP := T.c_Plan
  have n1 := T.n_Plan_hall
  have h40 := hg.2.1
  refine ⟨_, (pss_one (ps_ret (pe_call (ok_runs_of T) (hr.mono (by decide)) (by rfl) T.g_runs_of T.F_runs_of.kp T.b_runs_of .nil pass0 (pa_cons (pe_fld (pv 0) rfl) (pa_cons (pe_meth0 (pv 0) T.c_Plan T.me_Plan_taken (ok_Plan_taken T) (hr.mono (by decide)) T.b_Plan_taken .nil pass0) pa_nil))))), fun F Q post => ?_⟩
  walk_at "go"
  apply sx_retN
  · exact n_runs_of (p_hall (p_var rfl) cP n1) (n_Plan_taken (p_var rfl) (.inl List.mem_cons_self) hl h2).toP (by omega) hg.short
  · exact post
/-! ### a party sits -/
def sumPr (ps : List Pr) : Int := (ps.map fun p => p.2).sum
def partyGs (gs : List Gp) (b : Rn) (ps : List Pr) : List Gp := gs ++ groupsIn b.1 b.2.1 ps
def spotsD (gs : List Gp) : D := .lst (gs.map fun g => .lst (g.2.map encSpot))
/-- what is asked of a plan and a party -/
structure PlanOk (rows : List Str) (gs : List Gp) (dds : List D) : Prop where
  hall : GoodHall rows
  gl : gs.length ≤ 5000
  sl : ∀ x ∈ gs, x.2.length ≤ 2400
  dl : dds.length ≤ 5000
structure PartyOk (gs : List Gp) (ps : List Pr) : Prop where
  ne : ps ≠ []
  len : ps.length ≤ 64
  ok : ∀ p ∈ ps, GoodName p.1 ∧ 1 ≤ p.2 ∧ p.2 ≤ 2400
  nd : (namesOf gs ++ ps.map fun p => p.1).Nodup
def wayParty (X : Addr) (rows : List Str) (gs : List Gp) (dds : List D) (ps : List Pr) (g d : Addr) (out : List Gp → D) : Way := match fitOf (freeRs rows (takenOf gs)) (sumPr ps) with
  | none => Det (.exc X) [(g, .lst (gs.map encGp)), (d, .lst dds)]
  | some b => Det (.ret (out (groupsIn b.1 b.2.1 ps))) [(g, .lst ((partyGs gs b ps).map encGp)), (d, .lst (dds ++ [encDeed gs.length [] (groupsIn b.1 b.2.1 ps)]))]
def pre_Plan_party (C X : Addr) : PreM := fun ds R M W => ∃ (rows : List Str) (g d : Addr) (gs : List Gp) (dds : List D) (ps : List Pr), ds = [planD C rows g d, .lst (ps.map encPr)] ∧ R = [] ∧ M = [(g, .lst (gs.map encGp)), (d, .lst dds)] ∧ PlanOk rows gs dds ∧ PartyOk gs ps ∧ W = wayParty X rows gs dds ps g d spotsD
theorem gives_party {X : Addr} {rows : List Str} {gs : List Gp} {dds : List D} {ps : List Pr} {g d : Addr} {out : List Gp → D} : Gives [(g, .lst (gs.map encGp)), (d, .lst dds)] (wayParty X rows gs dds ps g d out) := by
  unfold wayParty
  cases fitOf (freeRs rows (takenOf gs)) (sumPr ps) <;> exact gives_det rfl
theorem meth_do : ("_do" : Str) ∉ planKs := by decide +kernel
theorem m_Plan_do {c : Ct} {ρ : En} {ta tb tc te : TE} {C : Addr} {rows : List Str} {g d : Addr} {gs : List Gp} {dds : List D} {n : Nat} {gone come : List Gp} {E : XK} (ha : EvP c [(g, .lst (gs.map encGp)), (d, .lst dds)] ρ ta (planD C rows g d)) (hb : EvP c [(g, .lst (gs.map encGp)), (d, .lst dds)] ρ tb (.int (n : Nat))) (hc : EvP c [(g, .lst (gs.map encGp)), (d, .lst dds)] ρ tc (.lst (gone.map encGp))) (he : EvP c [(g, .lst (gs.map encGp)), (d, .lst dds)] ρ te (.lst (come.map encGp)))
    (h1 : n + gone.length ≤ gs.length) (h2 : gs.length + come.length ≤ 10000) (h3 : dds.length ≤ 10000) :
    EvM c [(g, .lst (gs.map encGp)), (d, .lst dds)] ρ (tMeth C "_do" (spM c.K (pre_Plan_do C)) [] E ta (tCons tb (tCons tc (tCons te tNil)))) .non [(g, .lst ((doGs gs n gone.length come).map encGp)), (d, .lst (dds ++ [encDeed n gone come]))] :=
  m_meth (A0 := []) (B0 := []) (M := [(g, .lst (gs.map encGp)), (d, .lst dds)]) (M' := [(g, .lst ((doGs gs n gone.length come).map encGp)), (d, .lst (dds ++ [encDeed n gone come]))]) rfl rfl ha meth_do (a_cons hb (a_cons hc (a_cons he a_nil))) (R := []) (fun x hx => nomatch hx) ⟨rows, g, d, gs, dds, n, gone, come, rfl, rfl, rfl, h1, h2, h3, rfl⟩

def able (runs : List Rn) (size : Int) : List Rn := runs.filter fun r => decide (size ≤ r.2.2)
theorem fit_spec (runs : List Rn) (size : Int) : (fitOf runs size = none ∧ able runs size = []) ∨
    ∃ b, fitOf runs size = some b ∧ b ∈ able runs size ∧ (∀ r ∈ able runs size, b.2.2 ≤ r.2.2) ∧ ((able runs size).filter fun r => decide (r.2.2 = b.2.2))[0]? = some b := by
  have key : ∀ n, (fitOf (runs.take n) size = none ∧ able (runs.take n) size = []) ∨
      ∃ b, fitOf (runs.take n) size = some b ∧ b ∈ able (runs.take n) size ∧ (∀ r ∈ able (runs.take n) size, b.2.2 ≤ r.2.2) ∧ ((able (runs.take n) size).filter fun r => decide (r.2.2 = b.2.2))[0]? = some b := by
    intro n
    induction n with
    | zero => exact .inl ⟨rfl, rfl⟩
    | succ n ih =>
      cases hx : runs[n]? with
      | none =>
        have e : runs.take (n + 1) = runs.take n := by rw [List.take_add_one, hx]; simp
        rw [e]; exact ih
      | some x =>
        have e : able (runs.take (n + 1)) size = able (runs.take n) size ++ (if size ≤ x.2.2 then [x] else []) := by
          unfold able
          rw [filter_take hx]
          by_cases h : size ≤ x.2.2 <;> simp [h]
        have f : fitOf (runs.take (n + 1)) size = fitStep size (fitOf (runs.take n) size) x := fold_succ hx
        rw [e, f]
        rcases ih with ⟨h1, h2⟩ | ⟨b, h1, h2, h3, h4⟩
        · rw [h1, h2]
          by_cases h : size ≤ x.2.2
          · refine .inr ⟨x, by simp [fitStep, h], by simp [h], ?_, by simp [h]⟩
            intro r hr
            simp [h] at hr
            subst hr
            omega
          · exact .inl ⟨by simp [fitStep, h], by simp [h]⟩
        · rw [h1]
          by_cases h : size ≤ x.2.2
          · by_cases hb : x.2.2 < b.2.2
            · refine .inr ⟨x, by simp [fitStep, h, hb], by simp [h], ?_, ?_⟩
              · intro r hr
                simp [h] at hr
                rcases hr with hr | hr
                · have := h3 r hr; omega
                · subst hr; omega
              · have em : ((able (runs.take n) size).filter fun r => decide (r.2.2 = x.2.2)) = [] := by
                  rw [List.filter_eq_nil_iff]
                  intro r hr
                  have := h3 r hr
                  simp
                  omega
                rw [List.filter_append, em]
                simp [h]
            · refine .inr ⟨b, by simp [fitStep, h, hb], by simp [h2], ?_, ?_⟩
              · intro r hr
                simp [h] at hr
                rcases hr with hr | hr
                · exact h3 r hr
                · subst hr; omega
              · rw [List.filter_append, List.getElem?_append_left (List.getElem?_eq_some_iff.mp h4).1]
                exact h4
          · refine .inr ⟨b, by simp [fitStep, h], by simp [h2], ?_, ?_⟩
            · intro r hr
              simp [h] at hr
              exact h3 r hr
            · simp only [h, if_false, List.append_nil]
              exact h4
  have := key runs.length
  rwa [List.take_length] at this

theorem freeRs_bd {rows : List Str} {td : TD} (h60 : ∀ s ∈ rows, s.length ≤ 60) : ∀ r ∈ freeRs rows td, 0 ≤ r.1 ∧ 0 ≤ r.2.1 ∧ 1 ≤ r.2.2 ∧ r.2.1 + r.2.2 ≤ 60 := fun r hr => by
  obtain ⟨t, ht, rfl⟩ := List.mem_map.mp hr
  obtain ⟨_, s, hs, hb⟩ := hallTs_mem _ 0 t ht
  have k := blocksRow_ok s
  have h1 := k.lt _ hb
  have h2 := (k.ok _ hb).1
  have h3 := shown_short td 46 rows 0 h60 s (List.mem_of_getElem? hs)
  refine ⟨by show (0 : Int) ≤ (t.1 : Int); omega, by show (0 : Int) ≤ (t.2.1 : Int); omega, by show (1 : Int) ≤ (t.2.2 : Int); omega, by show (t.2.1 : Int) + (t.2.2 : Int) ≤ 60; omega⟩
theorem fit_mem {runs : List Rn} {size : Int} {b : Rn} (h : fitOf runs size = some b) : b ∈ runs ∧ size ≤ b.2.2 := by
  rcases fit_spec runs size with ⟨h1, _⟩ | ⟨b', h1, h2, _⟩
  · rw [h1] at h; cases h
  · rw [h1] at h
    cases h
    obtain ⟨a1, a2⟩ := List.mem_filter.mp h2
    exact ⟨a1, by simpa using a2⟩
theorem doGs_end (gs come : List Gp) : doGs gs gs.length 0 come = gs ++ come := by simp [doGs]
theorem ok_Plan_party {P : Program} {w : World} {K : PySem.W.Frag} {mg : Str → Option Value} {base : Heap} (T : Top K mg) : FnOk P w K mg base (L2N.CX P w) 5 T.a_Plan_party T.f_Plan_party ["self", "pairs"] (spM K (pre_Plan_party T.a_Plan T.a_NoRoom)) := by
  refine Ho.fnOkMXN T.F_Plan_party sc_Plan_party (fun ds R M W h => by
    obtain ⟨rows, g, d, gs, dds, ps, rfl, rfl, rfl, _, _, rfl⟩ := h
    exact ⟨rfl, gives_party⟩) fun ds R M W h cdv A outer sh H E hr => ?_
  obtain ⟨rows, g, d, gs, dds, ps, rfl, rfl, rfl, pok, pk, rfl⟩ := h
  have cP := T.c_Plan
  have n2 := T.n_Plan__groups
  refine ⟨_, (pss_cons (ps_expr (pe_meth (pv 0) T.c_Plan T.me_Plan_need_new (ok_Plan_need_new T) (hr.mono (by decide)) T.b_Plan_need_new .nil (Ho.pass_outN (L2N.takes_of rfl rfl rfl rfl)) (pa_cons (pv 1) pa_nil)))
  (pss_cons (ps_if (pt_not (Dl.pt_truthD (pv 1) (by intro _; rfl)))
  (pss_one (ps_ret (pe_lst pa_nil)))
  pss_nil)
  (pss_cons (ps_set (i := 2) sc_Plan_party.nd rfl (Or.inl rfl) (pe_call (ok_fitting T) (hr.mono (by decide)) (by rfl) T.g_fitting T.F_fitting.kp T.b_fitting .nil pass0 (pa_cons (pe_meth0 (pv 0) T.c_Plan T.me_Plan_free (ok_Plan_free T) (hr.mono (by decide)) T.b_Plan_free .nil pass0) (pa_cons (pe_callB (cr_sum rfl) (by rfl) T.m_sum PyProof.Rows.boot_sum (pa_cons (by exact (pe_lc (own := [("name", 4), ("size", 6)]) (g := (gTup K 2 (gCons (gName 4) (gCons (gName 6) gNil)))) (tt := tYes) rfl sc_Plan_party.nd (by exact (pi_list (pv 1))) (blkOk_by (N := ["self", "pairs", "run", "come", "name", "spots", "size"]) (sc := defScope s_Plan_party) (by decide +kernel)) (fun _ _ _ _ _ => by exact (pg_tup rfl (pgs_cons (pg_name (i := 4) sc_Plan_party.nd rfl (Or.inl rfl)) (pgs_cons (pg_name (i := 6) sc_Plan_party.nd rfl (Or.inl rfl)) pgs_nil)))) (fun _ _ _ _ _ => by exact pts_nil) (fun _ _ _ _ _ => by exact (pv 6)))) pa_nil)) pa_nil))))
  (pss_cons (ps_if (pt_cmpR op_isN (pv 2) pe_non (nomark _))
  (pss_one (Ho.ps_raiseDN rfl (L2N.takes_of rfl rfl rfl rfl) (L2N.pmk_own PySem.F.excBase_ValueError T.x_NoRoom T.g_NoRoom T.k_NoRoom (raises_own T.b_NoRoom T.t_NoRoom) rfl)))
  pss_nil)
  (pss_cons (ps_set (i := 3) sc_Plan_party.nd rfl (Or.inl rfl) (pe_call (ok_groups_in T) (hr.mono (by decide)) (by rfl) T.g_groups_in T.F_groups_in.kp T.b_groups_in .nil pass0 (pa_cons (pv 2) (pa_cons (pv 1) pa_nil))))
  (pss_cons (ps_expr (pe_meth (pv 0) T.c_Plan T.me_Plan_do (ok_Plan_do T) (hr.mono (by decide)) T.b_Plan_do .nil pass0 (pa_cons (pe_callB call_len_seq (by rfl) T.m_len PySem.boot_len (pa_cons (pe_fld (pv 0) rfl) pa_nil)) (pa_cons (pe_lst pa_nil) (pa_cons (pv 3) pa_nil)))))
  (pss_one (ps_ret (by exact (pe_lc (own := [("name", 4), ("spots", 5)]) (g := (gTup K 2 (gCons (gName 4) (gCons (gName 5) gNil)))) (tt := tYes) rfl sc_Plan_party.nd (by exact (pi_list (pv 3))) (blkOk_by (N := ["self", "pairs", "run", "come", "name", "spots", "size"]) (sc := defScope s_Plan_party) (by decide +kernel)) (fun _ _ _ _ _ => by exact (pg_tup rfl (pgs_cons (pg_name (i := 4) sc_Plan_party.nd rfl (Or.inl rfl)) (pgs_cons (pg_name (i := 5) sc_Plan_party.nd rfl (Or.inl rfl)) pgs_nil)))) (fun _ _ _ _ _ => by exact pts_nil) (fun _ _ _ _ _ => by exact (pe_callTy (r := Dl.rListQ K) call_list_of (by rfl) T.m_list PyProof.Rows.boot_list (pa_cons (pv 5) pa_nil))))))))))))), fun B F Q ways => ?_⟩
  walk_at "go"
  have hgl := pok.gl
  have hgl1 : gs.length ≤ 10000 := by omega
  have hpl := pk.len
  have hdl := pok.dl
  apply sx_drop
  · exact p_Plan_need_new (p_var rfl) (.inr List.mem_cons_self) (p_var rfl) hgl1 (by omega) pk.ok pk.nd
  apply sx_skip
  · refine EvT.is (t_not (t_truL (EvP.toS (p_var rfl)))) ?_
    have := pk.ne
    cases ps with
    | nil => exact absurd rfl this
    | cons p ps => rfl
  have h0 : ∀ p ∈ ps, 0 ≤ p.2 ∧ p.2 ≤ 2400 := fun p hp => by have := (pk.ok p hp).2; omega
  apply sx_asg (d := encOR (fitOf (freeRs rows (takenOf gs)) (sumPr ps)))
  · refine p_fitting (n_Plan_free (p_var rfl) (.inr List.mem_cons_self) hgl pok.sl pok.hall).toP May.self ?_
    apply p_sumF (us := ps) (g := fun u => u.2)
    apply EvP.toS
    apply EvN.toP
    apply n_map (g := []) (us := ps) (enc := encPr) (f := fun u => D.int u.2)
    · exact i_list (p_var rfl)
    · exact fun x hx => nomatch hx
    · intro u hu
      walk_at "pv"
    · decide
    · intro u hu
      walk_at "pv"
    · omega
  walk_at "nrm"
  unfold wayParty at ways
  cases hf : fitOf (freeRs rows (takenOf gs)) (sumPr ps) with
  | none =>
    rw [hf] at ways
    apply sx_when (b := true)
    · apply EvT.is
      · walk_at "pv"
      · rfl
    · intro _
      exact sx_raise fun F' H' A => ways.ex _ _ ⟨rfl, rfl⟩ F' H' A
    · intro h; cases h
  | some b =>
    rw [hf] at ways
    obtain ⟨hbm, hbs⟩ := fit_mem hf
    have hbd := freeRs_bd (fun s hs => (pok.hall.2.2 s hs).1) b hbm
    walk_at "skip"
    · rfl
    apply sx_asg
    · exact (n_groups_in (b := b) (p_var rfl) (p_var rfl) hbd.2.1 (by omega) hpl h0).toP
    walk_at "nrm"
    have hcl := groupsIn_len b.1 ps b.2.1
    unfold partyGs at ways
    dsimp only at ways
    generalize groupsIn b.1 b.2.1 ps = come at ways hcl
    apply sx_dropM
    · refine m_Plan_do (n := gs.length) (gone := []) (come := come) (p_var rfl) ?_ ?_ (p_var rfl) (by simp) (by omega) (by omega)
      · refine EvP.is (p_lenL (EvS.res (p_groups (p_var rfl) cP n2) (.inr List.mem_cons_self))) (by simp)
      · exact (n_lst a_nil (by simp)).toP
    rw [show ([] : List Gp).length = 0 from rfl, doGs_end]
    apply sx_retM
    · apply EvP.toM
      apply EvN.toP
      apply n_map (g := []) (us := come) (enc := encGp) (f := fun u => D.lst (u.2.map encSpot))
      · exact i_list (p_var rfl)
      · exact fun x hx => nomatch hx
      · intro u hu
        walk_at "pv"
      · decide
      · intro u hu
        walk_at "pv"
      · omega
    · exact fun v F' H' A r => ways.rt _ _ ⟨rfl, rfl⟩ v F' H' A r

section
variable {c : Ct} {G G' A0 B0 : Res} {ρ : En} {ta tb tc : TE} {ts : TS} {E : Ends} {E1 : XK}
theorem At.perm {F H : Hp} {σ : L2.St} (p : List.Perm G G') (A : At c G ρ F σ H) : At c G' ρ F σ H :=
  ⟨A.go, A.sl, A.sh, fun x hx => A.ow x (p.mem_iff.mpr hx), (p.map (·.1)).nodup_iff.mp A.nd, fun x hx => A.ns x (p.mem_iff.mpr hx)⟩
theorem sx_perm (p : List.Perm G G') (q : Sx c G' ρ ts E) : Sx c G ρ ts E := fun F σ H A => q F σ H (At.perm p A)
theorem perm3 {α : Type} (a b e : α) (l : List α) : List.Perm (a :: b :: e :: l) (e :: b :: a :: l) :=
  ((List.Perm.swap b a (e :: l)).trans ((List.Perm.swap e a l).cons b)).trans (List.Perm.swap e b (a :: l))
/-! calls of a party -/
theorem meth_party : ("party" : Str) ∉ planKs := by decide +kernel
theorem m_Plan_party {C X : Addr} {rows : List Str} {g d : Addr} {gs : List Gp} {dds : List D} {ps : List Pr} {b : Rn} (hG : G = A0 ++ ([(g, .lst (gs.map encGp)), (d, .lst dds)] ++ B0)) (hG' : G' = A0 ++ ([(g, .lst ((partyGs gs b ps).map encGp)), (d, .lst (dds ++ [encDeed gs.length [] (groupsIn b.1 b.2.1 ps)]))] ++ B0))
    (ha : EvP c G ρ ta (planD C rows g d)) (hb : EvP c G ρ tb (.lst (ps.map encPr))) (h1 : PlanOk rows gs dds) (h2 : PartyOk gs ps) (hf : fitOf (freeRs rows (takenOf gs)) (sumPr ps) = some b) :
    EvM c G ρ (tMeth C "party" (spM c.K (pre_Plan_party C X)) [] E1 ta (tCons tb tNil)) (spotsD (groupsIn b.1 b.2.1 ps)) G' :=
  m_meth (M := [(g, .lst (gs.map encGp)), (d, .lst dds)]) hG hG' ha meth_party (a_cons hb a_nil) (R := []) (fun x hx => nomatch hx) ⟨rows, g, d, gs, dds, ps, rfl, rfl, rfl, h1, h2, by unfold wayParty; rw [hf]⟩
theorem x_Plan_party {C X : Addr} {rows : List Str} {g d : Addr} {gs : List Gp} {dds : List D} {ps : List Pr} (hG : G = A0 ++ ([(g, .lst (gs.map encGp)), (d, .lst dds)] ++ B0))
    (ha : EvP c G ρ ta (planD C rows g d)) (hb : EvP c G ρ tb (.lst (ps.map encPr))) (h1 : PlanOk rows gs dds) (h2 : PartyOk gs ps) (hf : fitOf (freeRs rows (takenOf gs)) (sumPr ps) = none) :
    EvX c G ρ (tMeth C "party" (spM c.K (pre_Plan_party C X)) [] E1 ta (tCons tb tNil)) X G E1 :=
  x_methM (M := [(g, .lst (gs.map encGp)), (d, .lst dds)]) (M' := [(g, .lst (gs.map encGp)), (d, .lst dds)]) hG hG ha meth_party (a_cons hb a_nil) (R := []) (fun x hx => nomatch hx) ⟨rows, g, d, gs, dds, ps, rfl, rfl, rfl, h1, h2, by unfold wayParty; rw [hf]⟩
end
/-! ### one group sits -/
def outSit : List Gp → D
  | [] => .non
  | x :: _ => .lst (x.2.map encSpot)
def pre_Plan_sit (C X : Addr) : PreM := fun ds R M W => ∃ (rows : List Str) (g d : Addr) (gs : List Gp) (dds : List D) (n : Str) (s : Int), ds = [planD C rows g d, .str n, .int s] ∧ R = [] ∧ M = [(g, .lst (gs.map encGp)), (d, .lst dds)] ∧ PlanOk rows gs dds ∧ PartyOk gs [(n, s)] ∧ W = wayParty X rows gs dds [(n, s)] g d outSit
theorem ok_Plan_sit {P : Program} {w : World} {K : PySem.W.Frag} {mg : Str → Option Value} {base : Heap} (T : Top K mg) : FnOk P w K mg base (L2N.CX P w) 6 T.a_Plan_sit T.f_Plan_sit ["self", "name", "size"] (spM K (pre_Plan_sit T.a_Plan T.a_NoRoom)) := by
  refine Ho.fnOkMXN T.F_Plan_sit sc_Plan_sit (fun ds R M W h => by
    obtain ⟨rows, g, d, gs, dds, n, s, rfl, rfl, rfl, _, _, rfl⟩ := h
    exact ⟨rfl, gives_party⟩) fun ds R M W h cdv A outer sh H E hr => ?_
  obtain ⟨rows, g, d, gs, dds, n, s, rfl, rfl, rfl, pok, pk, rfl⟩ := h
  refine ⟨_, (pss_one (ps_ret (pe_ix ix_list (pe_meth (pv 0) T.c_Plan T.me_Plan_party (ok_Plan_party T) (hr.mono (by decide)) T.b_Plan_party .nil (Ho.pass_outN (L2N.takes_of rfl rfl rfl rfl)) (pa_cons (pe_lst (pa_cons (pe_tup (pa_cons (pv 1) (pa_cons (pv 2) pa_nil))) pa_nil)) pa_nil)) pe_int (fun _ _ => rfl)))), fun B F Q ways => ?_⟩
  walk_at "go"
  have hb : EvP ⟨K, B, F, []⟩ [(g, .lst (gs.map encGp)), (d, .lst dds)] [some (planD T.a_Plan rows g d), some (.str n), some (.int s)] (tLst (tCons (tTup (tCons (tVar 1) (tCons (tVar 2) tNil))) tNil)) (.lst ([(n, s)].map encPr)) := by
    refine (n_lst (a_cons ?_ a_nil) (by simp)).toP
    show EvP _ _ _ _ (D.tup [.str n, .int s])
    walk_at "pv"
  unfold wayParty at ways
  cases hf : fitOf (freeRs rows (takenOf gs)) (sumPr [(n, s)]) with
  | none =>
    rw [hf] at ways
    apply sx_retX
    · exact x_op (x_Plan_party (A0 := []) (B0 := []) rfl (p_var rfl) hb pok pk hf)
    · exact fun F' H' A => ways.ex _ _ ⟨rfl, rfl⟩ F' H' A
  | some b =>
    rw [hf] at ways
    apply sx_retM
    · exact m_ixL (m_Plan_party (A0 := []) (B0 := []) rfl rfl (p_var rfl) hb pok pk hf) p_int at_0
    · exact fun v F' H' A r => ways.rt _ _ ⟨rfl, rfl⟩ v F' H' A r
/-! ### a group leaves -/
def pre_Plan_leave (C : Addr) : PreM := fun ds R M W => ∃ (rows : List Str) (g d : Addr) (gs : List Gp) (dds : List D) (n : Str) (j : Nat) (gp : Gp), ds = [planD C rows g d, .str n] ∧ R = [] ∧ M = [(g, .lst (gs.map encGp)), (d, .lst dds)] ∧ gs.length ≤ 5000 ∧ dds.length ≤ 5000 ∧ GoodName n ∧
  (namesOf gs)[j]? = some n ∧ (∀ m, m < j → (namesOf gs)[m]? ≠ some n) ∧ gs[j]? = some gp ∧ W = Det (.ret (.lst (gp.2.map encSpot))) [(g, .lst ((doGs gs j 1 []).map encGp)), (d, .lst (dds ++ [encDeed j [gp] []]))]
/-! ### a new plan -/
def pre_Plan_init (C : Addr) : PreM := fun ds R M W => ∃ (rows : List Str) (x : Addr), ds = [.ref x, .lst (rows.map D.str)] ∧ R = [] ∧ M = [(x, .ins C [] [])] ∧ GoodHall rows ∧ W = fun o M' => o = .ret .non ∧ ∃ g d, M' = [(d, .lst []), (g, .lst []), (x, planD C rows g d)]
theorem ok_Plan__init {P : Program} {w : World} {K : PySem.W.Frag} {mg : Str → Option Value} {base : Heap} (T : Top K mg) : FnOk P w K mg base (L2N.CX P w) 3 T.a_Plan__init T.f_Plan__init ["self", "rows"] (spM K (pre_Plan_init T.a_Plan)) := by
  refine Ho.fnOkMXN T.F_Plan__init sc_Plan__init (fun ds R M W h => by
    obtain ⟨rows, x, rfl, rfl, rfl, _, rfl⟩ := h
    refine ⟨rfl, fun o M' hw y hy => ?_⟩
    obtain ⟨_, g, d, rfl⟩ := hw
    rcases List.mem_singleton.mp hy with rfl
    simp) fun ds R M W h cdv A outer sh H E hr => ?_
  obtain ⟨rows, x, rfl, rfl, rfl, hg, rfl⟩ := h
  have cP := T.c_Plan
  have n1 := T.n_Plan_hall
  have n2 := T.n_Plan__groups
  have n3 := T.n_Plan__deeds
  refine ⟨_, (pss_cons (ps_fld (pv 0) (pe_call (ok_need_hall T) (hr.mono (by decide)) (by rfl) T.g_need_hall T.F_need_hall.kp T.b_need_hall .nil (Ho.pass_outN (L2N.takes_of rfl rfl rfl rfl)) (pa_cons (pv 1) pa_nil)) rfl)
  (pss_cons (ps_fld (pv 0) (pe_lst pa_nil) rfl)
  (pss_one (ps_fld (pv 0) (pe_lst pa_nil) rfl)))), fun B F Q ways => ?_⟩
  walk_at "go"
  apply sx_fldP 0
  · exact (n_need_hall (p_var rfl) hg).toP
  · exact p_var rfl
  · exact rfl
  · exact cP
  · exact n1
  · exact fun h => nomatch h
  · decide
  walk_at "nrm"
  apply sx_fldN 0
  · exact n_lst a_nil (by simp)
  · exact p_var rfl
  · exact rfl
  · exact cP
  · exact n2
  · decide +kernel
  · decide
  intro g
  walk_at "nrm"
  apply Sx.last
  apply sx_fldN 1
  · exact n_lst a_nil (by simp)
  · exact p_var rfl
  · exact rfl
  · exact cP
  · exact n3
  · decide +kernel
  · decide
  intro d
  walk_at "nrm"
  exact sx_fall fun σ F' H' A => ways.rt .non _ ⟨rfl, g, d, rfl⟩ _ F' H' A .non
/-- plan = Plan(rows): frozen, its lists at hand -/
theorem sx_plan {c : Ct} {G : Res} {ρ : En} {tb : TE} {tz : TS} {E : Ends} {E1 : XK} {C : Addr} {rows : List Str} {i : Nat} (hi : i < ρ.length) (hb : EvP c G ρ tb (.lst (rows.map D.str))) (hg : GoodHall rows) (q : ∀ g d, Sx c ((g, .lst []) :: (d, .lst []) :: G) (ρ.set i (some (planD C rows g d))) tz E) :
    Sx c G ρ (tSeq (tAsg (tMake C (spM c.K (pre_Plan_init C)) [] E1 (tCons tb tNil)) (gName i)) tz) E := by
  refine sx_make (R := []) (a_cons hb a_nil) (fun x hx => nomatch hx) (W := fun x o M' => o = .ret .non ∧ ∃ g d, M' = [(d, .lst []), (g, .lst []), (x, planD C rows g d)]) (fun x => ⟨rows, x, rfl, rfl, rfl, hg, rfl⟩) (fun x X M' h => nomatch h.1) (fun x e M' h => by cases h.1; rfl) fun x M' h => ?_
  obtain ⟨_, g, d, rfl⟩ := h
  refine sx_perm (perm3 _ _ _ _) ?_
  have hx : (ρ.set i (some (D.ref x)))[i]? = some (some (.ref x)) := List.getElem?_set_self hi
  refine sx_freeze hx ?_
  rw [List.set_set]
  exact q g d

/-! ### drawn, written -/
def pre_drawn (C : Addr) : Pre := fun ds R o => ∃ (rows : List Str) (g d : Addr) (gs : List Gp), ds = [planD C rows g d] ∧ R = [(g, .lst (gs.map encGp))] ∧ gs.length ≤ 5000 ∧ (∀ x ∈ gs, x.2.length ≤ 2400) ∧ GoodHall rows ∧ o = .new (.lst ((shown 0 (takenOf gs) rows 35).map D.str))
theorem n_drawn {c : Ct} {G : Res} {ρ : En} {ta : TE} {C : Addr} {rows : List Str} {g d : Addr} {gs : List Gp} {E : XK} (ha : EvP c G ρ ta (planD C rows g d)) (m : (g, D.lst (gs.map encGp)) ∈ c.S ∨ (g, D.lst (gs.map encGp)) ∈ G) (hl : gs.length ≤ 5000) (h2 : ∀ x ∈ gs, x.2.length ≤ 2400) (hg : GoodHall rows) :
    EvN c G ρ (tCall (spD c.K (pre_drawn C)) [] E (tCons ta tNil)) (.lst ((shown 0 (takenOf gs) rows 35).map D.str)) :=
  n_call (a_cons ha a_nil) (R := [(g, .lst (gs.map encGp))]) (fun x hx => by rcases List.mem_singleton.mp hx with rfl; exact m) ⟨rows, g, d, gs, rfl, rfl, hl, h2, hg, rfl⟩ fun _ e => nomatch e
theorem ok_drawn {P : Program} {w : World} {K : PySem.W.Frag} {mg : Str → Option Value} {base : Heap} (T : Top K mg) : FnOk P w K mg base CX0 2 T.a_drawn T.f_drawn ["plan"] (spD K (pre_drawn T.a_Plan)) := by
  refine fnOk T.F_drawn sc_drawn (fun ds R o h => by obtain ⟨rows, g, d, gs, rfl, _⟩ := h; rfl) fun ds R o h cdv A outer sh H E hr => ?_
  obtain ⟨rows, g, d, gs, rfl, rfl, hl, h2, hg, rfl⟩ := h
  have cP := T.c_Plan
  have n1 := T.n_Plan_hall
  have h40 := hg.2.1
  have hsg : ("#" : Str) = ⟨#[35]⟩ := by decide +kernel
  refine ⟨_, (pss_one (ps_ret (pe_call (ok_with_taken T) (hr.mono (by decide)) (by rfl) T.g_with_taken T.F_with_taken.kp T.b_with_taken .nil pass0 (pa_cons (pe_fld (pv 0) rfl) (pa_cons (pe_meth0 (pv 0) T.c_Plan T.me_Plan_taken (ok_Plan_taken T) (hr.mono (by decide)) T.b_Plan_taken .nil pass0) (pa_cons (pe_glob rfl T.h_TAKEN_SEAT T.r_TAKEN_SEAT) pa_nil)))))), fun F Q post => ?_⟩
  walk_at "go"
  rw [hsg]
  apply sx_retN
  · exact n_with_taken (p_hall (p_var rfl) cP n1) (n_Plan_taken (p_var rfl) (.inl List.mem_cons_self) hl h2).toP p_str (by omega) hg.short
  · exact post
def tS (i : Int) : Str := Str.ofString (toString i)
theorem tS_all : ((List.range 100).all fun n => decide ((tS (n : Int)).length ≤ 2) && decide (((n : Nat) : Int).natAbs.log2 < 1920)) = true := by decide +kernel
theorem tS_len {i : Int} (h0 : 0 ≤ i) (h1 : i ≤ 99) : (tS i).length ≤ 2 ∧ i.natAbs.log2 < 1920 := by
  have := List.all_eq_true.mp tS_all i.toNat (List.mem_range.mpr (by omega))
  rw [show ((i.toNat : Nat) : Int) = i by omega] at this
  simpa using this
def SmallSp (s : Spot) : Prop := 0 ≤ s.1 ∧ s.1 ≤ 99 ∧ 0 ≤ s.2 ∧ s.2 ≤ 99
def wordOf (s : Spot) : Str := [tS s.1, ("." : Str), tS s.2].foldl (· ++ ·) Str.empty
def lineOf (n : Str) (spots : List Spot) : Str := n ++ (": " : Str) ++ Txt.join (" " : Str) (spots.map wordOf)
theorem cat_len (a b : Str) : (a ++ b).length = a.length + b.length := by
  show (a.cps ++ b.cps).size = _
  rw [Array.size_append]; rfl
theorem word_len {s : Spot} (h : SmallSp s) : (wordOf s).length ≤ 5 := by
  have h1 := (tS_len h.1 h.2.1).1
  have h2 := (tS_len h.2.2.1 h.2.2.2).1
  have h3 : ("." : Str).length = 1 := by decide +kernel
  have h4 : Str.empty.length = 0 := rfl
  show (((Str.empty ++ tS s.1) ++ ("." : Str)) ++ tS s.2).length ≤ 5
  rw [cat_len, cat_len, cat_len]
  omega
theorem join_len (sep : Str) : ∀ l : List Str, (Txt.join sep l).length ≤ (l.map (·.length)).sum + l.length * sep.length := by
  intro l
  rw [eq_of_beq (join_plain_closes sep l)]
  induction l with
  | nil => simp; rfl
  | cons x r ih =>
    cases r with
    | nil => show x.length ≤ _; simp
    | cons y r =>
      show ((x ++ sep) ++ Str.join sep (y :: r)).length ≤ _
      rw [cat_len, cat_len, List.map_cons, List.sum_cons, List.length_cons, Nat.add_mul]
      omega
def pre_line_of : Pre := fun ds R o => ∃ (n : Str) (spots : List Spot), ds = [.str n, .lst (spots.map encSpot)] ∧ R = [] ∧ n.length ≤ 100 ∧ spots.length ≤ 2400 ∧ (∀ s ∈ spots, SmallSp s) ∧ o = .ret (.str (lineOf n spots))
theorem p_line_of {c : Ct} {G : Res} {ρ : En} {ta tb : TE} {n : Str} {spots : List Spot} {E : XK} (ha : EvP c G ρ ta (.str n)) (hb : EvP c G ρ tb (.lst (spots.map encSpot))) (h1 : n.length ≤ 100) (h2 : spots.length ≤ 2400) (h3 : ∀ s ∈ spots, SmallSp s) :
    EvP c G ρ (tCall (spD c.K pre_line_of) [] E (tCons ta (tCons tb tNil))) (.str (lineOf n spots)) :=
  p_call (a_cons ha (a_cons hb a_nil)) (R := []) (fun x hx => nomatch hx) ⟨n, spots, rfl, rfl, h1, h2, h3, rfl⟩
local macro_rules | `(tactic| walk_at "pv") => `(tactic| ((with_reducible apply p_line_of) <;> (try walk_at "pv")))
/-! the written lines -/
def pre_written (C : Addr) : Pre := fun ds R o => ∃ (rows : List Str) (g d : Addr) (gs : List Gp), ds = [planD C rows g d] ∧ R = [(g, .lst (gs.map encGp))] ∧ gs.length ≤ 5000 ∧ (∀ x ∈ gs, x.2.length ≤ 2400 ∧ GoodName x.1 ∧ ∀ s ∈ x.2, SmallSp s) ∧ (namesOf gs).Nodup ∧ o = .new (.lst ((gs.map fun x => lineOf x.1 x.2).map D.str))
theorem n_written {c : Ct} {G : Res} {ρ : En} {ta : TE} {C : Addr} {rows : List Str} {g d : Addr} {gs : List Gp} {E : XK} (ha : EvP c G ρ ta (planD C rows g d)) (m : (g, D.lst (gs.map encGp)) ∈ c.S ∨ (g, D.lst (gs.map encGp)) ∈ G) (hl : gs.length ≤ 5000) (h2 : ∀ x ∈ gs, x.2.length ≤ 2400 ∧ GoodName x.1 ∧ ∀ s ∈ x.2, SmallSp s) (hn : (namesOf gs).Nodup) :
    EvN c G ρ (tCall (spD c.K (pre_written C)) [] E (tCons ta tNil)) (.lst ((gs.map fun x => lineOf x.1 x.2).map D.str)) :=
  n_call (a_cons ha a_nil) (R := [(g, .lst (gs.map encGp))]) (fun x hx => by rcases List.mem_singleton.mp hx with rfl; exact m) ⟨rows, g, d, gs, rfl, rfl, hl, h2, hn, rfl⟩ fun _ e => nomatch e
/-! ### the law's own table of groups -/
def heldL (h : List Gp) : KD := h.map fun g => (g.1, .lst (g.2.map encSpot))
def heldD (h : List Gp) : D := kdD (heldL h)
theorem held_val {h : List Gp} (hn : (namesOf h).Nodup) {g : Gp} (hg : g ∈ h) : valA (heldL h) g.1 = some (.lst (g.2.map encSpot)) := by
  refine valA_of_mem ?_ (List.mem_map.mpr ⟨g, hg, rfl⟩)
  have e : (heldL h).map (·.1) = namesOf h := by unfold heldL namesOf; rw [List.map_map]; rfl
  rw [e]
  exact hn
theorem held_names (h : List Gp) : ((heldL h).map fun e => D.str e.1) = h.map fun g => D.str g.1 := by unfold heldL; rw [List.map_map]; rfl
/-- the groups can be told -/
structure HeldOk (h : List Gp) : Prop where
  nd : (namesOf h).Nodup
  len : h.length ≤ 100
  sl : ∀ g ∈ h, g.2.length ≤ 2400
  tot : (h.map fun g => g.2.length).sum ≤ 60000
theorem putTwo_sum : ∀ (us : List Gp) (td : TD), (putTwo us (fun g => g.2) (fun g => g.1) td).length ≤ td.length + (us.map fun g => g.2.length).sum
  | [], td => Nat.le_add_right _ _
  | u :: us, td => by
    have h1 := putTwo_sum us (putAll td u.2 u.1)
    have h2 := putAll_len u.1 u.2 td
    show (putTwo us (fun g => g.2) (fun g => g.1) (putAll td u.2 u.1)).length ≤ _
    rw [List.map_cons, List.sum_cons]
    omega
theorem sum_at {us : List Gp} {i : Nat} {g : Gp} (h : us[i]? = some g) : ((us.take i).map fun g => g.2.length).sum + g.2.length ≤ (us.map fun g => g.2.length).sum := by
  have e : us = us.take i ++ g :: us.drop (i + 1) := by
    obtain ⟨a1, a2⟩ := List.getElem?_eq_some_iff.mp h
    rw [← a2, ← List.drop_eq_getElem_cons a1, List.take_append_drop]
  conv => rhs; rw [e]
  rw [List.map_append, List.sum_append, List.map_cons, List.sum_cons]
  omega
def pre_law_taken : Pre := fun ds R o => ∃ (d : D) (h : List Gp), ds = [d] ∧ Arg d R (heldD h) ∧ HeldOk h ∧ o = .new (tdD (takenOf h))
theorem n_law_taken {c : Ct} {G : Res} {ρ : En} {ta : TE} {d : D} {R : Res} {h : List Gp} {E : XK} (ha : EvP c G ρ ta d) (m : May c G d (heldD h) R) (ok : HeldOk h) : EvN c G ρ (tCall (spD c.K pre_law_taken) [] E (tCons ta tNil)) (tdD (takenOf h)) :=
  n_call (a_cons ha a_nil) m.2 ⟨d, h, rfl, m.1, ok, rfl⟩ fun _ e => nomatch e
local macro_rules | `(tactic| walk_at "pv") => `(tactic| ((with_reducible apply n_law_taken) <;> (try walk_at "pv")))

/-! ### the law's own lines -/
theorem word_eq (s : Spot) : wordOf s = (tS s.1 ++ ("." : Str)) ++ tS s.2 := by
  show ((Str.empty ++ tS s.1) ++ ("." : Str)) ++ tS s.2 = _
  rw [show Str.empty ++ tS s.1 = tS s.1 from Str.empty_append _]
def pre_law_lines : Pre := fun ds R o => ∃ (d : D) (h : List Gp), ds = [d] ∧ Arg d R (heldD h) ∧ HeldOk h ∧ (∀ g ∈ h, g.1.length ≤ 100 ∧ ∀ s ∈ g.2, SmallSp s) ∧ o = .new (.lst ((h.map fun x => lineOf x.1 x.2).map D.str))
theorem n_law_lines {c : Ct} {G : Res} {ρ : En} {ta : TE} {d : D} {R : Res} {h : List Gp} {E : XK} (ha : EvP c G ρ ta d) (m : May c G d (heldD h) R) (ok : HeldOk h) (h2 : ∀ g ∈ h, g.1.length ≤ 100 ∧ ∀ s ∈ g.2, SmallSp s) : EvN c G ρ (tCall (spD c.K pre_law_lines) [] E (tCons ta tNil)) (.lst ((h.map fun x => lineOf x.1 x.2).map D.str)) :=
  n_call (a_cons ha a_nil) m.2 ⟨d, h, rfl, m.1, ok, h2, rfl⟩ fun _ e => nomatch e
theorem ok_law_lines {P : Program} {w : World} {K : PySem.W.Frag} {mg : Str → Option Value} {base : Heap} (T : Top K mg) : FnOk P w K mg base CX0 1 T.a_law_lines T.f_law_lines ["_law_held"] (spD K pre_law_lines) := by
  refine fnOk T.F_law_lines sc_law_lines (fun ds R o q => by obtain ⟨d, h, rfl, _⟩ := q; rfl) fun ds R o q cdv A outer sh H E hr => ?_
  obtain ⟨d, h, rfl, hd, ok, h2, rfl⟩ := q
  refine ⟨_, (pss_cons (ps_set (i := 1) sc_law_lines.nd rfl (Or.inl rfl) (pe_lst pa_nil))
  (pss_cons (ps_for PassesOwn.never rfl (pi_list (pe_callTy (call_listD rfl) (by rfl) T.m_list PyProof.Rows.boot_list (pa_cons (pv 0) pa_nil))) (pg_name (i := 2) sc_law_lines.nd rfl (Or.inl rfl))
  (pss_one (ps_expr (pe_bm PySem.F.plainAttrs_list PySem.F.slot_list_append PySem.F.type_list_append mt_append (pv 1) (pa_cons (pe_op op_add_str (pe_op op_add_str (pv 2) pe_str) (pe_m1 PySem.F.slot_str_join PySem.F.type_str_join mt_join pe_str (by exact (pe_lc (own := [("_law_spot_here", 3)]) (g := (gName 3)) (tt := tYes) rfl sc_law_lines.nd (by exact (pi_list (pe_dget (hu_of hr) (pv 0) (pv 2) (fun _ _ => rfl)))) (blkOk_by (N := ["_law_held", "_law_lines_here", "_law_name", "_law_spot_here"]) (sc := defScope s_law_lines) (by decide +kernel)) (fun _ _ _ _ _ => by exact (pg_name (i := 3) sc_law_lines.nd rfl (Or.inl rfl))) (fun _ _ _ _ _ => by exact pts_nil) (fun _ _ _ _ _ => by exact (pe_op op_add_str (pe_op op_add_str (pe_callTy call_str_int (by rfl) T.m_str PyProof.Rows.boot_str (pa_cons (pe_ix (r := rIxT K) ix_tup (pv 3) pe_int (fun _ _ => rfl)) pa_nil)) pe_str) (pe_callTy call_str_int (by rfl) T.m_str PyProof.Rows.boot_str (pa_cons (pe_ix (r := rIxT K) ix_tup (pv 3) pe_int (fun _ _ => rfl)) pa_nil)))))))) pa_nil)))))
  (pss_one (ps_ret (pv 1))))), fun F Q post => ?_⟩
  walk_at "go"
  walk_at "own"
  intro p
  walk_at "nrm"
  refine sx_forU (us := h) (enc := fun g => D.str g.1) (gr := []) (fun i => [(p, .lst (((h.take i).map fun x => lineOf x.1 x.2).map D.str))]) (fun i => [some d, some (.ref p), none, none]) ?_ (fun x hx => nomatch hx) rfl ⟨rfl, rfl, trivial⟩ (fun i g hg S' hS => ?_) ?_
  · rw [← held_names]
    exact i_list (n_listK (l := heldL h) (s_arg (p_var rfl) hd fun _ h => h)).toP
  · have hgm := List.mem_of_getElem? hg
    have hv := held_val ok.nd hgm
    have hsl := ok.sl g hgm
    have hl := ok.len
    obtain ⟨hnl, hsm⟩ := h2 g hgm
    have e1 : h.take (i + 1) = h.take i ++ [g] := by rw [List.take_add_one, hg]; rfl
    have hlen : (((h.take i).map fun x => lineOf x.1 x.2).map D.str).length < 100000 := by
      rw [List.length_map, List.length_map, List.length_take]
      omega
    have hc : (": " : Str).length = 2 := by decide +kernel
    have hsp : (" " : Str).length = 1 := by decide +kernel
    have hdt : ("." : Str).length = 1 := by decide +kernel
    have hw : ((g.2.map wordOf).map (·.length)).sum ≤ 5 * g.2.length := by
      generalize g.2 = l at hsm
      clear post hv hsl
      induction l with
      | nil => simp
      | cons s l ih =>
        have a := word_len (hsm s List.mem_cons_self)
        have b := ih fun x hx => hsm x (List.mem_cons_of_mem _ hx)
        rw [List.map_cons, List.map_cons, List.sum_cons, List.length_cons]
        omega
    have hj := join_len (" " : Str) (g.2.map wordOf)
    rw [hsp, List.length_map] at hj
    walk_at "nrm"
    walk_at "last"
    apply sx_app 0 (d := .str (lineOf g.1 g.2))
    · walk_at "pv"
    · exact rfl
    · refine p_cat (p_cat (p_var rfl) p_str (by omega)) (p_joinF (us := g.2) (g := wordOf) (s := (" " : Str)) p_str ?_ ?_) ?_
      · apply EvP.toS
        apply EvN.toP
        apply n_map (g := []) (us := g.2) (enc := encSpot) (f := fun u => D.str (wordOf u))
        · exact i_list (p_getK (l := heldL h) (s_arg (p_var rfl) hd hS) (p_var rfl) hv)
        · exact fun x hx => nomatch hx
        · intro u hu
          exact g_name
        · decide
        · intro u hu
          have hs := hsm u hu
          have a1 := tS_len hs.1 hs.2.1
          have a2 := tS_len hs.2.2.1 hs.2.2.2
          refine EvP.is (p_cat (p_cat (p_strI (p_ixT (ds := [.int u.1, .int u.2]) (p_var rfl) p_int at_0) a1.2) p_str ?_) (p_strI (p_ixT (ds := [.int u.1, .int u.2]) (p_var rfl) p_int at_1) a2.2) ?_) ?_
          · show (tS u.1).length + _ ≤ _
            omega
          · show (tS u.1 ++ ("." : Str)).length + (tS u.2).length ≤ _
            rw [cat_len]
            omega
          · rw [word_eq]
            rfl
        · omega
      · rw [hsp, List.length_map]
        omega
      · rw [cat_len]
        omega
    · exact hlen
    walk_at "nrm"
    walk_at "end"
    · rw [e1, List.map_append, List.map_append]
      rfl
    · walk_at "le"
  · rw [List.take_length]
    exact sx_retG (p_var rfl) List.mem_cons_self post
local macro_rules | `(tactic| walk_at "pv") => `(tactic| ((with_reducible apply n_law_lines) <;> (try walk_at "pv")))

/-! ### the law's own runs -/
theorem hallRs_shown {rows : List Str} {td : TD} {i : Nat} {s : Str} (h : rows[i]? = some s) : hallRs (shown 0 td (rows.take (i + 1)) 46) = hallRs (shown 0 td (rows.take i) 46) ++ (blocksRow (shownS td (i : Int) s 46)).map (bRun (i : Int)) := by
  have hil := (List.getElem?_eq_some_iff.mp h).1
  have e : rows.take (i + 1) = rows.take i ++ [s] := by rw [List.take_add_one, h]; rfl
  have e2 : (rows.take i).length = i := by rw [List.length_take]; omega
  rw [e, shown_snoc, hallRs_snoc, shown_len, e2, Nat.zero_add]
theorem hallRs_le {rows : List Str} {n : Nat} (h : ∀ s ∈ rows, s.length ≤ n) : (hallRs rows).length ≤ n * rows.length := by
  unfold hallRs
  rw [List.length_map]
  exact hallTs_len rows 0 fun s hs => Nat.le_trans (runs_count (blocksRow_ok s)) (h s hs)
theorem scan_len (f : Nat → Bool) (i : Nat) : (scanP f i).1.length ≤ i := by
  have k := scanP_ok f i
  have h1 : (scanP f i).1.length ≤ ((scanP f i).1.map (·.2)).sum := by
    have hk := k.ok
    generalize (scanP f i).1 = l at hk
    induction l with
    | nil => simp
    | cons b r ih =>
      have := (hk b (by simp)).1
      have h2 := ih fun c hc => hk c (by simp [hc])
      simp
      omega
  have h2 := k.sum
  have h3 := List.length_filter_le f (List.range i)
  rw [List.length_range] at h3
  omega
def pre_law_runs : Pre := fun ds R o => ∃ (rows : List Str) (td : TD), ds = [.lst (rows.map D.str), tdD td] ∧ R = [] ∧ rows.length ≤ 100 ∧ Short rows ∧ o = .new (.lst ((freeRs rows td).map encRun))
theorem n_law_runs {c : Ct} {G : Res} {ρ : En} {ta tb : TE} {rows : List Str} {td : TD} {E : XK} (ha : EvP c G ρ ta (.lst (rows.map D.str))) (hb : EvP c G ρ tb (tdD td)) (hl : rows.length ≤ 100) (hs : Short rows) :
    EvN c G ρ (tCall (spD c.K pre_law_runs) [] E (tCons ta (tCons tb tNil))) (.lst ((freeRs rows td).map encRun)) :=
  n_call (a_cons ha (a_cons hb a_nil)) (R := []) (fun x hx => nomatch hx) ⟨rows, td, rfl, rfl, hl, hs, rfl⟩ fun _ e => nomatch e
theorem ok_law_runs {P : Program} {w : World} {K : PySem.W.Frag} {mg : Str → Option Value} {base : Heap} (T : Top K mg) : FnOk P w K mg base CX0 1 T.a_law_runs T.f_law_runs ["_law_rows", "_law_taken"] (spD K pre_law_runs) := by
  refine fnOk T.F_law_runs sc_law_runs (fun ds R o h => by obtain ⟨rows, td, rfl, _⟩ := h; rfl) fun ds R o h cdv A outer sh H E hr => ?_
  obtain ⟨rows, td, rfl, rfl, hn, hsh, rfl⟩ := h
  refine ⟨_, (pss_cons (ps_set (i := 2) sc_law_runs.nd rfl (Or.inl rfl) (pe_lst pa_nil))
  (pss_cons (ps_for PassesOwn.never rfl (pi_range1 (by rfl) T.m_range (pa_cons (pe_callB call_len_seq (by rfl) T.m_len PySem.boot_len (pa_cons (pv 0) pa_nil)) pa_nil)) (pg_name (i := 3) sc_law_runs.nd rfl (Or.inl rfl))
  (pss_cons (ps_set (i := 4) sc_law_runs.nd rfl (Or.inl rfl) pe_int)
  (pss_one (ps_for PassesOwn.never rfl (pi_range1 (by rfl) T.m_range (pa_cons (pe_op op_add (pe_callB call_len_str (by rfl) T.m_len PySem.boot_len (pa_cons (pe_ix ix_list (pv 0) (pv 3) (fun _ _ => rfl)) pa_nil)) pe_int) pa_nil)) (pg_name (i := 5) sc_law_runs.nd rfl (Or.inl rfl))
  (pss_one (ps_if (PW.pt (pw_and (pt_cmpR op_lt (pv 5) (pe_callB call_len_str (by rfl) T.m_len PySem.boot_len (pa_cons (pe_ix ix_list (pv 0) (pv 3) (fun _ _ => rfl)) pa_nil)) (nomark _)) (pw_and (pt_cmpR op_eq (pe_ix ix_str (pe_ix ix_list (pv 0) (pv 3) (fun _ _ => rfl)) (pv 5) (fun _ _ => rfl)) pe_str (nomark _)) (pw_and1 (pt_cmp (pc_dnotin (hu_of hr) (pe_tup (pa_cons (pv 3) (pa_cons (pv 5) pa_nil))) (pv 1)))))))
  (pss_one (ps_set (i := 4) sc_law_runs.nd rfl (Or.inl rfl) (pe_op op_add (pv 4) pe_int)))
  (pss_cons (ps_if (pt_cmpR op_gt (pv 4) pe_int (nomark _))
  (pss_one (ps_expr (pe_bm PySem.F.plainAttrs_list PySem.F.slot_list_append PySem.F.type_list_append mt_append (pv 2) (pa_cons (pe_tup (pa_cons (pv 3) (pa_cons (pe_op op_sub (pv 5) (pv 4)) (pa_cons (pv 4) pa_nil)))) pa_nil))))
  pss_nil)
  (pss_one (ps_set (i := 4) sc_law_runs.nd rfl (Or.inl rfl) pe_int)))))))))
  (pss_one (ps_ret (pv 2))))), fun F Q post => ?_⟩
  walk_at "go"
  walk_at "own"
  intro p
  walk_at "nrm"
  refine sx_forR (lo := 0) (n := rows.length) (fun i => [(p, .lst ((hallRs (shown 0 td (rows.take i) 46)).map encRun))]) (fun i => [some (.lst (rows.map D.str)), some (tdD td), some (.ref p), none, none, none]) ?_ rfl ⟨rfl, rfl, rfl, trivial⟩ (fun i hi S' hS => ?_) ?_
  · have e2 : rows.length = ((rows.map D.str).length : Int).toNat := by simp
    rw [e2]
    apply i_range1 <;> walk_at "pv"
  · obtain ⟨s, hs⟩ : ∃ s, rows[i]? = some s := ⟨_, List.getElem?_eq_getElem hi⟩
    have hsz := hsh.at hs
    have hsz2 : s.length ≤ 100 := hsh s (List.mem_of_getElem? hs)
    have hat : atI (rows.map D.str) (i : Int) = some (.str s) := at_m (f := D.str) (by omega) (by simpa using hs)
    have hrl := hallRs_le (n := 100) (shown_short td 46 (rows.take i) 0 fun x hx => hsh x (List.mem_of_mem_take hx))
    rw [shown_len, List.length_take] at hrl
    rw [hallRs_shown hs, Int.zero_add]
    have eb : blocksRow (shownS td (i : Int) s 46) = (scanP (seatP (shownS td (i : Int) s 46)) (s.length + 1)).1 := by
      unfold blocksRow runsP
      rw [shownS_len]
    rw [eb]
    have hend : seatP (shownS td (i : Int) s 46) s.length = false := by
      have := seatP_end (shownS td (i : Int) s 46)
      rwa [shownS_len] at this
    have hf : ∀ j, seatP (shownS td (i : Int) s 46) j = (seatP s j && !tkn td (i : Int) (j : Int)) := fun j => shown_seat
    generalize seatP (shownS td (i : Int) s 46) = f at hend hf
    generalize hallRs (shown 0 td (rows.take i) 46) = acc at hrl
    walk_at "nrm"
    walk_at "asg"
    walk_at "last"
    refine sx_forR (lo := 0) (n := s.length + 1) (fun j => [(p, .lst ((acc ++ (scanP f j).1.map (bRun (i : Int))).map encRun))]) (fun j => [some (.lst (rows.map D.str)), some (tdD td), some (.ref p), some (.int (i : Int)), some (.int ((scanP f j).2 : Int)), none]) ?_ ?_ ?_ (fun j hj S'' hS2 => ?_) ?_
    · have e2 : s.length + 1 = ((s.length : Int) + 1).toNat := by omega
      rw [e2]
      apply i_range1 <;> walk_at "pv"
    · simp [scanP]
    · exact ⟨rfl, rfl, rfl, rfl, rfl, trivial⟩
    · have hsl := scan_len f j
      have hm := (scanP_ok f j).le
      rw [Int.zero_add]
      walk_at "nrm"
      have ht : EvT (Ct.wS (Ct.wS ⟨K, H, F, []⟩ S') S'') [(p, .lst ((acc ++ (scanP f j).1.map (bRun (i : Int))).map encRun))] [some (.lst (rows.map D.str)), some (tdD td), some (.ref p), some (.int (i : Int)), some (.int ((scanP f j).2 : Int)), some (.int (j : Int))] (tAnd (tTest (tOp (rI0 fun i j => .bl (decide (i < j))) (tVar 5) (tCB (fun xs H Q => ∃ z, xs = [.str z] ∧ z.length ≤ sizeLine ∧ Q (.int z.length) H) (tCons (tOp (rIxL K) (tVar 0) (tVar 3)) tNil)))) (tAnd (tTest (tOp rEq (tOp rIxS (tOp (rIxL K) (tVar 0) (tVar 3)) (tVar 5)) (tC (.str "o")))) (tTest (tDNotIn (tTup (tCons (tVar 3) (tCons (tVar 5) tNil))) (tVar 1))))) (f j) := by
        by_cases hjl : j < s.length
        · obtain ⟨c, hc⟩ : ∃ c, s.cps.toList[j]? = some c := ⟨_, List.getElem?_eq_getElem (by rw [cps_len]; exact hjl)⟩
          have hat2 : atI s.cps.toList (j : Int) = some c := at_sign (by omega) (by simpa using hc)
          have hseat : seatP s j = decide (c = 111) := by
            unfold seatP
            have : s.cps[j]? = some c := by rw [← hc]; simp
            rw [this]
            by_cases q : c = 111 <;> simp [q]
          refine EvT.is (t_and (a := decide ((j : Int) < (s.length : Int))) (b := decide ((⟨#[c]⟩ : Str) = ("o" : Str)) && !(valA td ((i : Int), (j : Int))).isSome) ?_ fun _ => t_and ?_ fun _ => ?_) ?_
          · walk_at "pv"
          · walk_at "pv"
          · walk_at "pv"
          · rw [sign_o, ← hseat, hf]
            have : decide ((j : Int) < (s.length : Int)) = true := decide_eq_true (by omega)
            rw [this]
            rfl
        · have ej : j = s.length := by omega
          refine EvT.is (t_and (a := decide ((j : Int) < (s.length : Int))) (b := true) ?_ fun q => ?_) ?_
          · walk_at "pv"
          · simp at q; omega
          · rw [ej, hend]
            simp
      apply sx_if1
      · exact ht
      · intro hb
        walk_at "last"
        walk_at "asg"
        walk_at "end"
        · rw [scanP_one hb]
        · rw [scanP_one hb]
          exact ⟨rfl, rfl, rfl, rfl, rfl, trivial⟩
      · intro hb
        have hb' : ¬ f j = true := by simp [hb]
        walk_at "when" <;> intro hq
        · have h0 : 0 < (scanP f j).2 := by simpa using hq
          walk_at "last"
          apply sx_app 0 (d := encRun ((i : Int), (j : Int) - ((scanP f j).2 : Int), ((scanP f j).2 : Int)))
          · walk_at "pv"
          · exact rfl
          · walk_at "pv"
          · rw [List.length_map, List.length_append, List.length_map]
            omega
          walk_at "nrm"
          walk_at "into"
          walk_at "last"
          walk_at "asg"
          walk_at "end"
          · rw [scanP_cut hb' h0]
            have e6 : (((j - (scanP f j).2 : Nat) : Int)) = (j : Int) - ((scanP f j).2 : Int) := by omega
            simp [bRun, e6, encRun]
          · rw [scanP_cut hb' h0]
            exact ⟨rfl, rfl, rfl, rfl, rfl, trivial⟩
        · have h0 : ¬ 0 < (scanP f j).2 := by simpa using hq
          have h00 : (scanP f j).2 = 0 := by omega
          walk_at "last"
          walk_at "asg"
          walk_at "end"
          · rw [scanP_stay hb' h0]
          · rw [scanP_stay hb' h0, h00]
            exact ⟨rfl, rfl, rfl, rfl, rfl, trivial⟩
    · walk_at "end"
      · rfl
      · walk_at "le"
  · rw [List.take_length]
    exact sx_retG (p_var rfl) List.mem_cons_self post
local macro_rules | `(tactic| walk_at "pv") => `(tactic| ((with_reducible apply n_law_runs) <;> (try walk_at "pv")))

/-! ### one leaves, told by the law -/
theorem doGs_one {h : List Gp} {j : Nat} (hj : j < h.length) : doGs h j 1 [] = h.eraseIdx j := by
  unfold doGs
  rw [List.append_nil, List.eraseIdx_eq_take_drop_succ]
theorem drop_held : ∀ {h : List Gp} {j : Nat} {g : Gp}, (namesOf h).Nodup → h[j]? = some g → dropA (heldL h) g.1 = heldL (h.eraseIdx j)
  | [], _, _, _, q => by simp at q
  | x :: h, 0, g, hn, q => by
    simp at q
    subst q
    unfold namesOf at hn
    rw [List.map_cons, List.nodup_cons] at hn
    show List.filter _ _ = heldL h
    unfold heldL
    rw [List.map_cons, List.filter_cons_of_neg (by simp), List.filter_eq_self]
    intro e he
    obtain ⟨y, hy, rfl⟩ := List.mem_map.mp he
    have : y.1 ≠ x.1 := fun z => hn.1 (List.mem_map.mpr ⟨y, hy, z⟩)
    simpa using this
  | x :: h, j + 1, g, hn, q => by
    have hg : h[j]? = some g := by simpa using q
    have hn' := hn
    unfold namesOf at hn
    rw [List.map_cons, List.nodup_cons] at hn
    have ih := drop_held (h := h) (j := j) hn.2 hg
    have hx : x.1 ≠ g.1 := fun z => hn.1 (List.mem_map.mpr ⟨g, List.mem_of_getElem? hg, z.symm⟩)
    unfold heldL dropA at ih ⊢
    rw [List.eraseIdx_cons_succ, List.map_cons, List.map_cons, List.filter_cons_of_pos (by simpa using hx), ih]
theorem pl_spots (l : List Spot) : Pl 2 (.lst (l.map encSpot)) := by
  intro d hd
  obtain ⟨s, _, rfl⟩ := List.mem_map.mp hd
  intro e he
  simp at he
  rcases he with rfl | rfl <;> trivial
theorem meth_leave : ("leave" : Str) ∉ planKs := by decide +kernel
theorem names_at {h : List Gp} (hn : (namesOf h).Nodup) {j : Nat} {g : Gp} (hg : h[j]? = some g) : (namesOf h)[j]? = some g.1 ∧ ∀ m, m < j → (namesOf h)[m]? ≠ some g.1 := by
  have h3 : (namesOf h)[j]? = some g.1 := by unfold namesOf; rw [List.getElem?_map, hg]; rfl
  refine ⟨h3, fun m hm q => ?_⟩
  have hjl := (List.getElem?_eq_some_iff.mp h3).1
  have hml : m < (namesOf h).length := by omega
  have := (List.getElem?_inj hml hn).mp (q.trans h3.symm)
  omega
theorem m_Plan_leave {c : Ct} {G G' A0 B0 : Res} {ρ : En} {ta tb : TE} {C : Addr} {rows : List Str} {g d : Addr} {h : List Gp} {dds : List D} {j : Nat} {gp : Gp} {E : XK} (hG : G = A0 ++ ([(g, .lst (h.map encGp)), (d, .lst dds)] ++ B0)) (hG' : G' = A0 ++ ([(g, .lst ((h.eraseIdx j).map encGp)), (d, .lst (dds ++ [encDeed j [gp] []]))] ++ B0))
    (ha : EvP c G ρ ta (planD C rows g d)) (hb : EvP c G ρ tb (.str gp.1)) (h1 : h.length ≤ 5000) (h2 : dds.length ≤ 5000) (h3 : GoodName gp.1) (hn : (namesOf h).Nodup) (hg : h[j]? = some gp) : EvM c G ρ (tMeth C "leave" (spM c.K (pre_Plan_leave C)) [] E ta (tCons tb tNil)) (.lst (gp.2.map encSpot)) G' := by
  have hj := (List.getElem?_eq_some_iff.mp hg).1
  rw [← doGs_one hj] at hG'
  exact m_meth (M := [(g, .lst (h.map encGp)), (d, .lst dds)]) hG hG' ha meth_leave (a_cons hb a_nil) (R := []) (fun x hx => nomatch hx) ⟨rows, g, d, h, dds, gp.1, j, gp, rfl, rfl, rfl, h1, h2, h3, (names_at hn hg).1, (names_at hn hg).2, hg, rfl⟩
def leftIx (h : List Gp) (n : Int) : Nat := (n / 8 % (h.length : Int)).toNat
def wayLeft (h : List Gp) (dds : List D) (n : Int) (g d hd : Addr) : Way := match h[leftIx h n]? with
  | none => Det (.ret (.bl true)) [(g, .lst (h.map encGp)), (d, .lst dds), (hd, heldD h)]
  | some gp => Det (.ret (.bl true)) [(g, .lst ((h.eraseIdx (leftIx h n)).map encGp)), (d, .lst (dds ++ [encDeed (leftIx h n) [gp] []])), (hd, heldD (h.eraseIdx (leftIx h n)))]
def pre_law_left (C : Addr) : PreM := fun ds R M W => ∃ (rows : List Str) (g d hd : Addr) (h : List Gp) (dds : List D) (n : Int), ds = [planD C rows g d, .ref hd, .int n] ∧ R = [] ∧ M = [(g, .lst (h.map encGp)), (d, .lst dds), (hd, heldD h)] ∧ HeldOk h ∧ (∀ x ∈ h, GoodName x.1) ∧ dds.length ≤ 5000 ∧ 0 ≤ n ∧ W = wayLeft h dds n g d hd
/-! ### up to twelve names, all unlike -/
def sgA (m : Int) : Nat := nameSigns.getD (m % 37).toNat 0
def wdC (n : Int) : List Nat := (List.range 12).map fun (j : Nat) => sgA (n / 36 + 5 * (j : Int))
def nmC (n : Int) (k : Nat) : List Nat :=
  if n % 3 = 0 then (wdC n).take (1 + (n / 3 + (k : Int)) % 12).toNat
  else if n % 3 = 1 then (wdC n).take (n / 36 % (1 + n / 3 % 12)).toNat ++ [sgA (n / 444 + (k : Int))] ++ ((wdC n).take (1 + n / 3 % 12).toNat).drop (n / 36 % (1 + n / 3 % 12) + 1).toNat
  else (wdC n).drop k ++ (wdC n).take k
def nmB (n : Int) (k : Nat) : Str := sOf (nmC n k)
def namesBy (n : Int) (m : Nat) : List Str := (List.range m).map (nmB n)
theorem signs_len : nameSigns.length = 37 := by decide +kernel
theorem signs_nd : nameSigns.Nodup := by decide +kernel
theorem sgA_at (m : Int) : nameSigns[(m % 37).toNat]? = some (sgA m) := by
  have : (m % 37).toNat < nameSigns.length := by rw [signs_len]; omega
  unfold sgA
  rw [List.getD_eq_getElem?_getD, List.getElem?_eq_getElem this]
  rfl
theorem sgA_mem (m : Int) : sgA m ∈ nameSigns := List.mem_of_getElem? (sgA_at m)
theorem sgA_inj {m m' : Int} (e : sgA m = sgA m') : m % 37 = m' % 37 := by
  have a := sgA_at m
  have b := sgA_at m'
  rw [← e, ← a] at b
  have hlt : (m' % 37).toNat < nameSigns.length := by rw [signs_len]; omega
  have := (List.getElem?_inj hlt signs_nd).mp b
  omega
theorem wdC_len (n : Int) : (wdC n).length = 12 := by unfold wdC; simp
theorem wdC_mem {n : Int} : ∀ c ∈ wdC n, c ∈ nameSigns := by
  intro c hc
  obtain ⟨j, _, rfl⟩ := List.mem_map.mp hc
  exact sgA_mem _
theorem wdC_at (n : Int) {j : Nat} (hj : j < 12) : (wdC n)[j]? = some (sgA (n / 36 + 5 * (j : Int))) := by
  unfold wdC
  rw [List.getElem?_map, List.getElem?_range hj]
  rfl
theorem size_bd (n : Int) : 1 ≤ 1 + n / 3 % 12 ∧ 1 + n / 3 % 12 ≤ 12 ∧ 0 ≤ n / 36 % (1 + n / 3 % 12) ∧ n / 36 % (1 + n / 3 % 12) < 1 + n / 3 % 12 := by
  have h1 : 1 ≤ 1 + n / 3 % 12 ∧ 1 + n / 3 % 12 ≤ 12 := by omega
  refine ⟨h1.1, h1.2, Int.emod_nonneg _ (by omega), Int.emod_lt_of_pos _ (by omega)⟩
theorem nmC_len0 {n : Int} {k : Nat} (h : n % 3 = 0) : (nmC n k).length = (1 + (n / 3 + (k : Int)) % 12).toNat := by
  unfold nmC
  rw [if_pos h, List.length_take, wdC_len]
  omega
theorem nmC_good {n : Int} {k : Nat} (hk : k < 12) : 1 ≤ (nmC n k).length ∧ (nmC n k).length ≤ 12 ∧ ∀ c ∈ nmC n k, c ∈ nameSigns := by
  by_cases h0 : n % 3 = 0
  · rw [nmC_len0 h0]
    refine ⟨by omega, by omega, fun c hc => ?_⟩
    unfold nmC at hc
    rw [if_pos h0] at hc
    exact wdC_mem c (List.mem_of_mem_take hc)
  · by_cases h1 : n % 3 = 1
    · obtain ⟨b1, b2, b3, b4⟩ := size_bd n
      unfold nmC
      rw [if_neg h0, if_pos h1]
      generalize 1 + n / 3 % 12 = size at b1 b2 b3 b4
      generalize n / 36 % size = at_ at b3 b4
      refine ⟨?_, ?_, fun c hc => ?_⟩
      · rw [List.length_append, List.length_append, List.length_singleton]; omega
      · rw [List.length_append, List.length_append, List.length_singleton, List.length_take, List.length_drop, List.length_take, wdC_len]; omega
      · rcases List.mem_append.mp hc with hc | hc
        · rcases List.mem_append.mp hc with hc | hc
          · exact wdC_mem c (List.mem_of_mem_take hc)
          · rw [List.mem_singleton] at hc
            subst hc
            exact sgA_mem _
        · exact wdC_mem c (List.mem_of_mem_take (List.mem_of_mem_drop hc))
    · unfold nmC
      rw [if_neg h0, if_neg h1]
      refine ⟨?_, ?_, fun c hc => ?_⟩
      · rw [List.length_append, List.length_drop, List.length_take, wdC_len]; omega
      · rw [List.length_append, List.length_drop, List.length_take, wdC_len]; omega
      · rcases List.mem_append.mp hc with hc | hc
        · exact wdC_mem c (List.mem_of_mem_drop hc)
        · exact wdC_mem c (List.mem_of_mem_take hc)
theorem nmC_inj {n : Int} {j k : Nat} (hj : j < 12) (hk : k < 12) (e : nmC n j = nmC n k) : j = k := by
  by_cases h0 : n % 3 = 0
  · have := congrArg List.length e
    rw [nmC_len0 h0, nmC_len0 h0] at this
    omega
  · by_cases h1 : n % 3 = 1
    · unfold nmC at e
      rw [if_neg h0, if_pos h1, if_neg h0, if_pos h1, List.append_assoc, List.append_assoc, List.append_cancel_left_eq] at e
      have e2 := (List.cons.inj e).1
      have := sgA_inj e2
      omega
    · unfold nmC at e
      rw [if_neg h0, if_neg h1, if_neg h0, if_neg h1] at e
      have hd : ∀ m : Nat, m < 12 → ((wdC n).drop m ++ (wdC n).take m)[0]? = some (sgA (n / 36 + 5 * (m : Int))) := by
        intro m hm
        rw [List.getElem?_append_left (by rw [List.length_drop, wdC_len]; omega), List.getElem?_drop, Nat.add_zero, wdC_at n (by omega)]
      have a := hd j hj
      rw [e, hd k hk] at a
      have := sgA_inj (Option.some.inj a)
      omega
theorem namesBy_len (n : Int) (m : Nat) : (namesBy n m).length = m := by unfold namesBy; simp
theorem namesBy_good (n : Int) {m : Nat} (hm : m ≤ 12) : ∀ s ∈ namesBy n m, GoodName s := by
  intro s hs
  obtain ⟨k, hk, rfl⟩ := List.mem_map.mp hs
  obtain ⟨h1, h2, h3⟩ := nmC_good (n := n) (Nat.lt_of_lt_of_le (List.mem_range.mp hk) hm)
  refine ⟨?_, ?_, ?_⟩
  · rw [nmB, sOf_len]; exact h1
  · rw [nmB, sOf_len]; exact h2
  · rw [nmB, sOf_cps]; exact h3
theorem namesBy_nd (n : Int) {m : Nat} (hm : m ≤ 12) : (namesBy n m).Nodup := by
  unfold namesBy
  refine nodup_map_on List.nodup_range fun x hx y hy e => ?_
  exact nmC_inj (Nat.lt_of_lt_of_le (List.mem_range.mp hx) hm) (Nat.lt_of_lt_of_le (List.mem_range.mp hy) hm) (sOf_inj.mp e)
theorem cut_take {α : Type} {f : α → D} {l : List α} {a : Int} (h0 : 0 ≤ a) (h1 : a ≤ (l.length : Int)) : Dl.cutD (l.map f) none (some a) = (l.take a.toNat).map f := by
  unfold Dl.cutD
  rw [List.length_map]
  have e2 : HT.sIx l.length l.length (some a) = a.toNat := by
    show (if a < 0 then _ else min a.toNat l.length) = a.toNat
    rw [if_neg (by omega)]
    omega
  have e1 : HT.sIx l.length 0 none = 0 := rfl
  rw [e1, e2, List.drop_zero, Nat.sub_zero, List.map_take]
theorem cut_drop {α : Type} {f : α → D} {l : List α} {a : Int} (h0 : 0 ≤ a) (h1 : a ≤ (l.length : Int)) : Dl.cutD (l.map f) (some a) none = (l.drop a.toNat).map f := by
  unfold Dl.cutD
  rw [List.length_map]
  have e2 : HT.sIx l.length 0 (some a) = a.toNat := by
    show (if a < 0 then _ else min a.toNat l.length) = a.toNat
    rw [if_neg (by omega)]
    omega
  have e1 : HT.sIx l.length l.length none = l.length := rfl
  rw [e1, e2, List.map_drop, List.take_of_length_le (by rw [List.length_drop, List.length_map]; omega)]
theorem cut_mid {α : Type} {f : α → D} {l : List α} {a b : Int} (h0 : 0 ≤ a) (h1 : a ≤ b) (h2 : b ≤ (l.length : Int)) : Dl.cutD (l.map f) (some a) (some b) = ((l.take b.toNat).drop a.toNat).map f := by
  unfold Dl.cutD
  rw [List.length_map]
  have e1 : HT.sIx l.length 0 (some a) = a.toNat := by
    show (if a < 0 then _ else min a.toNat l.length) = a.toNat
    rw [if_neg (by omega)]
    omega
  have e2 : HT.sIx l.length l.length (some b) = b.toNat := by
    show (if b < 0 then _ else min b.toNat l.length) = b.toNat
    rw [if_neg (by omega)]
    omega
  rw [e1, e2, List.map_drop, List.map_take, List.drop_take]
theorem p_joinC {c : Ct} {G : Res} {ρ : En} {tb : TE} {l : List Nat} (hx : EvS c G ρ tb (.lst (l.map fun k => D.str ⟨#[k]⟩))) (hz : l.length ≤ 50000) :
    EvP c G ρ (tM1 (rJoinQ c.K) (tC (.str "")) tb) (.str (sOf l)) := by
  have hs : ((l.map fun k => (⟨#[k]⟩ : Str)).map (·.length)).sum = l.length := by
    clear hx hz
    induction l with
    | nil => rfl
    | cons x l ih =>
      rw [List.map_cons, List.map_cons, List.sum_cons, ih, List.length_cons]
      show 1 + l.length = _
      omega
  have := p_joinF (us := l) (g := fun k => (⟨#[k]⟩ : Str)) (s := ("" : Str)) p_str hx (by rw [hs, List.length_map]; show _ + _ * 0 ≤ _; omega)
  rwa [join_signs] at this
def pre_law_names : Pre := fun ds R o => ∃ (n : Int) (m : Nat), ds = [.int n, .int (m : Nat)] ∧ R = [] ∧ m ≤ 12 ∧ o = .new (.lst ((namesBy n m).map D.str))
theorem n_law_names {c : Ct} {G : Res} {ρ : En} {ta tb : TE} {n : Int} {m : Nat} {E : XK} (ha : EvP c G ρ ta (.int n)) (hb : EvP c G ρ tb (.int (m : Nat))) (hm : m ≤ 12) : EvN c G ρ (tCall (spD c.K pre_law_names) [] E (tCons ta (tCons tb tNil))) (.lst ((namesBy n m).map D.str)) :=
  n_call (a_cons ha (a_cons hb a_nil)) (R := []) (fun x hx => nomatch hx) ⟨n, m, rfl, rfl, hm, rfl⟩ fun _ e => nomatch e
theorem ok_law_names_by {P : Program} {w : World} {K : PySem.W.Frag} {mg : Str → Option Value} {base : Heap} (T : Top K mg) : FnOk P w K mg base CX0 1 T.a_law_names_by T.f_law_names_by ["_law_n", "_law_many"] (spD K pre_law_names) := by
  refine fnOk T.F_law_names_by sc_law_names_by (fun ds R o h => by obtain ⟨n, m, rfl, _⟩ := h; rfl) fun ds R o h cdv A outer s H E hr => ?_
  obtain ⟨n, m, rfl, rfl, hm, rfl⟩ := h
  refine ⟨_, (pss_cons (ps_set (i := 2) sc_law_names_by.nd rfl (Or.inr rfl) pe_str)
  (pss_cons (ps_set (i := 3) sc_law_names_by.nd rfl (Or.inl rfl) (pe_op op_add pe_int (pe_op op_mod (pe_op op_fdiv (pv 0) pe_int) pe_int)))
  (pss_cons (ps_set (i := 4) sc_law_names_by.nd rfl (Or.inl rfl) (pe_op op_mod (pe_op op_fdiv (pv 0) pe_int) (pv 3)))
  (pss_cons (by exact (ps_setLc (i := 5) (own := [("_law_j", 10)]) (g := (gName 10)) (tt := tYes) rfl sc_law_names_by.nd rfl rfl (sw_true rfl rfl rfl (by decide +kernel)) (by exact (pi_range1 (by rfl) T.m_range (pa_cons pe_int pa_nil))) (blkOk_by (N := ["_law_n", "_law_many", "_law_some", "_law_size", "_law_at", "_law_word", "_law_names", "_law_k", "_law_sign", "_law_back", "_law_j"]) (sc := defScope s_law_names_by) (by decide +kernel)) (fun _ _ _ _ _ => by exact (pg_name (i := 10) sc_law_names_by.nd rfl (Or.inl rfl))) (fun _ _ _ _ _ => by exact pts_nil) (fun _ _ _ _ _ => by exact (pe_ix ix_str (pv 2) (pe_op op_mod (pe_op op_add (pe_op op_fdiv (pv 0) pe_int) (pe_op op_mul pe_int (pv 10))) pe_int) (fun _ _ => rfl)))))
  (pss_cons (ps_set (i := 6) sc_law_names_by.nd rfl (Or.inl rfl) (pe_lst pa_nil))
  (pss_cons (ps_for PassesOwn.never rfl (pi_range1 (by rfl) T.m_range (pa_cons (pv 1) pa_nil)) (pg_name (i := 7) sc_law_names_by.nd rfl (Or.inl rfl))
  (pss_one (ps_if (pt_cmpR op_eq (pe_op op_mod (pv 0) pe_int) pe_int (nomark _))
  (pss_one (ps_expr (pe_bm PySem.F.plainAttrs_list PySem.F.slot_list_append PySem.F.type_list_append mt_append (pv 6) (pa_cons (pe_m1 PySem.F.slot_str_join PySem.F.type_str_join mt_join pe_str (pe_slice sl_list (pv 5) po_none (po_some (pe_op op_add pe_int (pe_op op_mod (pe_op op_add (pe_op op_fdiv (pv 0) pe_int) (pv 7)) pe_int))))) pa_nil))))
  (pss_one (ps_if (pt_cmpR op_eq (pe_op op_mod (pv 0) pe_int) pe_int (nomark _))
  (pss_cons (ps_set (i := 8) sc_law_names_by.nd rfl (Or.inl rfl) (pe_ix ix_str (pv 2) (pe_op op_mod (pe_op op_add (pe_op op_fdiv (pv 0) pe_int) (pv 7)) pe_int) (fun _ _ => rfl)))
  (pss_cons (ps_set (i := 9) sc_law_names_by.nd rfl (Or.inl rfl) (pe_m1 PySem.F.slot_str_join PySem.F.type_str_join mt_join pe_str (pe_slice sl_list (pv 5) (po_some (pe_op op_add (pv 4) pe_int)) (po_some (pv 3)))))
  (pss_one (ps_expr (pe_bm PySem.F.plainAttrs_list PySem.F.slot_list_append PySem.F.type_list_append mt_append (pv 6) (pa_cons (pe_op op_add_str (pe_op op_add_str (pe_m1 PySem.F.slot_str_join PySem.F.type_str_join mt_join pe_str (pe_slice sl_list (pv 5) po_none (po_some (pv 4)))) (pv 8)) (pv 9)) pa_nil))))))
  (pss_one (ps_expr (pe_bm PySem.F.plainAttrs_list PySem.F.slot_list_append PySem.F.type_list_append mt_append (pv 6) (pa_cons (pe_m1 PySem.F.slot_str_join PySem.F.type_str_join mt_join pe_str (pe_op op_cat (pe_slice sl_list (pv 5) (po_some (pv 7)) po_none) (pe_slice sl_list (pv 5) po_none (po_some (pv 7))))) pa_nil)))))))))
  (pss_one (ps_ret (pv 6))))))))), fun F Q post => ?_⟩
  obtain ⟨b1, b2, b3, b4⟩ := size_bd n
  have hsl : ("abcdefghijklmnopqrstuvwxyz0123456789-" : Str).length = 37 := by decide +kernel
  have hsg : ∀ m : Int, atI ("abcdefghijklmnopqrstuvwxyz0123456789-" : Str).cps.toList (m % 37) = some (sgA m) := fun m => at_n (by omega) (sgA_at m)
  have hS0 : ∀ s : Str, (sOf ([] : List Nat)).length = 0 := fun _ => rfl
  walk_at "go"
  walk_at "asg"
  walk_at "asg"
  apply sx_asg (d := .int (n / 36 % (1 + n / 3 % 12)))
  · walk_at "pv"
  walk_at "nrm"
  apply sx_asg (d := .lst ((wdC n).map fun k => D.str ⟨#[k]⟩))
  · unfold wdC
    rw [List.map_map]
    apply EvN.toP
    apply n_map (g := []) (us := List.range 12) (enc := fun (j : Nat) => D.int (j : Int)) (f := fun (j : Nat) => D.str ⟨#[sgA (n / 36 + 5 * (j : Int))]⟩)
    · exact i_range1m (n := 12) (a_cons p_int a_nil) (by decide)
    · exact fun x hx => nomatch hx
    · intro u hu
      exact g_name
    · decide
    · intro u hu
      refine p_ixS (i := (n / 36 + 5 * (u : Int)) % 37) (p_var rfl) ?_ (by rw [hsl]; decide) (hsg _)
      walk_at "pv"
    · rw [List.length_range]; decide
  walk_at "nrm"
  walk_at "own"
  intro p
  walk_at "nrm"
  refine sx_forR (lo := 0) (n := m) (fun i => [(p, .lst (((List.range i).map (nmB n)).map D.str))]) (fun i => [some (.int n), some (.int (m : Nat)), some (.str "abcdefghijklmnopqrstuvwxyz0123456789-"), some (.int (1 + n / 3 % 12)), some (.int (n / 36 % (1 + n / 3 % 12))), some (.lst ((wdC n).map fun k => D.str ⟨#[k]⟩)), some (.ref p), none, none, none, none]) ?_ rfl ⟨rfl, rfl, rfl, rfl, rfl, rfl, rfl, trivial⟩ (fun i hi S' hS => ?_) ?_
  · have e0 : m = ((m : Nat) : Int).toNat := by simp
    conv => arg 5; rw [e0]
    exact i_range1 (a_cons (p_var rfl) a_nil) (by omega)
  · have hw := wdC_len n
    have hz : (((List.range i).map (nmB n)).map D.str).length < 100000 := by
      rw [List.length_map, List.length_map, List.length_range]
      omega
    rw [List.range_succ, List.map_append, List.map_append, Int.zero_add]
    have hnb : nmB n i = sOf (nmC n i) := rfl
    have hi12 : i < 12 := by omega
    have hok := (nmC_good (n := n) hi12).2.1
    walk_at "nrm"
    apply sx_if1 (b := decide (n % 3 = 0))
    · walk_at "pv"
    · intro hb
      have hb' : n % 3 = 0 := by simpa using hb
      have e : nmC n i = (wdC n).take (1 + (n / 3 + (i : Int)) % 12).toNat := by unfold nmC; rw [if_pos hb']
      walk_at "last"
      apply sx_app 0 (d := .str (nmB n i))
      · walk_at "pv"
      · exact rfl
      · rw [hnb, e]
        refine p_joinC ?_ (by rw [List.length_take]; omega)
        rw [← cut_take (by omega) (by rw [hw]; omega)]
        apply EvP.toS
        apply EvN.toP
        refine n_slL (EvP.toS (p_var rfl)) o_none (o_some ?_)
        walk_at "pv"
      · exact hz
      walk_at "nrm"
      walk_at "end"
      · rfl
      · exact ⟨rfl, rfl, rfl, rfl, rfl, rfl, rfl, trivial⟩
    · intro hb
      have h0 : ¬ n % 3 = 0 := by simpa using hb
      apply sx_if1 (b := decide (n % 3 = 1))
      · walk_at "pv"
      · intro hb2
        have h1 : n % 3 = 1 := by simpa using hb2
        have e : nmC n i = (wdC n).take (n / 36 % (1 + n / 3 % 12)).toNat ++ [sgA (n / 444 + (i : Int))] ++ ((wdC n).take (1 + n / 3 % 12).toNat).drop (n / 36 % (1 + n / 3 % 12) + 1).toNat := by
          unfold nmC
          rw [if_neg h0, if_pos h1]
        apply sx_asg (d := .str ⟨#[sgA (n / 444 + (i : Int))]⟩)
        · refine p_ixS (i := (n / 444 + (i : Int)) % 37) (p_var rfl) ?_ (by rw [hsl]; decide) (hsg _)
          walk_at "pv"
        walk_at "nrm"
        generalize 1 + n / 3 % 12 = size at b1 b2 b3 b4 e
        generalize n / 36 % size = at_ at b3 b4 e
        apply sx_asg (d := .str (sOf (((wdC n).take size.toNat).drop (at_ + 1).toNat)))
        · refine p_joinC ?_ (by rw [List.length_drop, List.length_take]; omega)
          rw [← cut_mid (by omega) (by omega) (by rw [hw]; omega)]
          apply EvP.toS
          apply EvN.toP
          refine n_slL (EvP.toS (p_var rfl)) (o_some ?_) (o_some (p_var rfl))
          walk_at "pv"
        walk_at "nrm"
        walk_at "last"
        apply sx_app 0 (d := .str (nmB n i))
        · walk_at "pv"
        · exact rfl
        · have hl3 := hok
          rw [e, List.length_append, List.length_append, List.length_singleton] at hl3
          rw [hnb, e, ← sOf_app, ← sOf_app]
          refine p_cat (p_cat (p_joinC ?_ (by rw [List.length_take]; omega)) (p_var rfl) ?_) (p_var rfl) ?_
          · rw [← cut_take (by omega) (by rw [hw]; omega)]
            apply EvP.toS
            apply EvN.toP
            exact n_slL (EvP.toS (p_var rfl)) o_none (o_some (p_var rfl))
          · rw [sOf_len]
            show _ + 1 ≤ _
            omega
          · rw [sOf_app, sOf_len, sOf_len, List.length_append, List.length_singleton]
            omega
        · exact hz
        walk_at "nrm"
        walk_at "end"
        · rfl
        · exact ⟨rfl, rfl, rfl, rfl, rfl, rfl, rfl, trivial⟩
      · intro hb2
        have h1 : ¬ n % 3 = 1 := by simpa using hb2
        have e : nmC n i = (wdC n).drop i ++ (wdC n).take i := by
          unfold nmC
          rw [if_neg h0, if_neg h1]
        walk_at "last"
        apply sx_app 0 (d := .str (nmB n i))
        · walk_at "pv"
        · exact rfl
        · rw [hnb, e]
          refine p_joinC ?_ (by rw [List.length_append, List.length_drop, List.length_take]; omega)
          rw [List.map_append]
          have e1 : ((wdC n).drop i).map (fun k => D.str ⟨#[k]⟩) = Dl.cutD ((wdC n).map fun k => D.str ⟨#[k]⟩) (some (i : Int)) none := (cut_drop (a := (i : Int)) (by omega) (by rw [hw]; omega)).symm
          have e2 : ((wdC n).take i).map (fun k => D.str ⟨#[k]⟩) = Dl.cutD ((wdC n).map fun k => D.str ⟨#[k]⟩) none (some (i : Int)) := (cut_take (a := (i : Int)) (by omega) (by rw [hw]; omega)).symm
          apply EvP.toS
          apply EvN.toP
          refine n_cat (ds := ((wdC n).drop i).map (fun k => D.str ⟨#[k]⟩)) (es := ((wdC n).take i).map (fun k => D.str ⟨#[k]⟩)) ?_ ?_ (by rw [List.length_map, List.length_map, List.length_drop, List.length_take]; omega)
          · rw [e1]
            exact EvP.toS (EvN.toP (n_slL (EvP.toS (p_var rfl)) (o_some (p_var rfl)) o_none))
          · rw [e2]
            exact EvP.toS (EvN.toP (n_slL (EvP.toS (p_var rfl)) o_none (o_some (p_var rfl))))
        · exact hz
        walk_at "nrm"
        walk_at "end"
        · rfl
        · exact ⟨rfl, rfl, rfl, rfl, rfl, rfl, rfl, trivial⟩
  · exact sx_retG (p_var rfl) List.mem_cons_self post
local macro_rules | `(tactic| walk_at "pv") => `(tactic| ((with_reducible apply n_law_names) <;> (try walk_at "pv")))

/-! texts that can be laid -/
theorem strOk_iff {s : Str} : PyData.strOk s = true ↔ ∀ c ∈ s.cps.toList, c < 1114112 := by
  unfold PyData.strOk
  rw [Array.all_eq_true]
  constructor
  · intro h c hc
    obtain ⟨i, hi, e⟩ := List.getElem_of_mem hc
    have h2 := h i (by simpa using hi)
    have e2 : s.cps[i]'(by simpa using hi) = c := by rw [← e]; simp
    rw [e2] at h2
    exact of_decide_eq_true h2
  · intro h i hi
    exact decide_eq_true (h _ (by simp))
theorem strOk_app {a b : Str} (h1 : PyData.strOk a = true) (h2 : PyData.strOk b = true) : PyData.strOk (a ++ b) = true := by
  rw [← of_sOf a, ← of_sOf b, sOf_app]
  rw [strOk_iff, sOf_cps]
  intro c hc
  rcases List.mem_append.mp hc with hc | hc
  · exact strOk_iff.mp h1 c hc
  · exact strOk_iff.mp h2 c hc
theorem strOk_join {sep : Str} (hs : PyData.strOk sep = true) : ∀ {l : List Str}, (∀ s ∈ l, PyData.strOk s = true) → PyData.strOk (Txt.join sep l) = true := by
  intro l h
  rw [eq_of_beq (join_plain_closes sep l)]
  induction l with
  | nil => exact (by decide +kernel : PyData.strOk (⟨#[]⟩ : Str) = true)
  | cons x r ih =>
    cases r with
    | nil => exact h x List.mem_cons_self
    | cons y r =>
      show PyData.strOk ((x ++ sep) ++ Str.join sep (y :: r)) = true
      exact strOk_app (strOk_app (h x List.mem_cons_self) hs) (ih fun s hs => h s (List.mem_cons_of_mem _ hs))
theorem tS_ok_all : ((List.range 100).all fun n => PyData.strOk (tS (n : Int))) = true := by decide +kernel
theorem tS_ok {i : Int} (h0 : 0 ≤ i) (h1 : i ≤ 99) : PyData.strOk (tS i) = true := by
  have := List.all_eq_true.mp tS_ok_all i.toNat (List.mem_range.mpr (by omega))
  rwa [show ((i.toNat : Nat) : Int) = i by omega] at this
theorem signs_ok : nameSigns.all (fun c => decide (c < 1114112)) = true := by decide +kernel
theorem name_ok {s : Str} (h : GoodName s) : PyData.strOk s = true := strOk_iff.mpr fun c hc => of_decide_eq_true (List.all_eq_true.mp signs_ok c (h.2.2 c hc))
theorem line_ok {n : Str} {sp : List Spot} (hn : GoodName n) (hs : ∀ s ∈ sp, SmallSp s) : PyData.strOk (lineOf n sp) = true := by
  unfold lineOf
  refine strOk_app (strOk_app (name_ok hn) (by decide +kernel)) (strOk_join (by decide +kernel) fun x hx => ?_)
  obtain ⟨s, hsm, rfl⟩ := List.mem_map.mp hx
  obtain ⟨a1, a2, a3, a4⟩ := hs s hsm
  rw [word_eq]
  exact strOk_app (strOk_app (tS_ok a1 a2) (by decide +kernel)) (tS_ok a3 a4)
theorem pl_strs {l : List Str} (h : ∀ s ∈ l, PyData.strOk s = true) : Pl 1 (.lst (l.map D.str)) := by
  intro d hd
  obtain ⟨s, hs, rfl⟩ := List.mem_map.mp hd
  exact h s hs
theorem shown_ok {td : TD} {sg : Nat} (hsg : sg < 1114112) : ∀ (rs : List Str) (k : Nat), (∀ s ∈ rs, GoodRow s) → ∀ s ∈ shown k td rs sg, PyData.strOk s = true
  | [], _, _ => fun s hs => nomatch hs
  | r :: rs, k, h => fun s hs => by
    rcases List.mem_cons.mp hs with rfl | hs
    · rw [strOk_iff, shownS, sOf_cps]
      intro c hc
      obtain ⟨i, hi, rfl⟩ := List.mem_map.mp hc
      have hi := List.mem_range.mp hi
      split
      · exact hsg
      · have hm : r.cps.toList[i]? = some (r.cps.toList.getD i 0) := by
          have : i < r.cps.toList.length := by rw [cps_len]; exact hi
          rw [List.getD_eq_getElem?_getD, List.getElem?_eq_getElem this]
          rfl
        rcases (h r List.mem_cons_self).2 _ (List.mem_of_getElem? hm) with e | e <;> rw [e] <;> decide
    · exact shown_ok hsg rs (k + 1) (fun x hx => h x (List.mem_cons_of_mem _ hx)) s hs

/-! ### is that spot a seat? -/
def pre_is_seat : Pre := fun ds R o => ∃ (rows : List Str) (r p : Int), ds = [.lst (rows.map D.str), .int r, .int p] ∧ R = [] ∧ Short rows ∧ rows.length ≤ 100 ∧ o = .ret (.bl (isSeat rows r p))
theorem p_is_seat {c : Ct} {G : Res} {ρ : En} {ta tb tc : TE} {rows : List Str} {r p : Int} {E : XK} (ha : EvP c G ρ ta (.lst (rows.map D.str))) (hb : EvP c G ρ tb (.int r)) (hc : EvP c G ρ tc (.int p)) (hs : Short rows) (hl : rows.length ≤ 100) :
    EvP c G ρ (tCall (spD c.K pre_is_seat) [] E (tCons ta (tCons tb (tCons tc tNil)))) (.bl (isSeat rows r p)) :=
  p_call (a_cons ha (a_cons hb (a_cons hc a_nil))) (R := []) (fun x hx => nomatch hx) ⟨rows, r, p, rfl, rfl, hs, hl, rfl⟩
theorem ok_is_seat {P : Program} {w : World} {K : PySem.W.Frag} {mg : Str → Option Value} {base : Heap} (T : Top K mg) : FnOk P w K mg base CX0 1 T.a_is_seat T.f_is_seat ["rows", "row", "place"] (spD K pre_is_seat) := by
  refine fnOk T.F_is_seat sc_is_seat (fun ds R o h => by obtain ⟨rows, r, p, rfl, _⟩ := h; rfl) fun ds R o h cdv A outer sh H E hr => ?_
  obtain ⟨rows, r, p, rfl, rfl, hsh, hl, rfl⟩ := h
  refine ⟨_, (pss_cons (ps_if (PW.pt (pw_or (pt_not (pt_chain op_le op_lt pe_int (pv 1) (pe_callB call_len_seq (by rfl) T.m_len PySem.boot_len (pa_cons (pv 0) pa_nil)))) (pw_or1 (pt_not (pt_chain op_le op_lt pe_int (pv 2) (pe_callB call_len_str (by rfl) T.m_len PySem.boot_len (pa_cons (pe_ix ix_list (pv 0) (pv 1) (fun _ _ => rfl)) pa_nil)))))))
  (pss_one (ps_ret pe_bl))
  pss_nil)
  (pss_one (ps_ret (pe_cmpR op_eq (pe_ix ix_str (pe_ix ix_list (pv 0) (pv 1) (fun _ _ => rfl)) (pv 2) (fun _ _ => rfl)) (pe_glob rfl T.h_SEAT T.r_SEAT) (nomark _))))), fun F Q post => ?_⟩
  walk_at "go"
  by_cases h : 0 ≤ r ∧ r < (rows.length : Int)
  · obtain ⟨s, hs⟩ : ∃ s, rows[r.toNat]? = some s := ⟨_, List.getElem?_eq_getElem (by omega)⟩
    have hat : atI (rows.map D.str) r = some (.str s) := at_m (f := D.str) h.1 hs
    have hz := hsh.at hs
    by_cases hp : 0 ≤ p ∧ p < (s.length : Int)
    · obtain ⟨c, hc⟩ : ∃ c, s.cps.toList[p.toNat]? = some c := ⟨_, List.getElem?_eq_getElem (by have := cps_len s; omega)⟩
      have hat2 := at_sign hp.1 hc
      have hseat := isSeat_at h.1 hs hp.1 hc
      rw [hseat] at post
      apply sx_skip
      · refine EvT.is (t_or (a := !(decide (0 ≤ r) && decide (r < ((rows.map D.str).length : Int)))) (b := !(decide (0 ≤ p) && decide (p < (s.length : Int)))) ?_ fun _ => ?_) ?_
        · walk_at "pv"
        · walk_at "pv"
        · rw [List.length_map]
          simp [h.1, h.2, hp.1, hp.2]
      walk_at "last"
      apply sx_retE (d := .bl (decide ((⟨#[c]⟩ : Str) = ("o" : Str))))
      · exact post
      · apply p_eqS
        · walk_at "pv"
        · exact p_str
      · rw [sign_o]
    · have hseat := isSeat_place hs hp
      rw [hseat] at post
      apply sx_when (b := true)
      · refine EvT.is (t_or (a := !(decide (0 ≤ r) && decide (r < ((rows.map D.str).length : Int)))) (b := !(decide (0 ≤ p) && decide (p < (s.length : Int)))) ?_ fun _ => ?_) ?_
        · walk_at "pv"
        · walk_at "pv"
        · rw [List.length_map]
          by_cases h0 : 0 ≤ p
          · have : ¬ p < (s.length : Int) := fun q => hp ⟨h0, q⟩
            simp [this]
          · simp [h0]
      · intro _
        walk_at "last"
        walk_at "ret"
        rfl
      · intro q; cases q
  · have hseat := isSeat_row (p := p) h
    rw [hseat] at post
    have hf : (!(decide (0 ≤ r) && decide (r < ((rows.map D.str).length : Int)))) = true := by
      rw [List.length_map]
      by_cases h0 : 0 ≤ r
      · have : ¬ r < (rows.length : Int) := fun q => h ⟨h0, q⟩
        simp [this]
      · simp [h0]
    apply sx_when (b := true)
    · refine EvT.is (t_or (a := !(decide (0 ≤ r) && decide (r < ((rows.map D.str).length : Int)))) (b := true) ?_ fun q => ?_) (by rw [hf]; rfl)
      · walk_at "pv"
      · rw [hf] at q; cases q
    · intro _
      walk_at "last"
      walk_at "ret"
      rfl
    · intro q; cases q
local macro_rules | `(tactic| walk_at "pv") => `(tactic| ((with_reducible apply p_is_seat) <;> (try walk_at "pv")))
/-! ### a seat, or refused -/
def seatS (rows : List Str) (s : Spot) : Bool := isSeat rows s.1 s.2
def pre_need_seat (C X : Addr) : Pre := fun ds R o => ∃ (rows : List Str) (g d : Addr) (s : Spot), ds = [planD C rows g d, encSpot s] ∧ R = [] ∧ Short rows ∧ rows.length ≤ 100 ∧ ((seatS rows s = true ∧ o = .ret .non) ∨ (seatS rows s = false ∧ o = .exc X))
theorem meth_need_seat : ("_need_seat" : Str) ∉ planKs := by decide +kernel
theorem p_need_seat {c : Ct} {G : Res} {ρ : En} {ta tb : TE} {C X : Addr} {rows : List Str} {g d : Addr} {s : Spot} {E : XK} (ha : EvP c G ρ ta (planD C rows g d)) (hb : EvP c G ρ tb (encSpot s)) (hs : Short rows) (hl : rows.length ≤ 100) (h : seatS rows s = true) :
    EvP c G ρ (tMeth C "_need_seat" (spD c.K (pre_need_seat C X)) [] E ta (tCons tb tNil)) .non :=
  p_meth ha meth_need_seat (a_cons hb a_nil) (R := []) (fun x hx => nomatch hx) ⟨rows, g, d, s, rfl, rfl, hs, hl, .inl ⟨h, rfl⟩⟩
theorem x_need_seat {c : Ct} {G : Res} {ρ : En} {ta tb : TE} {C X : Addr} {rows : List Str} {g d : Addr} {s : Spot} {E : XK} (ha : EvP c G ρ ta (planD C rows g d)) (hb : EvP c G ρ tb (encSpot s)) (hs : Short rows) (hl : rows.length ≤ 100) (h : seatS rows s = false) :
    EvX c G ρ (tMeth C "_need_seat" (spD c.K (pre_need_seat C X)) [] E ta (tCons tb tNil)) X G E :=
  x_meth ha meth_need_seat (a_cons hb a_nil) (R := []) (fun x hx => nomatch hx) ⟨rows, g, d, s, rfl, rfl, hs, hl, .inr ⟨h, rfl⟩⟩
theorem ok_Plan_need_seat {P : Program} {w : World} {K : PySem.W.Frag} {mg : Str → Option Value} {base : Heap} (T : Top K mg) : FnOk P w K mg base (L2N.CX P w) 2 T.a_Plan_need_seat T.f_Plan_need_seat ["self", "spot"] (spD K (pre_need_seat T.a_Plan T.a_NoSeat)) := by
  refine Ho.fnOkXN T.F_Plan_need_seat sc_Plan_need_seat (fun ds R o h => by obtain ⟨rows, g, d, s, rfl, _⟩ := h; rfl) fun ds R o h cdv A outer sh H E hr => ?_
  obtain ⟨rows, g, d, s, rfl, rfl, hs, hl, ho⟩ := h
  have cP := T.c_Plan
  have n1 := T.n_Plan_hall
  refine ⟨_, (pss_one (ps_if (pt_not (pt_val (pe_call (ok_is_seat T) (hr.mono (by decide)) (by rfl) T.g_is_seat T.F_is_seat.kp T.b_is_seat .nil pass0 (pa_cons (pe_fld (pv 0) rfl) (pa_cons (pe_ix ix_tup (pv 1) pe_int (fun _ _ => rfl)) (pa_cons (pe_ix ix_tup (pv 1) pe_int (fun _ _ => rfl)) pa_nil))))))
  (pss_one (Ho.ps_raiseDN rfl (L2N.takes_of rfl rfl rfl rfl) (L2N.pmk_own PySem.F.excBase_ValueError T.x_NoSeat T.g_NoSeat T.k_NoSeat (raises_own T.b_NoSeat T.t_NoSeat) rfl)))
  pss_nil)), fun F Q post => ?_⟩
  walk_at "go"
  have ht : EvP ⟨K, H, F, []⟩ [] [some (planD T.a_Plan rows g d), some (encSpot s)] (tCall (spD K pre_is_seat) [] E0 (tCons (tFld K (tVar 0) "hall") (tCons (tOp (rIxT K) (tVar 1) (tC (.int 0))) (tCons (tOp (rIxT K) (tVar 1) (tC (.int 1))) tNil)))) (.bl (isSeat rows s.1 s.2)) :=
    p_is_seat (p_hall (p_var rfl) cP n1) (p_ixT (ds := [.int s.1, .int s.2]) (p_var rfl) p_int at_0) (p_ixT (ds := [.int s.1, .int s.2]) (p_var rfl) p_int at_1) hs hl
  walk_at "last"
  rcases ho with ⟨h, rfl⟩ | ⟨h, rfl⟩
  · apply sx_skip
    · refine EvT.is (t_not (t_B ht)) ?_
      show (!seatS rows s) = false
      rw [h]
      rfl
    exact fun F1 σ1 H1 A1 => post .non F1 H1 A1.go .non
  · apply sx_when (b := true)
    · refine EvT.is (t_not (t_B ht)) ?_
      show (!seatS rows s) = true
      rw [h]
      rfl
    · intro _
      walk_at "last"
      exact sx_raise fun F' H' A => post F' H' A.1
    · intro q; cases q
/-! ### who has it -/
def pre_who (C : Addr) : Pre := fun ds R o => ∃ (rows : List Str) (g d : Addr) (gs : List Gp) (r p : Int), ds = [planD C rows g d, .int r, .int p] ∧ R = [(g, .lst (gs.map encGp))] ∧ Short rows ∧ rows.length ≤ 100 ∧ gs.length ≤ 5000 ∧ (∀ x ∈ gs, x.2.length ≤ 2400) ∧ isSeat rows r p = true ∧ o = .ret (encON (valA (takenOf gs) (r, p)))
theorem meth_who : ("who" : Str) ∉ planKs := by decide +kernel
theorem p_who {c : Ct} {G : Res} {ρ : En} {ta tb tc : TE} {C : Addr} {rows : List Str} {g d : Addr} {gs : List Gp} {r p : Int} {E : XK} (ha : EvP c G ρ ta (planD C rows g d)) (m : (g, D.lst (gs.map encGp)) ∈ c.S ∨ (g, D.lst (gs.map encGp)) ∈ G) (hb : EvP c G ρ tb (.int r)) (hc : EvP c G ρ tc (.int p)) (hs : Short rows) (hl : rows.length ≤ 100) (h1 : gs.length ≤ 5000) (h2 : ∀ x ∈ gs, x.2.length ≤ 2400) (h : isSeat rows r p = true) :
    EvP c G ρ (tMeth C "who" (spD c.K (pre_who C)) [] E ta (tCons tb (tCons tc tNil))) (encON (valA (takenOf gs) (r, p))) :=
  p_meth ha meth_who (a_cons hb (a_cons hc a_nil)) (R := [(g, .lst (gs.map encGp))]) (fun x hx => by rcases List.mem_singleton.mp hx with rfl; exact m) ⟨rows, g, d, gs, r, p, rfl, rfl, hs, hl, h1, h2, h, rfl⟩
theorem ok_Plan_who {P : Program} {w : World} {K : PySem.W.Frag} {mg : Str → Option Value} {base : Heap} (T : Top K mg) : FnOk P w K mg base (L2N.CX P w) 3 T.a_Plan_who T.f_Plan_who ["self", "row", "place"] (spD K (pre_who T.a_Plan)) := by
  refine Ho.fnOkXN T.F_Plan_who sc_Plan_who (fun ds R o h => by obtain ⟨rows, g, d, gs, r, p, rfl, _⟩ := h; rfl) fun ds R o h cdv A outer sh H E hr => ?_
  obtain ⟨rows, g, d, gs, r, p, rfl, rfl, hs, hl, h1, h2, h, rfl⟩ := h
  refine ⟨_, (pss_cons (ps_expr (pe_meth (pv 0) T.c_Plan T.me_Plan_need_seat (ok_Plan_need_seat T) (hr.mono (by decide)) T.b_Plan_need_seat .nil (Ho.pass_outN (L2N.takes_of rfl rfl rfl rfl)) (pa_cons (pe_tup (pa_cons (pv 1) (pa_cons (pv 2) pa_nil))) pa_nil)))
  (pss_one (ps_ret (pe_dget1 (hu_of hr) (pe_meth0 (pv 0) T.c_Plan T.me_Plan_taken (ok_Plan_taken T) (hr.mono (by decide)) T.b_Plan_taken .nil pass0) (pe_tup (pa_cons (pv 1) (pa_cons (pv 2) pa_nil))) ⟨rfl, rfl, rfl, rfl⟩)))), fun F Q post => ?_⟩
  walk_at "go"
  apply sx_drop
  · exact p_need_seat (s := (r, p)) (p_var rfl) (p_spot (p_var rfl) (p_var rfl)) hs hl h
  walk_at "last"
  apply sx_retE
  · exact post
  · exact p_get1T (s := (r, p)) (EvP.toS (n_Plan_taken (p_var rfl) (.inl List.mem_cons_self) h1 h2).toP) (p_spot (p_var rfl) (p_var rfl))
  · rfl
/-! ### a group, as it was written -/
def pre_settle (C : Addr) : PreM := fun ds R M W => ∃ (rows : List Str) (g d : Addr) (gs : List Gp) (n : Str) (sp : List Spot), ds = [planD C rows g d, .str n, .lst (sp.map encSpot)] ∧ R = [] ∧ M = [(g, .lst (gs.map encGp))] ∧ Short rows ∧ rows.length ≤ 100 ∧ gs.length ≤ 5000 ∧ (∀ x ∈ gs, x.2.length ≤ 2400) ∧ GoodName n ∧ n ∉ namesOf gs ∧ sp.length ≤ 2400 ∧
  (∀ s ∈ sp, seatS rows s = true ∧ valA (takenOf gs) s = none) ∧ W = Det (.ret .non) [(g, .lst ((gs ++ [(n, sp)]).map encGp))]
theorem meth_settle : ("settle" : Str) ∉ planKs := by decide +kernel
theorem ok_Plan_settle {P : Program} {w : World} {K : PySem.W.Frag} {mg : Str → Option Value} {base : Heap} (T : Top K mg) : FnOk P w K mg base (L2N.CX P w) 3 T.a_Plan_settle T.f_Plan_settle ["self", "name", "spots"] (spM K (pre_settle T.a_Plan)) := by
  refine Ho.fnOkMXN T.F_Plan_settle sc_Plan_settle (fun ds R M W h => by
    obtain ⟨rows, g, d, gs, n, sp, rfl, rfl, rfl, _, _, _, _, _, _, _, _, rfl⟩ := h
    exact ⟨rfl, gives_det rfl⟩) fun ds R M W h cdv A outer sh H E hr => ?_
  obtain ⟨rows, g, d, gs, n, sp, rfl, rfl, rfl, hs, hl, h1, h2, hn, hnn, hsp, hall, rfl⟩ := h
  have cP := T.c_Plan
  have n2 := T.n_Plan__groups
  refine ⟨_, (pss_cons (ps_expr (pe_call (ok_need_name T) (hr.mono (by decide)) (by rfl) T.g_need_name T.F_need_name.kp T.b_need_name .nil (Ho.pass_outN (L2N.takes_of rfl rfl rfl rfl)) (pa_cons (pv 1) pa_nil)))
  (pss_cons (ps_expr (pe_call (ok_need_unused T) (hr.mono (by decide)) (by rfl) T.g_need_unused T.F_need_unused.kp T.b_need_unused .nil (Ho.pass_outN (L2N.takes_of rfl rfl rfl rfl)) (pa_cons (pv 1) (pa_cons (pe_meth0 (pv 0) T.c_Plan T.me_Plan_groups (ok_Plan_groups T) (hr.mono (by decide)) T.b_Plan_groups .nil pass0) pa_nil))))
  (pss_cons (ps_set (i := 3) sc_Plan_settle.nd rfl (Or.inl rfl) (pe_meth0 (pv 0) T.c_Plan T.me_Plan_taken (ok_Plan_taken T) (hr.mono (by decide)) T.b_Plan_taken .nil pass0))
  (pss_cons (ps_for (passes_of rfl) rfl (pi_list (pv 2)) (pg_name (i := 4) sc_Plan_settle.nd rfl (Or.inl rfl))
  (pss_cons (ps_expr (pe_meth (pv 0) T.c_Plan T.me_Plan_need_seat (ok_Plan_need_seat T) (hr.mono (by decide)) T.b_Plan_need_seat .nil (Ho.pass_outN (L2N.takes_of rfl rfl rfl rfl)) (pa_cons (pv 4) pa_nil)))
  (pss_one (ps_if (pt_cmp (pc_din (hu_of hr) (pv 4) (pv 3)))
  (pss_one (Ho.ps_raiseDN rfl (L2N.takes_of rfl rfl rfl rfl) (L2N.pmk_own PySem.F.excBase_ValueError T.x_Taken T.g_Taken T.k_Taken (raises_own T.b_Taken T.t_Taken) rfl)))
  pss_nil))))
  (pss_one (ps_expr (pe_bm PySem.F.plainAttrs_list PySem.F.slot_list_append PySem.F.type_list_append mt_append (pe_fld (pv 0) rfl) (pa_cons (pe_tup (pa_cons (pv 1) (pa_cons (pe_callTy call_list_of (by rfl) T.m_list PyProof.Rows.boot_list (pa_cons (pv 2) pa_nil)) pa_nil))) pa_nil)))))))), fun B F Q ways => ?_⟩
  walk_at "go"
  apply sx_drop
  · exact p_need_name (p_var rfl) hn
  apply sx_drop
  · exact p_need_unused (p_var rfl) (EvN.toP (n_Plan_groups (p_var rfl) (.inr List.mem_cons_self) (by omega))) May.self hnn
  apply sx_asg (d := tdD (takenOf gs))
  · exact (n_Plan_taken (p_var rfl) (.inr List.mem_cons_self) h1 h2).toP
  walk_at "nrm"
  refine sx_forU (us := sp) (enc := encSpot) (gr := []) (fun i => [(g, .lst (gs.map encGp))]) (fun i => [some (planD T.a_Plan rows g d), some (.str n), some (.lst (sp.map encSpot)), some (tdD (takenOf gs)), none]) ?_ (fun x hx => nomatch hx) rfl ⟨rfl, rfl, rfl, rfl, trivial⟩ (fun i s hsi S' hS => ?_) ?_
  · exact i_list (p_var rfl)
  · obtain ⟨k1, k2⟩ := hall s (List.mem_of_getElem? hsi)
    walk_at "nrm"
    apply sx_drop
    · exact p_need_seat (s := s) (p_var rfl) (p_var rfl) hs hl k1
    walk_at "last"
    apply sx_skip
    · refine EvT.is (t_test (p_dinT (s := s) (p_var rfl) (EvP.toS (p_var rfl)))) ?_
      rw [k2]
      rfl
    walk_at "end"
    · rfl
    · exact ⟨rfl, rfl, rfl, rfl, trivial⟩
  · walk_at "last"
    apply sx_app 0 (d := encGp (n, sp))
    · exact p_groups (p_var rfl) cP n2
    · exact rfl
    · exact p_tup (ds := [.str n, .lst (sp.map encSpot)]) (a_cons (p_var rfl) (a_cons (EvN.toP (n_list (EvP.toS (p_var rfl)))) a_nil)) (by simp)
    · rw [List.length_map]
      omega
    walk_at "nrm"
    have e : gs.map encGp ++ [encGp (n, sp)] = (gs ++ [(n, sp)]).map encGp := by rw [List.map_append]; rfl
    rw [e]
    exact sx_fall fun σ F' H' A => ways.rt .non _ ⟨rfl, rfl⟩ _ F' H' A .non

/-! ### texts taken apart at a separator -/
def atB (x y : Str) (i : Nat) : Bool := decide (i + y.length ≤ x.length) && Builtin.Str.subAt x y i
theorem atB_iff {x y : Str} {i : Nat} : atB x y i = true ↔ i + y.length ≤ x.length ∧ Builtin.Str.subAt x y i = true := by unfold atB; simp
theorem occ_sep (x y : Str) (limit : Nat) : ∀ (l : List Nat) (st : Array Nat × Nat), (∀ i ∈ l, atB x y i = true → st.2 ≤ i) → (l.Pairwise fun i j => atB x y i = true → atB x y j = true → i + y.length ≤ j) → st.1.size + l.length ≤ limit →
    (forIn l st (StrLaws.occBody x y x.length limit)).run.fst.toList = st.1.toList ++ l.filter (atB x y)
  | [], st, _, _, _ => by simp
  | i :: l, st, h1, h2, h3 => by
    rw [List.forIn_cons]
    unfold StrLaws.occBody
    have hp := List.pairwise_cons.mp h2
    simp only [List.length_cons] at h3
    by_cases hc : atB x y i = true
    · have hs := atB_iff.mp hc
      rw [if_pos ⟨⟨⟨by omega, h1 i (by simp) hc⟩, hs.1⟩, hs.2⟩]
      have ih := occ_sep x y limit l (st.1.push i, i + y.length) (fun j hj hb => hp.1 j hj hc hb) hp.2 (by rw [Array.size_push]; omega)
      rw [List.filter_cons_of_pos hc]
      refine Eq.trans ih ?_
      rw [Array.toList_push, List.append_assoc]
      rfl
    · rw [if_neg (fun q => hc (atB_iff.mpr ⟨q.1.2, q.2⟩))]
      have ih := occ_sep x y limit l (st.1, st.2) (fun j hj => h1 j (by simp [hj])) hp.2 (by show st.1.size + l.length ≤ limit; omega)
      rw [List.filter_cons_of_neg hc]
      exact ih
def cutsOf (x y : Str) : List Nat := (List.range (x.length + 1)).filter (atB x y)
theorem kind_min (x : Str) : ¬ Builtin.Str.strKind x < 1 := by
  unfold Builtin.Str.strKind
  split
  · decide
  · split <;> decide
theorem split_eq {x y : Str} (hk : Builtin.Str.strKind y = 1) (hn : ∀ i j, i < j → atB x y i = true → atB x y j = true → i + y.length ≤ j) : Txt.split x y = StrLaws.partsFrom x y.length 0 (cutsOf x y) := by
  have hocc : Builtin.Str.occurrences x y 0 x.length (x.length + 1) = cutsOf x y := by
    rw [StrLaws.occ_eq]
    have h := occ_sep x y (x.length + 1) (List.range' 0 (x.length + 1 - 0)) (#[], 0) (fun _ _ _ => Nat.zero_le _) (by
      have h0 := List.pairwise_lt_range' (s := 0) (n := x.length + 1)
      have h1 : (List.range' 0 (x.length + 1 - 0)).Pairwise (· < ·) := by simpa using h0
      exact h1.imp fun {i j} q => hn i j q) (by simp)
    refine Eq.trans h ?_
    rw [cutsOf, List.range_eq_range']
    simp
  unfold Txt.split
  rw [hk, hocc]
  have hwhole : StrLaws.partsFrom x y.length 0 [] = [x] := by
    show [Builtin.Str.strSub x 0 x.length] = [x]
    rw [StrLaws.sub_whole]
  by_cases h1 : x.length < y.length
  · have e : cutsOf x y = [] := by
      unfold cutsOf
      rw [List.filter_eq_nil_iff]
      intro i _ q
      have := (atB_iff.mp q).1
      omega
    rw [e, hwhole]
    rw [if_pos (by simp [h1])]
  · rw [if_neg (by have := kind_min x; simp [h1]; omega)]
    cases hc : cutsOf x y with
    | nil => rw [hwhole]; rfl
    | cons a l =>
      rw [if_neg (by simp), StrLaws.partsBetween_eq]
/-! one sign -/
theorem at_one {x : Str} {c i : Nat} : atB x ⟨#[c]⟩ i = true ↔ x.cps.toList[i]? = some c := atB_iff.trans (StrLaws.subAt_one x c i)
theorem parts_free {x : Str} {c : Nat} : ∀ (cuts : List Nat) (a : Nat), (∀ i, a ≤ i → (x.cps.toList[i]? = some c ↔ i ∈ cuts)) → cuts.Pairwise (· < ·) → (∀ i ∈ cuts, a ≤ i) → ∀ p ∈ StrLaws.partsFrom x 1 a cuts, c ∉ p.cps.toList
  | [], a, h, _, _ => fun p hp => by
    have hp' : p ∈ [Builtin.Str.strSub x a x.length] := hp
    rw [List.mem_singleton] at hp'
    subst hp'
    rw [StrLaws.strSub_toList]
    intro hm
    obtain ⟨i, hi⟩ := List.mem_iff_getElem?.mp (List.mem_of_mem_take hm)
    rw [List.getElem?_drop] at hi
    have := (h (a + i) (by omega)).mp hi
    cases this
  | k :: r, a, h, h2, h3 => fun p hp => by
    have hpw := List.pairwise_cons.mp h2
    have hp' : p = Builtin.Str.strSub x a k ∨ p ∈ StrLaws.partsFrom x 1 (k + 1) r := List.mem_cons.mp hp
    rcases hp' with e | hp'
    · subst e
      rw [StrLaws.strSub_toList]
      intro hm
      obtain ⟨i, hi⟩ := List.mem_iff_getElem?.mp hm
      have hlt : i < k - a := by
        have := (List.getElem?_eq_some_iff.mp hi).1
        rw [List.length_take] at this
        omega
      rw [List.getElem?_take, if_pos hlt, List.getElem?_drop] at hi
      have := (h (a + i) (by omega)).mp hi
      rcases List.mem_cons.mp this with q | q
      · omega
      · have := hpw.1 _ q
        omega
    · refine parts_free r (k + 1) (fun i hi => ?_) hpw.2 (fun i hi => by have := hpw.1 i hi; omega) p hp'
      rw [h i (by have := h3 k List.mem_cons_self; omega), List.mem_cons]
      constructor
      · intro q
        rcases q with q | q
        · omega
        · exact q
      · exact .inr
def jnL (c : Nat) : List (List Nat) → List Nat
  | [] => []
  | [x] => x
  | x :: y :: r => x ++ c :: jnL c (y :: r)
theorem span_uniq {c : Nat} : ∀ {x x' t t' : List Nat}, c ∉ x → c ∉ x' → x ++ c :: t = x' ++ c :: t' → x = x' ∧ t = t'
  | [], [], t, t', _, _, e => ⟨rfl, (List.cons.inj e).2⟩
  | [], y :: x', t, t', _, h2, e => absurd (List.mem_cons.mpr (.inl (List.cons.inj e).1)) h2
  | y :: x, [], t, t', h1, _, e => absurd (List.mem_cons.mpr (.inl (List.cons.inj e).1.symm)) h1
  | y :: x, z :: x', t, t', h1, h2, e => by
    obtain ⟨e1, e2⟩ := List.cons.inj e
    obtain ⟨q1, q2⟩ := span_uniq (fun q => h1 (List.mem_cons_of_mem _ q)) (fun q => h2 (List.mem_cons_of_mem _ q)) e2
    exact ⟨by rw [e1, q1], q2⟩
theorem jn_uniq {c : Nat} : ∀ {l l' : List (List Nat)}, l ≠ [] → l' ≠ [] → (∀ x ∈ l, c ∉ x) → (∀ x ∈ l', c ∉ x) → jnL c l = jnL c l' → l = l'
  | [], _, h, _, _, _, _ => absurd rfl h
  | _, [], _, h, _, _, _ => absurd rfl h
  | [x], [y], _, _, _, _, e => by
    have e' : x = y := e
    rw [e']
  | [x], y :: z :: r, _, _, h1, _, e => by
    have e' : x = y ++ c :: jnL c (z :: r) := e
    exact absurd (by rw [e']; simp) (h1 x List.mem_cons_self)
  | x :: z :: r, [y], _, _, _, h2, e => by
    have e' : x ++ c :: jnL c (z :: r) = y := e
    exact absurd (by rw [← e']; simp) (h2 y List.mem_cons_self)
  | x :: z :: r, y :: w :: r', _, _, h1, h2, e => by
    obtain ⟨q1, q2⟩ := span_uniq (h1 x List.mem_cons_self) (h2 y List.mem_cons_self) e
    have := jn_uniq (l := z :: r) (l' := w :: r') (by simp) (by simp) (fun a ha => h1 a (List.mem_cons_of_mem _ ha)) (fun a ha => h2 a (List.mem_cons_of_mem _ ha)) q2
    rw [q1, this]
theorem join_jn (c : Nat) : ∀ l : List Str, (Str.join ⟨#[c]⟩ l).cps.toList = jnL c (l.map fun s => s.cps.toList)
  | [] => rfl
  | [x] => rfl
  | x :: y :: r => by
    show ((x ++ (⟨#[c]⟩ : Str)) ++ Str.join ⟨#[c]⟩ (y :: r)).cps.toList = x.cps.toList ++ c :: jnL c ((y :: r).map fun s => s.cps.toList)
    rw [← join_jn c (y :: r)]
    simp only [Str.cps_append, Array.toList_append, List.append_assoc]
    rfl
theorem split_join {c : Nat} (hk : Builtin.Str.strKind ⟨#[c]⟩ = 1) {l : List Str} (h0 : l ≠ []) (h : ∀ s ∈ l, c ∉ s.cps.toList) : Txt.split (Txt.join ⟨#[c]⟩ l) ⟨#[c]⟩ = l := by
  have hj := eq_of_beq (join_plain_closes (⟨#[c]⟩ : Str) l)
  have h1 := StrLaws.join_split (Txt.join ⟨#[c]⟩ l) ⟨#[c]⟩
  have h2 := split_eq (x := Txt.join ⟨#[c]⟩ l) hk (fun i j hij _ _ => hij)
  have hfree : ∀ p ∈ Txt.split (Txt.join ⟨#[c]⟩ l) ⟨#[c]⟩, c ∉ p.cps.toList := by
    rw [h2]
    refine parts_free _ 0 (fun i _ => ?_) ?_ (fun i _ => Nat.zero_le _)
    · unfold cutsOf
      rw [List.mem_filter, List.mem_range, at_one]
      constructor
      · intro q
        have := (List.getElem?_eq_some_iff.mp q).1
        rw [cps_len] at this
        exact ⟨by omega, q⟩
      · exact fun q => q.2
    · exact List.Pairwise.filter _ List.pairwise_lt_range
  have hne : Txt.split (Txt.join ⟨#[c]⟩ l) ⟨#[c]⟩ ≠ [] := by
    rw [h2]
    obtain ⟨p, r, e⟩ := StrLaws.partsFrom_ne (Txt.join ⟨#[c]⟩ l) (⟨#[c]⟩ : Str).length 0 (cutsOf (Txt.join ⟨#[c]⟩ l) ⟨#[c]⟩)
    rw [e]
    simp
  generalize Txt.split (Txt.join ⟨#[c]⟩ l) ⟨#[c]⟩ = m at h1 hfree hne
  have e : m.map (fun s => s.cps.toList) = l.map fun s => s.cps.toList := by
    refine jn_uniq (c := c) (by simpa using hne) (by simpa using h0) (fun x hx => ?_) (fun x hx => ?_) ?_
    · obtain ⟨s, hs, rfl⟩ := List.mem_map.mp hx
      exact hfree s hs
    · obtain ⟨s, hs, rfl⟩ := List.mem_map.mp hx
      exact h s hs
    · rw [← join_jn, ← join_jn, h1, hj]
  have e2 := congrArg (fun t => t.map sOf) e
  simp only [List.map_map] at e2
  have e3 : (sOf ∘ fun s : Str => s.cps.toList) = id := funext fun s => of_sOf s
  rwa [e3, List.map_id, List.map_id] at e2
/-! a colon with a blank behind it, just once -/
theorem split_two {a b : List Nat} {c d : Nat} (hcd : c ≠ d) (hk : Builtin.Str.strKind ⟨#[c, d]⟩ = 1) (ha : c ∉ a) (hb : c ∉ b) : Txt.split (sOf (a ++ c :: d :: b)) ⟨#[c, d]⟩ = [sOf a, sOf b] := by
  have hl : (sOf (a ++ c :: d :: b)).length = a.length + 2 + b.length := by
    rw [sOf_len, List.length_append, List.length_cons, List.length_cons]
    omega
  have hy : (⟨#[c, d]⟩ : Str).length = 2 := rfl
  have hat : ∀ i, atB (sOf (a ++ c :: d :: b)) ⟨#[c, d]⟩ i = true ↔ i = a.length := by
    intro i
    rw [atB_iff, StrLaws.subAt_eq, hl, hy, sOf_cps]
    constructor
    · intro q
      have e := eq_of_beq q.2
      have e2 : ((a ++ c :: d :: b).drop i)[0]? = some c := by
        have : (((a ++ c :: d :: b).drop i).take 2)[0]? = some c := by rw [e]; rfl
        rwa [List.getElem?_take, if_pos (by decide)] at this
      rw [List.getElem?_drop, Nat.add_zero] at e2
      by_cases h1 : i < a.length
      · rw [List.getElem?_append_left h1] at e2
        exact absurd (List.mem_of_getElem? e2) ha
      · by_cases h2 : i = a.length
        · exact h2
        · rw [List.getElem?_append_right (by omega)] at e2
          obtain ⟨k, hk2⟩ : ∃ k, i - a.length = k + 1 := ⟨i - a.length - 1, by omega⟩
          rw [hk2, List.getElem?_cons_succ] at e2
          cases k with
          | zero => simp at e2; exact absurd e2.symm hcd
          | succ k =>
            rw [List.getElem?_cons_succ] at e2
            exact absurd (List.mem_of_getElem? e2) hb
    · rintro rfl
      refine ⟨by omega, ?_⟩
      rw [List.drop_left]
      simp
  have hcuts : cutsOf (sOf (a ++ c :: d :: b)) ⟨#[c, d]⟩ = [a.length] := by
    unfold cutsOf
    rw [hl, show a.length + 2 + b.length + 1 = a.length + (1 + (b.length + 2)) by omega, List.range_add, List.filter_append, List.range_add]
    have f1 : (List.range a.length).filter (atB (sOf (a ++ c :: d :: b)) ⟨#[c, d]⟩) = [] := by
      rw [List.filter_eq_nil_iff]
      intro i hi q
      have := (hat i).mp q
      have := List.mem_range.mp hi
      omega
    rw [f1, List.map_append, List.filter_append]
    have f2 : (((List.range (b.length + 2)).map (1 + ·)).map (a.length + ·)).filter (atB (sOf (a ++ c :: d :: b)) ⟨#[c, d]⟩) = [] := by
      rw [List.filter_eq_nil_iff]
      intro i hi q
      have := (hat i).mp q
      obtain ⟨j, hj, rfl⟩ := List.mem_map.mp hi
      obtain ⟨k, _, rfl⟩ := List.mem_map.mp hj
      omega
    rw [f2]
    have f3 : atB (sOf (a ++ c :: d :: b)) ⟨#[c, d]⟩ a.length = true := (hat a.length).mpr rfl
    simp [f3]
  rw [split_eq hk fun i j hij q1 q2 => by have := (hat i).mp q1; have := (hat j).mp q2; omega, hcuts, hy]
  show [Builtin.Str.strSub (sOf (a ++ c :: d :: b)) 0 a.length, Builtin.Str.strSub (sOf (a ++ c :: d :: b)) (a.length + 2) (sOf (a ++ c :: d :: b)).length] = _
  have e1 : Builtin.Str.strSub (sOf (a ++ c :: d :: b)) 0 a.length = sOf a := by
    rw [← of_sOf (Builtin.Str.strSub _ _ _), StrLaws.strSub_toList, sOf_cps, List.drop_zero, Nat.sub_zero, List.take_left]
  have e2 : Builtin.Str.strSub (sOf (a ++ c :: d :: b)) (a.length + 2) (sOf (a ++ c :: d :: b)).length = sOf b := by
    rw [← of_sOf (Builtin.Str.strSub _ _ _), StrLaws.strSub_toList, sOf_cps, hl, ← List.drop_drop, List.drop_left]
    show sOf (b.take _) = _
    rw [List.take_of_length_le (by omega)]
  rw [e1, e2]

/-! ### numbers, spots, groups as they are written -/
theorem numbers_all : ((List.range 100).all fun n => decide (1 ≤ (tS (n : Int)).length) && decide ((tS (n : Int)).length ≤ 2) && ((tS (n : Int)).cps.toList.all fun c => inS ("0123456789" : Str) ⟨#[c]⟩ && decide (c ≠ 46) && decide (c ≠ 32) && decide (c ≠ 58)) && (decide ((tS (n : Int)).length ≠ 2) || decide ((tS (n : Int)).cps.toList[0]? ≠ some 48)) && decide (PySem.intText? (tS (n : Int)) = some (n : Int))) = true := by decide +kernel
structure NumOk (s : Str) (i : Int) : Prop where
  l1 : 1 ≤ s.length
  l2 : s.length ≤ 2
  fig : ∀ c ∈ s.cps.toList, inS ("0123456789" : Str) ⟨#[c]⟩ = true ∧ c ≠ 46 ∧ c ≠ 32 ∧ c ≠ 58
  zero : s.length = 2 → s.cps.toList[0]? ≠ some 48
  val : PySem.intText? s = some i
theorem num_ok {i : Int} (h0 : 0 ≤ i) (h1 : i ≤ 99) : NumOk (tS i) i := by
  have h := List.all_eq_true.mp numbers_all i.toNat (List.mem_range.mpr (by omega))
  rw [show ((i.toNat : Nat) : Int) = i by omega] at h
  simp only [Bool.and_eq_true, Bool.or_eq_true, decide_eq_true_eq, List.all_eq_true] at h
  obtain ⟨⟨⟨⟨a1, a2⟩, a3⟩, a4⟩, a5⟩ := h
  exact ⟨a1, a2, fun c hc => ⟨(a3 c hc).1.1.1, (a3 c hc).1.1.2, (a3 c hc).1.2, (a3 c hc).2⟩, fun e => a4.resolve_left fun q => q e, a5⟩
def pre_number_of : Pre := fun ds R o => ∃ i : Int, ds = [.str (tS i)] ∧ R = [] ∧ 0 ≤ i ∧ i ≤ 99 ∧ o = .ret (.int i)
theorem p_number_of {c : Ct} {G : Res} {ρ : En} {ta : TE} {i : Int} {E : XK} (ha : EvP c G ρ ta (.str (tS i))) (h0 : 0 ≤ i) (h1 : i ≤ 99) : EvP c G ρ (tCall (spD c.K pre_number_of) [] E (tCons ta tNil)) (.int i) :=
  p_call (a_cons ha a_nil) (R := []) (fun x hx => nomatch hx) ⟨i, rfl, rfl, h0, h1, rfl⟩
theorem ok_number_of {P : Program} {w : World} {K : PySem.W.Frag} {mg : Str → Option Value} {base : Heap} (T : Top K mg) : FnOk P w K mg base (L2N.CX P w) 1 T.a_number_of T.f_number_of ["figures"] (spD K pre_number_of) := by
  refine Ho.fnOkXN T.F_number_of sc_number_of (fun ds R o h => by obtain ⟨i, rfl, _⟩ := h; rfl) fun ds R o h cdv A outer sh H E hr => ?_
  obtain ⟨i, rfl, rfl, h0, h1, rfl⟩ := h
  have hn := num_ok h0 h1
  refine ⟨_, (pss_cons (ps_if (pt_not (pt_chain op_le op_le pe_int (pe_callB call_len_str (by rfl) T.m_len PySem.boot_len (pa_cons (pv 0) pa_nil)) pe_int))
  (pss_one (Ho.ps_raiseDN rfl (L2N.takes_of rfl rfl rfl rfl) (L2N.pmk_own PySem.F.excBase_ValueError T.x_BadLine T.g_BadLine T.k_BadLine (raises_own T.b_BadLine T.t_BadLine) rfl)))
  pss_nil)
  (pss_cons (ps_for (passes_of rfl) rfl (pi_str (pv 0)) (pg_name (i := 1) sc_number_of.nd rfl (Or.inl rfl))
  (pss_one (ps_if (pt_cmpR op_notin_str (pv 1) (pe_glob rfl T.h_FIGURES T.r_FIGURES) (by rfl))
  (pss_one (Ho.ps_raiseDN rfl (L2N.takes_of rfl rfl rfl rfl) (L2N.pmk_own PySem.F.excBase_ValueError T.x_BadLine T.g_BadLine T.k_BadLine (raises_own T.b_BadLine T.t_BadLine) rfl)))
  pss_nil)))
  (pss_cons (ps_if (PW.pt (pw_and (pt_cmpR op_eq (pe_callB call_len_str (by rfl) T.m_len PySem.boot_len (pa_cons (pv 0) pa_nil)) pe_int (nomark _)) (pw_and1 (pt_cmpR op_eq (pe_ix ix_str (pv 0) pe_int (fun _ _ => rfl)) pe_str (nomark _)))))
  (pss_one (Ho.ps_raiseDN rfl (L2N.takes_of rfl rfl rfl rfl) (L2N.pmk_own PySem.F.excBase_ValueError T.x_BadLine T.g_BadLine T.k_BadLine (raises_own T.b_BadLine T.t_BadLine) rfl)))
  pss_nil)
  (pss_one (ps_ret (pe_callTy call_int_str (by rfl) T.m_int PyProof.Rows.boot_int (pa_cons (pv 0) pa_nil))))))), fun F Q post => ?_⟩
  walk_at "go"
  generalize tS i = s at hn
  have hz : s.length ≤ 100000 := by have := hn.l2; omega
  apply sx_skip
  · refine EvT.is (t_not (t_test (p_chainI p_int (p_lenS (p_var rfl) hz) fun _ => p_int))) ?_
    have a := hn.l1
    have b := hn.l2
    have e1 : (1 : Int) ≤ (s.length : Int) := by omega
    have e2 : (s.length : Int) ≤ 2 := by omega
    rw [decide_eq_true e1, decide_eq_true e2]
    rfl
  refine sx_forU (us := s.cps.toList) (enc := fun k => D.str ⟨#[k]⟩) (gr := []) (fun _ => []) (fun _ => [some (.str s), none]) ?_ (fun x hx => nomatch hx) rfl ⟨rfl, trivial⟩ (fun j c hc S' hS => ?_) ?_
  · exact i_str (p_var rfl)
  · have hcm := (hn.fig c (List.mem_of_getElem? hc)).1
    walk_at "nrm"
    walk_at "last"
    walk_at "skip"
    · rw [hcm]; rfl
    walk_at "end"
    · rfl
    · walk_at "le"
  · obtain ⟨c, hc⟩ : ∃ c, s.cps.toList[0]? = some c := ⟨_, List.getElem?_eq_getElem (by rw [cps_len]; have := hn.l1; omega)⟩
    have hat : atI s.cps.toList 0 = some c := at_sign (i := 0) (by decide) (by simpa using hc)
    apply sx_skip
    · refine EvT.is (t_and (a := decide ((s.length : Int) = 2)) (b := decide ((⟨#[c]⟩ : Str) = ("0" : Str))) ?_ fun _ => ?_) ?_
      · walk_at "pv"
      · exact t_test (p_eqS (p_ixS (p_var rfl) p_int hz hat) p_str)
      · by_cases q : s.length = 2
        · have := hn.zero q
          rw [hc] at this
          have hne : ¬ (⟨#[c]⟩ : Str) = ("0" : Str) := by
            intro e
            have e0 : ("0" : Str) = sOf [48] := by decide +kernel
            rw [e0, sOf_one] at e
            have := sOf_inj.mp e
            simp at this
            subst this
            exact absurd rfl ‹_›
          rw [decide_eq_false hne, Bool.and_false]
        · have : ¬ (s.length : Int) = 2 := by omega
          rw [decide_eq_false this]
          rfl
    walk_at "last"
    apply sx_retE
    · exact post
    · exact p_intS (p_var rfl) hn.val (by have := hn.l2; omega)
    · rfl
local macro_rules | `(tactic| walk_at "pv") => `(tactic| ((with_reducible apply p_number_of) <;> (try walk_at "pv")))
theorem dot_kind : Builtin.Str.strKind ⟨#[46]⟩ = 1 := by decide +kernel
theorem blank_kind : Builtin.Str.strKind ⟨#[32]⟩ = 1 := by decide +kernel
theorem colon_kind : Builtin.Str.strKind ⟨#[58, 32]⟩ = 1 := by decide +kernel
theorem sep_dot : ("." : Str) = ⟨#[46]⟩ := by decide +kernel
theorem sep_blank : (" " : Str) = ⟨#[32]⟩ := by decide +kernel
theorem sep_colon : (": " : Str) = ⟨#[58, 32]⟩ := by decide +kernel
theorem word_join (s : Spot) : wordOf s = Txt.join ⟨#[46]⟩ [tS s.1, tS s.2] := by
  rw [word_eq, eq_of_beq (join_plain_closes (⟨#[46]⟩ : Str) [tS s.1, tS s.2]), sep_dot]
  rfl
theorem split_word {s : Spot} (h : SmallSp s) : Txt.split (wordOf s) ("." : Str) = [tS s.1, tS s.2] := by
  rw [word_join, sep_dot]
  refine split_join dot_kind (by simp) fun x hx => ?_
  rcases List.mem_cons.mp hx with rfl | hx
  · exact fun q => ((num_ok h.1 h.2.1).fig 46 q).2.1 rfl
  · rw [List.mem_singleton] at hx
    subst hx
    exact fun q => ((num_ok h.2.2.1 h.2.2.2).fig 46 q).2.1 rfl
theorem word_signs {s : Spot} (h : SmallSp s) : ∀ c ∈ (wordOf s).cps.toList, c ≠ 32 ∧ c ≠ 58 := by
  intro c hc
  rw [word_eq] at hc
  simp only [Str.cps_append, Array.toList_append, List.mem_append] at hc
  rcases hc with (hc | hc) | hc
  · exact ⟨((num_ok h.1 h.2.1).fig c hc).2.2.1, ((num_ok h.1 h.2.1).fig c hc).2.2.2⟩
  · rw [sep_dot] at hc
    have : c = 46 := by simpa using hc
    subst this
    exact ⟨by decide, by decide⟩
  · exact ⟨((num_ok h.2.2.1 h.2.2.2).fig c hc).2.2.1, ((num_ok h.2.2.1 h.2.2.2).fig c hc).2.2.2⟩
def pre_spot_of : Pre := fun ds R o => ∃ s : Spot, ds = [.str (wordOf s)] ∧ R = [] ∧ SmallSp s ∧ o = .ret (encSpot s)
theorem p_spot_of {c : Ct} {G : Res} {ρ : En} {ta : TE} {s : Spot} {E : XK} (ha : EvP c G ρ ta (.str (wordOf s))) (h : SmallSp s) : EvP c G ρ (tCall (spD c.K pre_spot_of) [] E (tCons ta tNil)) (encSpot s) :=
  p_call (a_cons ha a_nil) (R := []) (fun x hx => nomatch hx) ⟨s, rfl, rfl, h, rfl⟩
theorem ok_spot_of {P : Program} {w : World} {K : PySem.W.Frag} {mg : Str → Option Value} {base : Heap} (T : Top K mg) : FnOk P w K mg base (L2N.CX P w) 2 T.a_spot_of T.f_spot_of ["word"] (spD K pre_spot_of) := by
  refine Ho.fnOkXN T.F_spot_of sc_spot_of (fun ds R o h => by obtain ⟨s, rfl, _⟩ := h; rfl) fun ds R o h cdv A outer sh H E hr => ?_
  obtain ⟨s, rfl, rfl, h, rfl⟩ := h
  refine ⟨_, (pss_cons (ps_set (i := 1) sc_spot_of.nd rfl (Or.inl rfl) (pe_m1 PySem.F.slot_str_split PySem.F.type_str_split mt_split (pv 0) pe_str))
  (pss_cons (ps_if (pt_cmpR op_ne (pe_callB call_len_seq (by rfl) T.m_len PySem.boot_len (pa_cons (pv 1) pa_nil)) pe_int (nomark _))
  (pss_one (Ho.ps_raiseDN rfl (L2N.takes_of rfl rfl rfl rfl) (L2N.pmk_own PySem.F.excBase_ValueError T.x_BadLine T.g_BadLine T.k_BadLine (raises_own T.b_BadLine T.t_BadLine) rfl)))
  pss_nil)
  (pss_one (ps_ret (pe_tup (pa_cons (pe_call (ok_number_of T) (hr.mono (by decide)) (by rfl) T.g_number_of T.F_number_of.kp T.b_number_of .nil (Ho.pass_outN (L2N.takes_of rfl rfl rfl rfl)) (pa_cons (pe_ix ix_list (pv 1) pe_int (fun _ _ => rfl)) pa_nil)) (pa_cons (pe_call (ok_number_of T) (hr.mono (by decide)) (by rfl) T.g_number_of T.F_number_of.kp T.b_number_of .nil (Ho.pass_outN (L2N.takes_of rfl rfl rfl rfl)) (pa_cons (pe_ix ix_list (pv 1) pe_int (fun _ _ => rfl)) pa_nil)) pa_nil))))))), fun F Q post => ?_⟩
  walk_at "go"
  apply sx_asg (d := .lst [.str (tS s.1), .str (tS s.2)])
  · refine EvP.is (EvN.toP (n_split (p_var rfl) p_str (by decide +kernel) (by have := word_len h; omega))) ?_
    rw [split_word h]
    rfl
  walk_at "nrm"
  apply sx_skip
  · exact EvT.is (t_test (p_neI (p_lenL (ds := [.str (tS s.1), .str (tS s.2)]) (EvP.toS (p_var rfl))) p_int)) rfl
  walk_at "last"
  apply sx_retE (d := encSpot s)
  · exact post
  · exact p_spot (p_number_of (p_ixL (ds := [.str (tS s.1), .str (tS s.2)]) (EvP.toS (p_var rfl)) p_int at_0) h.1 h.2.1) (p_number_of (p_ixL (ds := [.str (tS s.1), .str (tS s.2)]) (EvP.toS (p_var rfl)) p_int at_1) h.2.2.1 h.2.2.2)
  · rfl
/-! a line -/
theorem join_signs_in {c0 : Nat} : ∀ {l : List Str}, (∀ s ∈ l, ∀ c ∈ s.cps.toList, c ≠ c0) → c0 ≠ 32 → ∀ c ∈ (Txt.join ⟨#[32]⟩ l).cps.toList, c ≠ c0 := by
  intro l h h0
  rw [eq_of_beq (join_plain_closes (⟨#[32]⟩ : Str) l)]
  induction l with
  | nil => exact fun c hc => nomatch hc
  | cons x r ih =>
    cases r with
    | nil => exact h x List.mem_cons_self
    | cons y r =>
      intro c hc
      have hc' : c ∈ ((x ++ (⟨#[32]⟩ : Str)) ++ Str.join ⟨#[32]⟩ (y :: r)).cps.toList := hc
      simp only [Str.cps_append, Array.toList_append, List.mem_append] at hc'
      rcases hc' with (hc' | hc') | hc'
      · exact h x List.mem_cons_self c hc'
      · have : c = 32 := by simpa using hc'
        subst this
        exact fun q => h0 q.symm
      · exact ih (fun s hs => h s (List.mem_cons_of_mem _ hs)) c hc'
theorem colon_not : nameSigns.all (fun c => decide (c ≠ 58)) = true := by decide +kernel
theorem split_line {n : Str} {sp : List Spot} (hn : GoodName n) (hs : ∀ s ∈ sp, SmallSp s) : Txt.split (lineOf n sp) (": " : Str) = [n, Txt.join (" " : Str) (sp.map wordOf)] := by
  have e : lineOf n sp = sOf (n.cps.toList ++ 58 :: 32 :: (Txt.join (" " : Str) (sp.map wordOf)).cps.toList) := by
    unfold lineOf
    rw [sep_colon, ← of_sOf (n ++ (⟨#[58, 32]⟩ : Str) ++ Txt.join (" " : Str) (sp.map wordOf))]
    simp only [Str.cps_append, Array.toList_append, List.append_assoc]
    rfl
  rw [e, sep_colon, split_two (by decide) colon_kind, of_sOf, of_sOf]
  · exact fun q => of_decide_eq_true (List.all_eq_true.mp colon_not 58 (hn.2.2 58 q)) rfl
  · rw [sep_blank]
    intro q
    refine join_signs_in (c0 := 58) (fun s hs2 c hc => ?_) (by decide) 58 q rfl
    obtain ⟨t, ht, rfl⟩ := List.mem_map.mp hs2
    exact (word_signs (hs t ht) c hc).2
theorem split_words {sp : List Spot} (h0 : sp ≠ []) (hs : ∀ s ∈ sp, SmallSp s) : Txt.split (Txt.join (" " : Str) (sp.map wordOf)) (" " : Str) = sp.map wordOf := by
  rw [sep_blank]
  refine split_join blank_kind (by simpa using h0) fun s hs2 q => ?_
  obtain ⟨t, ht, rfl⟩ := List.mem_map.mp hs2
  exact (word_signs (hs t ht) 32 q).1 rfl
theorem words_len {sp : List Spot} (hs : ∀ s ∈ sp, SmallSp s) : (Txt.join (" " : Str) (sp.map wordOf)).length ≤ 6 * sp.length := by
  have hj := join_len (" " : Str) (sp.map wordOf)
  have hsp : (" " : Str).length = 1 := by decide +kernel
  rw [hsp, List.length_map] at hj
  have hw : ((sp.map wordOf).map (·.length)).sum ≤ 5 * sp.length := by
    clear hj
    induction sp with
    | nil => simp
    | cons s l ih =>
      have a := word_len (hs s List.mem_cons_self)
      have b := ih fun x hx => hs x (List.mem_cons_of_mem _ hx)
      rw [List.map_cons, List.map_cons, List.sum_cons, List.length_cons]
      omega
  omega
/-- spots that rise -/
def Rising (sp : List Spot) : Prop := ∀ (i : Nat) a b, sp[i]? = some a → sp[i + 1]? = some b → SrtO.lexB a b = true
structure GrpOk (x : Gp) : Prop where
  nm : GoodName x.1
  ne : x.2 ≠ []
  len : x.2.length ≤ 2400
  sm : ∀ s ∈ x.2, SmallSp s
  up : Rising x.2
def pre_group_of : Pre := fun ds R o => ∃ x : Gp, ds = [.str (lineOf x.1 x.2)] ∧ R = [] ∧ GrpOk x ∧ o = .ret (encGp x)
theorem p_group_of {c : Ct} {G : Res} {ρ : En} {ta : TE} {x : Gp} {E : XK} (ha : EvP c G ρ ta (.str (lineOf x.1 x.2))) (h : GrpOk x) : EvP c G ρ (tCall (spD c.K pre_group_of) [] E (tCons ta tNil)) (encGp x) :=
  p_call (a_cons ha a_nil) (R := []) (fun x hx => nomatch hx) ⟨x, rfl, rfl, h, rfl⟩
theorem ok_group_of {P : Program} {w : World} {K : PySem.W.Frag} {mg : Str → Option Value} {base : Heap} (T : Top K mg) : FnOk P w K mg base (L2N.CX P w) 3 T.a_group_of T.f_group_of ["line"] (spD K pre_group_of) := by
  refine Ho.fnOkXN T.F_group_of sc_group_of (fun ds R o h => by obtain ⟨x, rfl, _⟩ := h; rfl) fun ds R o h cdv A outer sh H E hr => ?_
  obtain ⟨⟨n, sp⟩, rfl, rfl, h, rfl⟩ := h
  have hnm : GoodName n := h.nm
  have hne : sp ≠ [] := h.ne
  have hlen : sp.length ≤ 2400 := h.len
  have hsm : ∀ s ∈ sp, SmallSp s := h.sm
  have hup : Rising sp := h.up
  have hwl := words_len hsm
  have hll : (lineOf n sp).length ≤ 20000 := by
    have := hnm.2.1
    have hc2 : (": " : Str).length = 2 := by decide +kernel
    unfold lineOf
    rw [cat_len, cat_len]
    omega
  refine ⟨_, (pss_cons (ps_set (i := 1) sc_group_of.nd rfl (Or.inl rfl) (pe_m1 PySem.F.slot_str_split PySem.F.type_str_split mt_split (pv 0) (pe_glob rfl T.h_BEHIND_NAME T.r_BEHIND_NAME)))
  (pss_cons (ps_if (pt_cmpR op_ne (pe_callB call_len_seq (by rfl) T.m_len PySem.boot_len (pa_cons (pv 1) pa_nil)) pe_int (nomark _))
  (pss_one (Ho.ps_raiseDN rfl (L2N.takes_of rfl rfl rfl rfl) (L2N.pmk_own PySem.F.excBase_ValueError T.x_BadLine T.g_BadLine T.k_BadLine (raises_own T.b_BadLine T.t_BadLine) rfl)))
  pss_nil)
  (pss_cons (ps_asg (pv 1) (Dl.pg_lstD rfl (pgs_cons (pg_name (i := 2) sc_group_of.nd rfl (Or.inl rfl)) (pgs_cons (pg_name (i := 3) sc_group_of.nd rfl (Or.inl rfl)) pgs_nil))))
  (pss_cons (by exact (ps_setLc (i := 4) (own := [("word", 6)]) (g := (gName 6)) (tt := tYes) rfl sc_group_of.nd rfl rfl (sw_true rfl rfl rfl (by decide +kernel)) (by exact (pi_list (pe_m1 PySem.F.slot_str_split PySem.F.type_str_split mt_split (pv 3) pe_str))) (blkOk_by (N := ["line", "parts", "name", "words", "spots", "at", "word"]) (sc := defScope s_group_of) (by decide +kernel)) (fun _ _ _ _ _ => by exact (pg_name (i := 6) sc_group_of.nd rfl (Or.inl rfl))) (fun _ _ _ _ _ => by exact pts_nil) (fun _ _ _ _ _ => by exact (pe_call (ok_spot_of T) (hr.mono (by decide)) (by rfl) T.g_spot_of T.F_spot_of.kp T.b_spot_of .nil Ho.passLN (pa_cons (pv 6) pa_nil)))))
  (pss_cons (ps_for (passes_of rfl) rfl (pi_range2 (by rfl) T.m_range (pa_cons pe_int (pa_cons (pe_callB call_len_seq (by rfl) T.m_len PySem.boot_len (pa_cons (pv 4) pa_nil)) pa_nil))) (pg_name (i := 5) sc_group_of.nd rfl (Or.inl rfl))
  (pss_one (ps_if (pt_cmpR (Dl.op_geT hr.units0) (pe_ix ix_list (pv 4) (pe_op op_sub (pv 5) pe_int) (fun _ _ => rfl)) (pe_ix ix_list (pv 4) (pv 5) (fun _ _ => rfl)) (nomark _))
  (pss_one (Ho.ps_raiseDN rfl (L2N.takes_of rfl rfl rfl rfl) (L2N.pmk_own PySem.F.excBase_ValueError T.x_BadLine T.g_BadLine T.k_BadLine (raises_own T.b_BadLine T.t_BadLine) rfl)))
  pss_nil)))
  (pss_one (ps_ret (pe_tup (pa_cons (pv 2) (pa_cons (pv 4) pa_nil)))))))))), fun F Q post => ?_⟩
  walk_at "go"
  apply sx_asg (d := .lst [.str n, .str (Txt.join (" " : Str) (sp.map wordOf))])
  · refine EvP.is (EvN.toP (n_split (p_var rfl) p_str (by decide +kernel) (by omega))) ?_
    rw [split_line hnm hsm]
    rfl
  walk_at "nrm"
  apply sx_skip
  · exact EvT.is (t_test (p_neI (p_lenL (ds := [.str n, .str (Txt.join (" " : Str) (sp.map wordOf))]) (EvP.toS (p_var rfl))) p_int)) rfl
  apply sx_asgT
  · exact p_var rfl
  · exact g_lst (g_cons g_name (g_cons g_name g_nil)) rfl
  walk_at "nrm"
  apply sx_asg (d := .lst (sp.map encSpot))
  · apply EvN.toP
    apply n_map (g := []) (us := sp) (enc := fun s => D.str (wordOf s)) (f := encSpot)
    · have e : (Txt.split (Txt.join (" " : Str) (sp.map wordOf)) (" " : Str)).map D.str = sp.map fun s => D.str (wordOf s) := by
        rw [split_words hne hsm, List.map_map]
        rfl
      rw [← e]
      exact i_list (EvN.toP (n_split (p_var rfl) p_str (by decide +kernel) (by omega)))
    · exact fun x hx => nomatch hx
    · intro u hu
      exact g_name
    · decide
    · intro u hu
      exact p_spot_of (p_var rfl) (hsm u hu)
    · omega
  walk_at "nrm"
  refine sx_forR (lo := 1) (n := (((sp.map encSpot).length : Int) - 1).toNat) (fun _ => []) (fun _ => [some (.str (lineOf n sp)), some (.lst [.str n, .str (Txt.join (" " : Str) (sp.map wordOf))]), some (.str n), some (.str (Txt.join (" " : Str) (sp.map wordOf))), some (.lst (sp.map encSpot)), none, none]) ?_ rfl ⟨rfl, rfl, rfl, rfl, rfl, trivial⟩ (fun i hi S' hS => ?_) ?_
  · apply i_range2
    · exact a_cons p_int (a_cons (p_lenL (ds := sp.map encSpot) (EvP.toS (p_var rfl))) a_nil)
    · rw [List.length_map]
      omega
  · rw [List.length_map] at hi
    obtain ⟨a, ha⟩ : ∃ a, sp[i]? = some a := ⟨_, List.getElem?_eq_getElem (by omega)⟩
    obtain ⟨b, hb⟩ : ∃ b, sp[i + 1]? = some b := ⟨_, List.getElem?_eq_getElem (by omega)⟩
    have hab := hup i a b ha hb
    walk_at "nrm"
    walk_at "last"
    apply sx_skip
    · refine EvT.is (t_test (p_geT (s := a) (t := b) (p_ixL (ds := sp.map encSpot) (i := (1 + (i : Int)) - 1) (EvP.toS (p_var rfl)) (p_opI (p_var rfl) p_int) (at_m (f := encSpot) (by omega) (by rw [show ((1 + (i : Int)) - 1).toNat = i by omega]; exact ha))) (p_ixL (ds := sp.map encSpot) (EvP.toS (p_var rfl)) (p_var rfl) (at_m (f := encSpot) (by omega) (by rw [show (1 + (i : Int)).toNat = i + 1 by omega]; exact hb))))) ?_
      rw [hab]
      rfl
    walk_at "end"
    · rfl
    · exact ⟨rfl, rfl, rfl, rfl, rfl, trivial⟩
  · walk_at "last"
    apply sx_retE (d := encGp (n, sp))
    · exact post
    · exact p_tup (ds := [.str n, .lst (sp.map encSpot)]) (a_cons (p_var rfl) (a_cons (p_var rfl) a_nil)) (by simp)
    · rfl
/-! ### a plan as it was written -/
theorem putA_keys {α β : Type} [DecidableEq α] {l : List (α × β)} {k x : α} {v : β} (h : x ∈ (putA l k v).map (·.1)) : x ∈ l.map (·.1) ∨ x = k := by
  unfold putA at h
  split at h
  · rw [List.map_map] at h
    obtain ⟨e, he, q⟩ := List.mem_map.mp h
    refine .inl (List.mem_map.mpr ⟨e, he, ?_⟩)
    rw [← q]
    show e.1 = (if e.1 = k then (e.1, v) else e).1
    split <;> rfl
  · rw [List.map_append, List.mem_append] at h
    rcases h with h | h
    · exact .inl h
    · exact .inr (by simpa using h)
theorem put_keys {ss : List Spot} {n : Str} : ∀ {td : TD} {x : Spot}, x ∈ (ss.foldl (fun td s => putA td s n) td).map (·.1) → x ∈ td.map (·.1) ∨ x ∈ ss := by
  induction ss with
  | nil => exact fun h => .inl h
  | cons s ss ih =>
    intro td x h
    rcases ih h with h | h
    · rcases putA_keys h with h | h
      · exact .inl h
      · exact .inr (by rw [h]; exact List.mem_cons_self)
    · exact .inr (List.mem_cons_of_mem _ h)
theorem taken_keys {gs : List Gp} : ∀ {td : TD} {x : Spot}, x ∈ (gs.foldl (fun td g => g.2.foldl (fun td s => putA td s g.1) td) td).map (·.1) → x ∈ td.map (·.1) ∨ ∃ g ∈ gs, x ∈ g.2 := by
  induction gs with
  | nil => exact fun h => .inl h
  | cons g gs ih =>
    intro td x h
    rcases ih h with h | ⟨y, hy, h⟩
    · rcases put_keys h with h | h
      · exact .inl h
      · exact .inr ⟨g, List.mem_cons_self, h⟩
    · exact .inr ⟨y, List.mem_cons_of_mem _ hy, h⟩
theorem not_taken {gs : List Gp} {s : Spot} (h : ∀ g ∈ gs, s ∉ g.2) : valA (takenOf gs) s = none := valA_none.mpr fun q => by
  rcases taken_keys q with q | ⟨g, hg, q⟩
  · simp at q
  · exact h g hg q
/-- groups that can be written and read -/
structure ReadOk (rows : List Str) (h : List Gp) : Prop where
  hall : GoodHall rows
  ok : ∀ x ∈ h, GrpOk x
  nd : (namesOf h).Nodup
  seat : ∀ x ∈ h, ∀ s ∈ x.2, seatS rows s = true
  apart : h.Pairwise fun x y => ∀ s ∈ y.2, s ∉ x.2
  len : h.length ≤ 5000
def pre_read (C : Addr) : PreM := fun ds R M W => ∃ (rows : List Str) (h : List Gp), ds = [.lst (rows.map D.str), .lst ((h.map fun x => lineOf x.1 x.2).map D.str)] ∧ R = [] ∧ M = [] ∧ ReadOk rows h ∧ W = fun o M' => ∃ g d, o = .ret (planD C rows g d) ∧ M' = [(g, .lst (h.map encGp)), (d, .lst [])]
theorem names_take {h : List Gp} (hn : (namesOf h).Nodup) {i : Nat} {x : Gp} (hx : h[i]? = some x) : x.1 ∉ namesOf (h.take i) := by
  intro q
  obtain ⟨k, hk⟩ := List.mem_iff_getElem?.mp q
  unfold namesOf at hk
  have hki : k < i := by
    have := (List.getElem?_eq_some_iff.mp hk).1
    rw [List.length_map, List.length_take] at this
    omega
  rw [List.getElem?_map, List.getElem?_take, if_pos hki] at hk
  have h1 : (namesOf h)[k]? = some x.1 := by unfold namesOf; rw [List.getElem?_map]; exact hk
  exact (names_at hn hx).2 k hki h1
theorem apart_take {h : List Gp} (hp : h.Pairwise fun x y => ∀ s ∈ y.2, s ∉ x.2) {i : Nat} {x : Gp} (hx : h[i]? = some x) : ∀ s ∈ x.2, ∀ y ∈ h.take i, s ∉ y.2 := by
  intro s hs y hy
  have hil := (List.getElem?_eq_some_iff.mp hx).1
  have e : h = h.take i ++ x :: h.drop (i + 1) := by
    have a2 := (List.getElem?_eq_some_iff.mp hx).2
    rw [← a2, ← List.drop_eq_getElem_cons hil, List.take_append_drop]
  rw [e, List.pairwise_append] at hp
  exact hp.2.2 y hy x List.mem_cons_self s hs
theorem ok_read {P : Program} {w : World} {K : PySem.W.Frag} {mg : Str → Option Value} {base : Heap} (T : Top K mg) : FnOk P w K mg base (L2N.CX P w) 5 T.a_read T.f_read ["rows", "lines"] (spM K (pre_read T.a_Plan)) := by
  refine Ho.fnOkMXN T.F_read sc_read (fun ds R M W q => by
    obtain ⟨rows, h, rfl, rfl, rfl, _, rfl⟩ := q
    exact ⟨rfl, fun o M' hw y hy => nomatch hy⟩) fun ds R M W q cdv A outer sh H E hr => ?_
  obtain ⟨rows, h, rfl, rfl, rfl, ok, rfl⟩ := q
  have hshort := ok.hall.short
  have h100 : rows.length ≤ 100 := by have := ok.hall.2.1; omega
  have hlen := ok.len
  refine ⟨_, (pss_cons (ps_set (i := 2) sc_read.nd rfl (Or.inl rfl) (pe_make T.mk_Plan (ok_Plan__init T) (hr.mono (by decide)) (by rfl) T.g_Plan T.b_Plan__init .nil (Ho.pass_outN (L2N.takes_of rfl rfl rfl rfl)) (pa_cons (pv 0) pa_nil)))
  (pss_cons (ps_for (passes_of rfl) rfl (pi_list (pv 1)) (pg_name (i := 3) sc_read.nd rfl (Or.inl rfl))
  (pss_cons (ps_asg (pe_call (ok_group_of T) (hr.mono (by decide)) (by rfl) T.g_group_of T.F_group_of.kp T.b_group_of .nil (Ho.pass_outN (L2N.takes_of rfl rfl rfl rfl)) (pa_cons (pv 3) pa_nil)) (pg_tup rfl (pgs_cons (pg_name (i := 4) sc_read.nd rfl (Or.inl rfl)) (pgs_cons (pg_name (i := 5) sc_read.nd rfl (Or.inl rfl)) pgs_nil))))
  (pss_one (ps_expr (pe_meth (pv 2) T.c_Plan T.me_Plan_settle (ok_Plan_settle T) (hr.mono (by decide)) T.b_Plan_settle .nil (Ho.pass_outN (L2N.takes_of rfl rfl rfl rfl)) (pa_cons (pv 4) (pa_cons (pv 5) pa_nil)))))))
  (pss_one (ps_ret (pv 2))))), fun B F Q ways => ?_⟩
  walk_at "go"
  apply sx_plan (rows := rows)
  · exact (by decide : 2 < 6)
  · exact p_var rfl
  · exact ok.hall
  intro g d
  walk_at "nrm"
  refine sx_forU (us := h) (enc := fun x => D.str (lineOf x.1 x.2)) (gr := []) (fun i => [(g, .lst ((h.take i).map encGp)), (d, .lst [])]) (fun i => [some (.lst (rows.map D.str)), some (.lst ((h.map fun x => lineOf x.1 x.2).map D.str)), some (planD T.a_Plan rows g d), none, none, none]) ?_ (fun x hx => nomatch hx) rfl ⟨rfl, rfl, rfl, trivial⟩ (fun i x hx S' hS => ?_) ?_
  · have e : (h.map fun x => lineOf x.1 x.2).map D.str = h.map fun x => D.str (lineOf x.1 x.2) := by rw [List.map_map]; rfl
    rw [← e]
    exact i_list (p_var rfl)
  · have hxm := List.mem_of_getElem? hx
    have gk := ok.ok x hxm
    have e1 : h.take (i + 1) = h.take i ++ [(x.1, x.2)] := by rw [List.take_add_one, hx]; rfl
    rw [e1]
    walk_at "nrm"
    apply sx_asgT
    · exact p_group_of (p_var rfl) gk
    · exact g_tupE (ds := [.str x.1, .lst (x.2.map encSpot)]) rfl (g_cons g_name (g_cons g_name g_nil)) rfl
    walk_at "nrm"
    walk_at "last"
    apply sx_dropM (d := .non) (G' := [(g, .lst ((h.take i ++ [(x.1, x.2)]).map encGp)), (d, .lst [])])
    · refine m_meth (A0 := []) (B0 := [(d, .lst [])]) (M := [(g, .lst ((h.take i).map encGp))]) rfl rfl (p_var rfl) meth_settle (a_cons (p_var rfl) (a_cons (p_var rfl) a_nil)) (R := []) (fun x hx => nomatch hx) ⟨rows, g, d, h.take i, x.1, x.2, rfl, rfl, rfl, hshort, h100, by rw [List.length_take]; omega, fun y hy => (ok.ok y (List.mem_of_mem_take hy)).len, gk.nm, names_take ok.nd hx, gk.len, fun s hs => ⟨ok.seat x hxm s hs, not_taken fun y hy => apart_take ok.apart hx s hs y hy⟩, rfl⟩
    walk_at "end"
    · rfl
    · exact ⟨rfl, rfl, rfl, trivial⟩
  · rw [List.take_length]
    walk_at "last"
    exact sx_retP (d := planD T.a_Plan rows g d) (p_var rfl) fun v F' H' A r => ways.rt _ _ ⟨g, d, rfl, rfl⟩ v F' H' A r
/-- plan = read(rows, lines) -/
theorem sx_read {c : Ct} {G : Res} {ρ : En} {tr : TA} {tz : TS} {E : Ends} {E1 : XK} {C : Addr} {rows : List Str} {h : List Gp} {i : Nat} (ha : EvA c G ρ tr [.lst (rows.map D.str), .lst ((h.map fun x => lineOf x.1 x.2).map D.str)]) (ok : ReadOk rows h)
    (q : ∀ g d, Sx c ((g, .lst (h.map encGp)) :: (d, .lst []) :: G) (ρ.set i (some (planD C rows g d))) tz E) : Sx c G ρ (tSeq (tAsg (tCall (spM c.K (pre_read C)) [] E1 tr) (gName i)) tz) E := fun F σ H A => ha F σ H A _ fun vs F1 H1 g1 r1 => by
  show spM c.K (pre_read C) (vs ++ []) H1 _ _
  rw [List.append_nil]
  have A1 := A.on g1
  refine c_outM (A0 := []) (M := []) (B0 := G) (R := []) (ρ := ρ) (c := c) A1 r1 (fun x hx => nomatch hx) ⟨rows, h, rfl, rfl, rfl, ok, rfl⟩ ⟨fun d M' hw v F' H' g o r => ?_, fun X M' hw => ?_⟩
  · obtain ⟨g', d', e1, rfl⟩ := hw
    cases e1
    have A3 := A1.callM (A0 := []) (M := []) (B0 := G) g o
    exact q g' d' F' _ H' (At.set A3 r)
  · obtain ⟨_, _, e1, _⟩ := hw
    cases e1

/-! ### names without two alike -/
theorem nodup_le {l m : List Str} (hn : l.Nodup) (hs : ∀ x ∈ l, x ∈ m) : l.length ≤ m.length := by
  induction l generalizing m with
  | nil => exact Nat.zero_le _
  | cons x l ih =>
    rw [List.nodup_cons] at hn
    have h1 := hs x List.mem_cons_self
    have h2 := ih (m := m.erase x) hn.2 fun y hy => (List.mem_erase_of_ne (fun (e : y = x) => hn.1 (by rw [← e]; exact hy))).mpr (hs y (List.mem_cons_of_mem _ hy))
    have h3 := List.length_erase_of_mem h1
    have h4 := List.length_pos_of_mem h1
    rw [List.length_cons]
    omega

/-! ### who holds what, by a number -/
def addTo : List Gp → Str → Spot → List Gp
  | [], nm, s => [(nm, [s])]
  | g :: h, nm, s => if g.1 = nm then (g.1, g.2 ++ [s]) :: h else g :: addTo h nm s
theorem addTo_new {nm : Str} {s : Spot} : ∀ {h : List Gp}, nm ∉ namesOf h → addTo h nm s = h ++ [(nm, [s])]
  | [], _ => rfl
  | g :: h, q => by
    have q1 : ¬ g.1 = nm := fun e => q (List.mem_cons.mpr (.inl e.symm))
    show (if g.1 = nm then _ else g :: addTo h nm s) = _
    rw [if_neg q1, addTo_new fun z => q (List.mem_cons_of_mem _ z)]
    rfl
theorem addTo_at {nm : Str} {s : Spot} : ∀ {h : List Gp} {j : Nat} {g : Gp}, (namesOf h).Nodup → h[j]? = some g → g.1 = nm → addTo h nm s = h.set j (nm, g.2 ++ [s])
  | [], _, _, _, e, _ => by simp at e
  | x :: h, 0, g, _, e, q => by
    simp at e
    subst e
    show (if x.1 = nm then _ else _) = _
    rw [if_pos q, q]
    rfl
  | x :: h, j + 1, g, hn, e, q => by
    have hn' : (x.1 :: namesOf h).Nodup := hn
    rw [List.nodup_cons] at hn'
    have e' : h[j]? = some g := by simpa using e
    have q1 : ¬ x.1 = nm := fun z => hn'.1 (List.mem_map.mpr ⟨g, List.mem_of_getElem? e', q.trans z.symm⟩)
    show (if x.1 = nm then _ else x :: addTo h nm s) = _
    rw [if_neg q1, addTo_at hn'.2 e' q]
    rfl
theorem addTo_mem {nm : Str} {s : Spot} : ∀ {h : List Gp} {x : Gp}, x ∈ addTo h nm s → x ∈ h ∨ x = (nm, [s]) ∨ ∃ g ∈ h, g.1 = nm ∧ x = (g.1, g.2 ++ [s])
  | [], x, hx => by
    have : x ∈ [(nm, [s])] := hx
    rw [List.mem_singleton] at this
    exact .inr (.inl this)
  | g :: h, x, hx => by
    have hx' : x ∈ (if g.1 = nm then (g.1, g.2 ++ [s]) :: h else g :: addTo h nm s) := hx
    split at hx'
    · rename_i q
      rcases List.mem_cons.mp hx' with e | e
      · exact .inr (.inr ⟨g, List.mem_cons_self, q, e⟩)
      · exact .inl (List.mem_cons_of_mem _ e)
    · rcases List.mem_cons.mp hx' with e | e
      · exact .inl (e ▸ List.mem_cons_self)
      · rcases addTo_mem e with k | k | ⟨y, hy, k⟩
        · exact .inl (List.mem_cons_of_mem _ k)
        · exact .inr (.inl k)
        · exact .inr (.inr ⟨y, List.mem_cons_of_mem _ hy, k⟩)
theorem addTo_names {nm : Str} {s : Spot} : ∀ {h : List Gp}, namesOf (addTo h nm s) = if nm ∈ namesOf h then namesOf h else namesOf h ++ [nm]
  | [] => rfl
  | g :: h => by
    show namesOf (if g.1 = nm then (g.1, g.2 ++ [s]) :: h else g :: addTo h nm s) = if nm ∈ g.1 :: namesOf h then g.1 :: namesOf h else g.1 :: namesOf h ++ [nm]
    by_cases q : g.1 = nm
    · rw [if_pos q, if_pos (List.mem_cons.mpr (.inl q.symm))]
      rfl
    · rw [if_neg q]
      show g.1 :: namesOf (addTo h nm s) = _
      rw [addTo_names]
      by_cases z : nm ∈ namesOf h
      · rw [if_pos z, if_pos (List.mem_cons_of_mem _ z)]
      · rw [if_neg z, if_neg (fun y => z ((List.mem_cons.mp y).resolve_left fun e => q e.symm))]
        rfl
/-- apart from one another -/
def Apart (h : List Gp) : Prop := ∀ x ∈ h, ∀ y ∈ h, ∀ s ∈ x.2, s ∈ y.2 → x.1 = y.1
structure HbI (rows : List Str) (names : List Str) (h : List Gp) (m : Nat) (b : Spot) : Prop where
  nd : (namesOf h).Nodup
  nm : ∀ g ∈ h, g.1 ∈ names
  ne : ∀ g ∈ h, g.2 ≠ []
  sp : ∀ g ∈ h, ∀ s ∈ g.2, seatS rows s = true ∧ SmallSp s ∧ SrtO.lexB s b = true
  up : ∀ g ∈ h, Rising g.2
  ap : Apart h
  len : ∀ g ∈ h, g.2.length ≤ m
theorem lex_to {s b b' : Spot} (h : SrtO.lexB s b = true) (k : b.1 < b'.1 ∨ (b.1 = b'.1 ∧ b.2 ≤ b'.2)) : SrtO.lexB s b' = true := by
  have := SrtO.lexB_iff.mp h
  exact SrtO.lexB_iff.mpr (by omega)
theorem HbI.to {rows names : List Str} {h : List Gp} {m m' : Nat} {b b' : Spot} (i : HbI rows names h m b) (k : b.1 < b'.1 ∨ (b.1 = b'.1 ∧ b.2 ≤ b'.2)) (hm : m ≤ m') : HbI rows names h m' b' :=
  ⟨i.nd, i.nm, i.ne, fun g hg s hs => let ⟨a, b, c⟩ := i.sp g hg s hs; ⟨a, b, lex_to c k⟩, i.up, i.ap, fun g hg => Nat.le_trans (i.len g hg) hm⟩
theorem lex_irr {s : Spot} : ¬ SrtO.lexB s s = true := fun h => by
  have := SrtO.lexB_iff.mp h
  omega
theorem rising_snoc {sp : List Spot} {b : Spot} (h : Rising sp) (k : ∀ s ∈ sp, SrtO.lexB s b = true) : Rising (sp ++ [b]) := by
  intro i x y hx hy
  by_cases q : i + 1 < sp.length
  · rw [List.getElem?_append_left (by omega)] at hx
    rw [List.getElem?_append_left q] at hy
    exact h i x y hx hy
  · by_cases q2 : i < sp.length
    · rw [List.getElem?_append_left q2] at hx
      have e : i + 1 = sp.length := by omega
      rw [e, List.getElem?_append_right (Nat.le_refl _), Nat.sub_self] at hy
      have : b = y := by simpa using hy
      subst this
      exact k x (List.mem_of_getElem? hx)
    · rw [List.getElem?_append_right (by omega), List.getElem?_eq_none (by simp; omega)] at hy
      cases hy
theorem HbI.add {rows names : List Str} {h : List Gp} {m : Nat} {b b' : Spot} {nm : Str} (i : HbI rows names h m b) (hn : nm ∈ names) (hs : seatS rows b = true) (hsm : SmallSp b) (k : b.1 < b'.1 ∨ (b.1 = b'.1 ∧ b.2 < b'.2)) : HbI rows names (addTo h nm b) (m + 1) b' := by
  have hb : SrtO.lexB b b' = true := SrtO.lexB_iff.mpr (by omega)
  have hk : b.1 < b'.1 ∨ (b.1 = b'.1 ∧ b.2 ≤ b'.2) := by omega
  have hnew : ∀ g ∈ h, b ∉ g.2 := fun g hg q => lex_irr (i.sp g hg b q).2.2
  refine ⟨?_, fun x hx => ?_, fun x hx => ?_, fun x hx s hs2 => ?_, fun x hx => ?_, fun x hx y hy s h1 h2 => ?_, fun x hx => ?_⟩
  · rw [addTo_names]
    split
    · exact i.nd
    · rename_i q
      rw [List.nodup_append]
      refine ⟨i.nd, by simp, fun a ha c hc z => ?_⟩
      have : c = nm := by simpa using hc
      rw [z, this] at ha
      exact q ha
  · rcases addTo_mem hx with q | q | ⟨g, hg, q, rfl⟩
    · exact i.nm x q
    · rw [q]; exact hn
    · exact i.nm g hg
  · rcases addTo_mem hx with q | q | ⟨g, hg, q, rfl⟩
    · exact i.ne x q
    · rw [q]; simp
    · simp
  · rcases addTo_mem hx with q | q | ⟨g, hg, q, rfl⟩
    · obtain ⟨a1, a2, a3⟩ := i.sp x q s hs2
      exact ⟨a1, a2, lex_to a3 hk⟩
    · rw [q] at hs2
      have : s = b := by simpa using hs2
      subst this
      exact ⟨hs, hsm, hb⟩
    · rcases List.mem_append.mp hs2 with z | z
      · obtain ⟨a1, a2, a3⟩ := i.sp g hg s z
        exact ⟨a1, a2, lex_to a3 hk⟩
      · have : s = b := by simpa using z
        subst this
        exact ⟨hs, hsm, hb⟩
  · rcases addTo_mem hx with q | q | ⟨g, hg, q, rfl⟩
    · exact i.up x q
    · rw [q]
      intro j u v h1 h2
      simp at h2
    · exact rising_snoc (i.up g hg) fun s hs2 => (i.sp g hg s hs2).2.2
  · have key : ∀ x ∈ addTo h nm b, ∀ s ∈ x.2, (s = b ∧ x.1 = nm) ∨ (∃ g ∈ h, g.1 = x.1 ∧ s ∈ g.2) := fun x hx s hs2 => by
      rcases addTo_mem hx with q | q | ⟨g, hg, q, rfl⟩
      · exact .inr ⟨x, q, rfl, hs2⟩
      · rw [q] at hs2 ⊢
        exact .inl ⟨by simpa using hs2, rfl⟩
      · rcases List.mem_append.mp hs2 with z | z
        · exact .inr ⟨g, hg, rfl, z⟩
        · exact .inl ⟨by simpa using z, q⟩
    rcases key x hx s h1 with ⟨e1, e2⟩ | ⟨g, hg, e1, e2⟩
    · rcases key y hy s h2 with ⟨e3, e4⟩ | ⟨g', hg', e3, e4⟩
      · rw [e2, e4]
      · rw [e1] at e4
        exact absurd e4 (hnew g' hg')
    · rcases key y hy s h2 with ⟨e3, e4⟩ | ⟨g', hg', e3, e4⟩
      · rw [e3] at e2
        exact absurd e2 (hnew g hg)
      · rw [← e1, ← e3]
        exact i.ap g hg g' hg' s e2 e4
  · rcases addTo_mem hx with q | q | ⟨g, hg, q, rfl⟩
    · have := i.len x q; omega
    · rw [q]; simp
    · have := i.len g hg
      rw [List.length_append]
      simp
      omega
def whoN (n : Int) (m : Nat) : Nat := ((n + 31 * ((m : Int) / (1 + n % 6))) * 48271 % 10007 % (1 + n / 6 % 9)).toNat
def hbCell (names : List Str) (n : Int) (s : Str) (r j : Nat) (st : List Gp × Nat) : List Gp × Nat :=
  if seatP s j then ((match names[whoN n st.2]? with | some nm => addTo st.1 nm ((r : Int), (j : Int)) | none => st.1), st.2 + 1) else st
def hbUp (names : List Str) (n : Int) (s : Str) (r : Nat) (st : List Gp × Nat) : Nat → List Gp × Nat
  | 0 => st
  | j + 1 => hbCell names n s r j (hbUp names n s r st j)
def hbAll (names : List Str) (n : Int) (rows : List Str) : Nat → List Gp × Nat
  | 0 => ([], 0)
  | i + 1 => hbUp names n (rows.getD i "") i (hbAll names n rows i) (rows.getD i "").length
theorem getD_at {rows : List Str} {i : Nat} {s : Str} (h : rows[i]? = some s) : rows.getD i "" = s := by rw [List.getD_eq_getElem?_getD, h]; rfl
theorem hbUp_inv {rows names : List Str} (hg : GoodHall rows) {n : Int} {i : Nat} {s : Str} (hs : rows[i]? = some s) {st : List Gp × Nat} (h0 : HbI rows names st.1 st.2 ((i : Int), 0)) (hm : st.2 ≤ 60 * i) : ∀ j, j ≤ s.length → HbI rows names (hbUp names n s i st j).1 (hbUp names n s i st j).2 ((i : Int), (j : Int)) ∧ (hbUp names n s i st j).2 ≤ 60 * i + j
  | 0, _ => ⟨h0, by show st.2 ≤ _; omega⟩
  | j + 1, hj => by
    obtain ⟨h1, h2⟩ := hbUp_inv hg (n := n) hs h0 hm j (by omega)
    have hil := (List.getElem?_eq_some_iff.mp hs).1
    have h40 := hg.2.1
    have h60 := (hg.2.2 s (List.mem_of_getElem? hs)).1
    show HbI rows names (hbCell names n s i j (hbUp names n s i st j)).1 (hbCell names n s i j (hbUp names n s i st j)).2 ((i : Int), ((j + 1 : Nat) : Int)) ∧ (hbCell names n s i j (hbUp names n s i st j)).2 ≤ 60 * i + (j + 1)
    generalize hbUp names n s i st j = u at h1 h2
    have hsm : SmallSp ((i : Int), (j : Int)) := ⟨by show (0 : Int) ≤ (i : Int); omega, by show (i : Int) ≤ 99; omega, by show (0 : Int) ≤ (j : Int); omega, by show (j : Int) ≤ 99; omega⟩
    unfold hbCell
    by_cases q : seatP s j = true
    · rw [if_pos q]
      have hst : seatS rows ((i : Int), (j : Int)) = true := by
        show isSeat rows (i : Int) (j : Int) = true
        rw [isSeat_nat hs]
        exact q
      cases hw : names[whoN n u.2]? with
      | none => exact ⟨h1.to (.inr ⟨rfl, by show (j : Int) ≤ ((j + 1 : Nat) : Int); omega⟩) (Nat.le_succ _), by show u.2 + 1 ≤ _; omega⟩
      | some nm => exact ⟨h1.add (List.mem_of_getElem? hw) hst hsm (.inr ⟨rfl, by show (j : Int) < ((j + 1 : Nat) : Int); omega⟩), by show u.2 + 1 ≤ _; omega⟩
    · rw [if_neg q]
      exact ⟨h1.to (.inr ⟨rfl, by show (j : Int) ≤ ((j + 1 : Nat) : Int); omega⟩) (Nat.le_refl _), by omega⟩
theorem hbAll_inv {rows names : List Str} (hg : GoodHall rows) {n : Int} : ∀ i, i ≤ rows.length → HbI rows names (hbAll names n rows i).1 (hbAll names n rows i).2 ((i : Int), 0) ∧ (hbAll names n rows i).2 ≤ 60 * i
  | 0, _ => ⟨⟨List.nodup_nil, fun g hg => (nomatch hg), fun g hg => (nomatch hg), fun g hg => (nomatch hg), fun g hg => (nomatch hg), fun g hg => (nomatch hg), fun g hg => (nomatch hg)⟩, Nat.le_refl _⟩
  | i + 1, hi => by
    obtain ⟨h1, h2⟩ := hbAll_inv hg (n := n) i (by omega)
    obtain ⟨s, hs⟩ : ∃ s, rows[i]? = some s := ⟨_, List.getElem?_eq_getElem (by omega)⟩
    have h60 := (hg.2.2 s (List.mem_of_getElem? hs)).1
    show HbI rows names (hbUp names n (rows.getD i "") i (hbAll names n rows i) (rows.getD i "").length).1 (hbUp names n (rows.getD i "") i (hbAll names n rows i) (rows.getD i "").length).2 (((i + 1 : Nat) : Int), 0) ∧ (hbUp names n (rows.getD i "") i (hbAll names n rows i) (rows.getD i "").length).2 ≤ 60 * (i + 1)
    rw [getD_at hs]
    obtain ⟨h3, h4⟩ := hbUp_inv hg (n := n) hs h1 h2 s.length (Nat.le_refl _)
    exact ⟨h3.to (.inl (by show (i : Int) < ((i + 1 : Nat) : Int); omega)) (Nat.le_refl _), by omega⟩
/-! the table in its turned order -/
def spotsFor (h : List Gp) (nm : Str) : List Spot := (valA (h.map fun g => (g.1, g.2)) nm).getD []
theorem spots_for {h : List Gp} (hn : (namesOf h).Nodup) {g : Gp} (hg : g ∈ h) : spotsFor h g.1 = g.2 := by
  unfold spotsFor
  rw [valA_of_mem (v := g.2) (by rw [List.map_map]; exact hn) (List.mem_map.mpr ⟨g, hg, rfl⟩)]
  rfl
def pick (h : List Gp) (ns : List Str) : List Gp := (ns.filter fun nm => decide (nm ∈ namesOf h)).map fun nm => (nm, spotsFor h nm)
theorem pick_mem {h : List Gp} (hn : (namesOf h).Nodup) {ns : List Str} {x : Gp} (hx : x ∈ pick h ns) : x ∈ h ∧ x.1 ∈ ns := by
  obtain ⟨nm, hm, rfl⟩ := List.mem_map.mp hx
  obtain ⟨h1, h2⟩ := List.mem_filter.mp hm
  obtain ⟨g, hg, e⟩ := List.mem_map.mp (of_decide_eq_true h2)
  have e' : g.1 = nm := e
  subst e'
  rw [spots_for hn hg]
  exact ⟨hg, h1⟩
theorem pick_names {h : List Gp} {ns : List Str} : namesOf (pick h ns) = ns.filter fun nm => decide (nm ∈ namesOf h) := by
  unfold pick namesOf
  rw [List.map_map]
  exact List.map_id _
def turnedBy (names : List Str) (n : Int) : List Str := names.drop (n % (if (names.length : Int) > 1 then (names.length : Int) else 1)).toNat
def turnOf (names : List Str) (n : Int) : List Str := turnedBy names n ++ names.take (n % (if (names.length : Int) > 1 then (names.length : Int) else 1)).toNat
def heldBy8 (rows names : List Str) (n : Int) : List Gp := pick (hbAll names n rows rows.length).1 (turnOf names n)
theorem putA_same {l : KD} {k : Str} {v : D} (h : valA l k = some v) (hn : (l.map (·.1)).Nodup) : putA l k v = l := by
  unfold putA
  rw [if_pos (by rw [h]; rfl)]
  have : ∀ e ∈ l, (if e.1 = k then (e.1, v) else e) = e := fun e he => by
    split
    · rename_i q
      have h2 := valA_of_mem hn (k := e.1) (v := e.2) he
      rw [q, h] at h2
      rw [Option.some.inj h2]
    · rfl
  exact (List.map_congr_left this).trans (List.map_id' l)
theorem puts_new : ∀ {l acc : KD}, ((acc ++ l).map (·.1)).Nodup → putsA acc l = acc ++ l
  | [], acc, _ => (List.append_nil acc).symm
  | e :: l, acc, h => by
    show putsA (putA acc e.1 e.2) l = _
    have h1 : e.1 ∉ acc.map (·.1) := by
      rw [List.map_append, List.nodup_append] at h
      exact fun q => h.2.2 e.1 q e.1 List.mem_cons_self rfl
    rw [putA_new h1, puts_new (by rw [List.append_assoc]; exact h), List.append_assoc]
    rfl
theorem puts_same : ∀ {l acc : KD}, (acc.map (·.1)).Nodup → (∀ e ∈ l, valA acc e.1 = some e.2) → putsA acc l = acc
  | [], _, _, _ => rfl
  | e :: l, acc, hn, h => by
    show putsA (putA acc e.1 e.2) l = _
    rw [putA_same (h e List.mem_cons_self) hn]
    exact puts_same hn fun x hx => h x (List.mem_cons_of_mem _ hx)
theorem held_pick_names (h : List Gp) (ns : List Str) : (heldL (pick h ns)).map (·.1) = ns.filter fun nm => decide (nm ∈ namesOf h) := by
  have : (heldL (pick h ns)).map (·.1) = namesOf (pick h ns) := by unfold heldL namesOf; rw [List.map_map]; rfl
  rw [this, pick_names]
theorem puts_turned {names : List Str} (nd : names.Nodup) (h : List Gp) (n : Int) : putsA [] (heldL (pick h (turnedBy names n ++ names))) = heldL (pick h (turnOf names n)) := by
  unfold turnOf turnedBy
  generalize (n % (if (names.length : Int) > 1 then (names.length : Int) else 1)).toNat = k
  have hk : names = names.take k ++ names.drop k := (List.take_append_drop _ _).symm
  have pa : ∀ a b : List Str, heldL (pick h (a ++ b)) = heldL (pick h a) ++ heldL (pick h b) := fun a b => by
    unfold pick heldL
    rw [List.filter_append, List.map_append, List.map_append]
  have e1 : heldL (pick h (names.drop k ++ names)) = heldL (pick h (names.drop k ++ names.take k)) ++ heldL (pick h (names.drop k)) := by
    rw [← pa, List.append_assoc, ← hk]
  have hnd : ((names.drop k ++ names.take k).filter fun nm => decide (nm ∈ namesOf h)).Nodup := by
    refine List.Nodup.sublist List.filter_sublist ?_
    rw [hk] at nd
    exact (List.perm_append_comm.nodup_iff).mp nd
  have e2 : ∀ (a l1 l2 : KD), putsA a (l1 ++ l2) = putsA (putsA a l1) l2 := fun a l1 l2 => List.foldl_append
  rw [e1, e2, puts_new (acc := []) (by rw [List.nil_append, held_pick_names]; exact hnd), List.nil_append]
  refine puts_same (by rw [held_pick_names]; exact hnd) fun e he => ?_
  refine valA_of_mem (by rw [held_pick_names]; exact hnd) ?_
  rw [pa]
  exact List.mem_append_left _ he
theorem heldBy_ok {rows names : List Str} (hg : GoodHall rows) (nd : names.Nodup) (gn : ∀ s ∈ names, GoodName s) (hl : names.length ≤ 12) (n : Int) : ReadOk rows (heldBy8 rows names n) ∧ (heldBy8 rows names n).length ≤ 12 := by
  obtain ⟨i, hm⟩ := hbAll_inv (names := names) hg (n := n) rows.length (Nat.le_refl _)
  have h40 := hg.2.1
  unfold heldBy8
  generalize hbAll names n rows rows.length = st at i hm
  have hmem : ∀ x ∈ pick st.1 (turnOf names n), x ∈ st.1 := fun x hx => (pick_mem i.nd hx).1
  have hnd : (namesOf (pick st.1 (turnOf names n))).Nodup := by
    rw [pick_names]
    refine List.Nodup.sublist List.filter_sublist ?_
    unfold turnOf turnedBy
    rw [← List.take_append_drop (n % (if (names.length : Int) > 1 then (names.length : Int) else 1)).toNat names] at nd
    exact (List.perm_append_comm.nodup_iff).mp nd
  have hlen : (pick st.1 (turnOf names n)).length ≤ 12 := by
    have h1 := nodup_le hnd (m := names) fun x hx => by
      obtain ⟨y, hy, rfl⟩ := List.mem_map.mp hx
      exact i.nm y (hmem y hy)
    unfold namesOf at h1
    rw [List.length_map] at h1
    omega
  refine ⟨⟨hg, fun x hx => ⟨gn _ (i.nm x (hmem x hx)), i.ne x (hmem x hx), ?_, fun s hs => (i.sp x (hmem x hx) s hs).2.1, i.up x (hmem x hx)⟩, hnd, fun x hx s hs => (i.sp x (hmem x hx) s hs).1, ?_, by omega⟩, hlen⟩
  · have := i.len x (hmem x hx)
    omega
  · have hnd2 : (pick st.1 (turnOf names n)).Pairwise fun x y => x.1 ≠ y.1 := by
      unfold namesOf at hnd
      exact List.pairwise_map.mp hnd
    refine List.Pairwise.imp_of_mem (fun {x y} hx hy hxy s h1 h2 => hxy ?_) hnd2
    exact (i.ap x (hmem x hx) y (hmem y hy) s h2 h1)

/-! ### the law's own table, by a number -/
def prjN (x : NL) : List (Str × List D) := x.map fun e => (e.1, e.2.2)
def encH (h : List Gp) : List (Str × List D) := h.map fun g => (g.1, g.2.map encSpot)
theorem prj_names {x : NL} {h : List Gp} (e : prjN x = encH h) : x.map (·.1) = namesOf h := by
  have := congrArg (fun l => l.map (·.1)) e
  simp only [prjN, encH, List.map_map] at this
  exact this
theorem prj_at {x : NL} {h : List Gp} (e : prjN x = encH h) {j : Nat} {y : Str × Addr × List D} (hy : x[j]? = some y) : ∃ g, h[j]? = some g ∧ g.1 = y.1 ∧ g.2.map encSpot = y.2.2 := by
  have h1 : (prjN x)[j]? = some (y.1, y.2.2) := by unfold prjN; rw [List.getElem?_map, hy]; rfl
  rw [e] at h1
  unfold encH at h1
  rw [List.getElem?_map] at h1
  obtain ⟨g, hg, e2⟩ := Option.map_eq_some_iff.mp h1
  exact ⟨g, hg, congrArg Prod.fst e2, congrArg Prod.snd e2⟩
theorem prj_held {x : NL} {h : List Gp} (e : prjN x = encH h) : (x.map fun e => (e.1, D.lst e.2.2)) = heldL h := by
  have := congrArg (fun l => l.map fun e : Str × List D => (e.1, D.lst e.2)) e
  simp only [prjN, encH, List.map_map] at this
  exact this
def pre_law_held : Pre := fun ds R o => ∃ (rows names : List Str) (n0 : Int), ds = [.lst (rows.map D.str), .lst (names.map D.str), .int n0] ∧ R = [] ∧ GoodHall rows ∧ names.Nodup ∧ names.length ≤ 12 ∧ o = .new (heldD (heldBy8 rows names (rowN n0)))
theorem n_law_held {c : Ct} {G : Res} {ρ : En} {ta tb tc : TE} {rows names : List Str} {n0 : Int} {E : XK} (ha : EvP c G ρ ta (.lst (rows.map D.str))) (hb : EvP c G ρ tb (.lst (names.map D.str))) (hc : EvP c G ρ tc (.int n0)) (hg : GoodHall rows) (nd : names.Nodup) (hl : names.length ≤ 12) :
    EvN c G ρ (tCall (spD c.K pre_law_held) [] E (tCons ta (tCons tb (tCons tc tNil)))) (heldD (heldBy8 rows names (rowN n0))) :=
  n_call (a_cons ha (a_cons hb (a_cons hc a_nil))) (R := []) (fun x hx => nomatch hx) ⟨rows, names, n0, rfl, rfl, hg, nd, hl, rfl⟩ fun _ e => nomatch e
theorem ok_law_held_by {P : Program} {w : World} {K : PySem.W.Frag} {mg : Str → Option Value} {base : Heap} (T : Top K mg) : FnOk P w K mg base CX0 1 T.a_law_held_by T.f_law_held_by ["_law_rows", "_law_names", "_law_n"] (spD K pre_law_held) := by
  refine fnOk T.F_law_held_by sc_law_held_by (fun ds R o h => by obtain ⟨rows, names, n0, rfl, _⟩ := h; rfl) fun ds R o h cdv A outer sh H E hr => ?_
  obtain ⟨rows, names, n0, rfl, rfl, hg, nd, hl, rfl⟩ := h
  refine ⟨_, (pss_cons (ps_set (i := 2) sc_law_held_by.nd rfl (Or.inl rfl) (pe_op op_mod (pe_op op_mul (pv 2) pe_int) pe_int))
  (pss_cons (ps_set (i := 3) sc_law_held_by.nd rfl (Or.inr rfl) pe_dnewK)
  (pss_cons (ps_set (i := 4) sc_law_held_by.nd rfl (Or.inl rfl) pe_int)
  (pss_cons (ps_for PassesOwn.never rfl (pi_range1 (by rfl) T.m_range (pa_cons (pe_callB call_len_seq (by rfl) T.m_len PySem.boot_len (pa_cons (pv 0) pa_nil)) pa_nil)) (pg_name (i := 5) sc_law_held_by.nd rfl (Or.inl rfl))
  (pss_one (ps_for PassesOwn.never rfl (pi_range1 (by rfl) T.m_range (pa_cons (pe_callB call_len_str (by rfl) T.m_len PySem.boot_len (pa_cons (pe_ix ix_list (pv 0) (pv 5) (fun _ _ => rfl)) pa_nil)) pa_nil)) (pg_name (i := 6) sc_law_held_by.nd rfl (Or.inl rfl))
  (pss_one (ps_if (pt_cmpR op_eq (pe_ix ix_str (pe_ix ix_list (pv 0) (pv 5) (fun _ _ => rfl)) (pv 6) (fun _ _ => rfl)) pe_str (nomark _))
  (pss_cons (ps_set (i := 7) sc_law_held_by.nd rfl (Or.inl rfl) (pe_op op_mod (pe_op op_mod (pe_op op_mul (pe_op op_add (pv 2) (pe_op op_mul pe_int (pe_op op_fdiv (pv 4) (pe_op op_add pe_int (pe_op op_mod (pv 2) pe_int))))) pe_int) pe_int) (pe_op op_add pe_int (pe_op op_mod (pe_op op_fdiv (pv 2) pe_int) pe_int))))
  (pss_cons (ps_if (pt_cmpR op_lt (pv 7) (pe_callB call_len_seq (by rfl) T.m_len PySem.boot_len (pa_cons (pv 1) pa_nil)) (nomark _))
  (pss_one (ps_expr (pe_bm PySem.F.plainAttrs_list PySem.F.slot_list_append PySem.F.type_list_append mt_append (pe_dsetd (pv 3) (pe_ix ix_list (pv 1) (pv 7) (fun _ _ => rfl)) (pe_lst pa_nil) ⟨rfl, rfl, rfl, rfl⟩) (pa_cons (pe_tup (pa_cons (pv 5) (pa_cons (pv 6) pa_nil))) pa_nil))))
  pss_nil)
  (pss_one (ps_set (i := 4) sc_law_held_by.nd rfl (Or.inl rfl) (pe_op op_add (pv 4) pe_int)))))
  pss_nil)))))
  (pss_cons (ps_set (i := 8) sc_law_held_by.nd rfl (Or.inl rfl) (pe_op op_cat (pe_slice sl_list (pv 1) (po_some (pe_op op_mod (pv 2) (pe_callB (call_max2 rfl) (by rfl) T.m_max PyProof.Rows.boot_max (pa_cons pe_int (pa_cons (pe_callB call_len_seq (by rfl) T.m_len PySem.boot_len (pa_cons (pv 1) pa_nil)) pa_nil))))) po_none) (pv 1)))
  (pss_one (ps_ret (pe_callTy (call_dictP rfl) (by rfl) T.m_dict PyProof.Rows.boot_dict (pa_cons (by exact (pe_lc (own := [("_law_name", 9)]) (g := (gName 9)) rfl sc_law_held_by.nd (by exact (pi_list (pv 8))) (blkOk_by (N := ["_law_rows", "_law_names", "_law_n", "_law_held", "_law_at", "_law_row", "_law_place", "_law_who", "_law_turned", "_law_name"]) (sc := defScope s_law_held_by) (by decide +kernel)) (fun _ _ _ _ _ => by exact (pg_name (i := 9) sc_law_held_by.nd rfl (Or.inl rfl))) (fun _ _ _ _ _ => by exact (pts_one (pt_cmp (pc_din (hu_of hr) (pv 9) (pv 3))))) (fun _ _ _ _ _ => by exact (pe_tup (pa_cons (pv 9) (pa_cons (pe_dget (hu_of hr) (pv 3) (pv 9) (fun _ _ => rfl)) pa_nil)))))) pa_nil))))))))), fun F Q post => ?_⟩
  have h40 := hg.2.1
  walk_at "go"
  walk_at "asg"
  have hn : ∃ n, n = n0 * 48271 % 2147483647 := ⟨_, rfl⟩
  obtain ⟨n, hn⟩ := hn
  rw [← hn]
  have e0 : rowN n0 = n := hn.symm
  rw [e0] at post
  have hn0 : 0 ≤ n := by omega
  apply sx_own (d := heldD [])
  · exact n_dnewK
  intro hd
  walk_at "nrm"
  walk_at "asg"
  refine sx_forRX (lo := 0) (n := rows.length) (ι := NL) (fun i x => prjN x = encH (hbAll names n rows i).1) (fun i x => nOwn hd x) (fun i => [some (.lst (rows.map D.str)), some (.lst (names.map D.str)), some (.int n), some (.ref hd), some (.int (((hbAll names n rows i).2 : Nat) : Int)), none, none, none, none, none]) ?_ [] rfl rfl ⟨rfl, rfl, rfl, rfl, rfl, trivial⟩ (fun i hi x px S' hS => ?_) (fun x px => ?_)
  · have e2 : rows.length = (((rows.map D.str).length : Nat) : Int).toNat := by simp
    conv => arg 5; rw [e2]
    exact i_range1 (a_cons (p_lenL (ds := rows.map D.str) (EvP.toS (p_var rfl))) a_nil) (by rw [List.length_map]; omega)
  · obtain ⟨s, hs⟩ : ∃ s, rows[i]? = some s := ⟨_, List.getElem?_eq_getElem hi⟩
    have hsz := (hg.2.2 s (List.mem_of_getElem? hs)).1
    obtain ⟨inv0, hm0⟩ := hbAll_inv (names := names) hg (n := n) i (by omega)
    have nx : hbAll names n rows (i + 1) = hbUp names n s i (hbAll names n rows i) s.length := by
      show hbUp names n (rows.getD i "") i (hbAll names n rows i) (rows.getD i "").length = _
      rw [getD_at hs]
    rw [nx, Int.zero_add]
    have inv1 := fun j hj => hbUp_inv hg (n := n) hs inv0 hm0 j hj
    generalize hbAll names n rows i = st at px inv1
    have hrow : ∀ {c : Ct} {G : Res} {ρ : En}, ρ[0]? = some (some (.lst (rows.map D.str))) → ρ[5]? = some (some (.int (i : Int))) → EvP c G ρ (tOp (rIxL c.K) (tVar 0) (tVar 5)) (.str s) := fun h1 h2 =>
      p_ixL (ds := rows.map D.str) (EvP.toS (p_var h1)) (p_var h2) (at_m (f := D.str) (by omega) (by simpa using hs))
    walk_at "nrm"
    walk_at "last"
    refine sx_forRX (lo := 0) (n := s.length) (ι := NL) (fun j x => prjN x = encH (hbUp names n s i st j).1) (fun j x => nOwn hd x) (fun j => [some (.lst (rows.map D.str)), some (.lst (names.map D.str)), some (.int n), some (.ref hd), some (.int (((hbUp names n s i st j).2 : Nat) : Int)), some (.int (i : Int)), none, none, none, none]) ?_ x px rfl ⟨rfl, rfl, rfl, rfl, rfl, rfl, trivial⟩ (fun j hj y py S'' hS2 => ?_) (fun y py => ?_)
    · have e2 : s.length = ((s.length : Nat) : Int).toNat := by simp
      conv => arg 5; rw [e2]
      exact i_range1 (a_cons (p_lenS (hrow rfl rfl) (by omega)) a_nil) (by omega)
    · obtain ⟨invj, hmj⟩ := inv1 j (by omega)
      have nxj : hbUp names n s i st (j + 1) = hbCell names n s i j (hbUp names n s i st j) := rfl
      rw [nxj, Int.zero_add]
      generalize hbUp names n s i st j = u at py invj hmj
      obtain ⟨h, m⟩ := u
      have invj : HbI rows names h m ((i : Int), (j : Int)) := invj
      have hmj : m ≤ 60 * i + j := hmj
      have py : prjN y = encH h := py
      have hyl : y.length ≤ 12 := by
        have e1 := congrArg List.length (prj_names py)
        rw [List.length_map] at e1
        have e2 := nodup_le invj.nd (m := names) fun x hx => by
          obtain ⟨g, hg2, rfl⟩ := List.mem_map.mp hx
          exact invj.nm g hg2
        omega
      have hysz : ∀ e ∈ y, e.2.2.length < 100000 := fun e he => by
        obtain ⟨k, hk⟩ := List.mem_iff_getElem?.mp he
        obtain ⟨g, hg1, _, hg3⟩ := prj_at py hk
        have := invj.len g (List.mem_of_getElem? hg1)
        rw [← hg3, List.length_map]
        omega
      obtain ⟨c, hc⟩ : ∃ c, s.cps.toList[j]? = some c := ⟨_, List.getElem?_eq_getElem (by rw [cps_len]; exact hj)⟩
      have hat2 : atI s.cps.toList (j : Int) = some c := at_sign (by omega) (by simpa using hc)
      have hseat : seatP s j = decide (c = 111) := by
        unfold seatP
        have : s.cps[j]? = some c := by rw [← hc]; simp
        rw [this]
        by_cases q : c = 111 <;> simp [q]
      dsimp only
      walk_at "nrm"
      walk_at "last"
      apply sx_when (b := seatP s j)
      · refine EvT.is (t_test (p_eqS (p_ixS (hrow rfl rfl) (p_var rfl) (by omega) hat2) p_str)) ?_
        rw [hseat, ← sign_o]
      · intro hb
        have hcell : hbCell names n s i j (h, m) = ((match names[whoN n m]? with | some nm => addTo h nm ((i : Int), (j : Int)) | none => h), m + 1) := by unfold hbCell; exact (if_pos hb).trans rfl
        rw [hcell]
        have hw6 : 0 < 1 + n % 6 := by omega
        have hw9 : 0 < 1 + n / 6 % 9 := by omega
        apply sx_asg (d := .int ((n + 31 * ((m : Int) / (1 + n % 6))) * 48271 % 10007 % (1 + n / 6 % 9)))
        · walk_at "pv"
        walk_at "nrm"
        have hw0 : 0 ≤ (n + 31 * ((m : Int) / (1 + n % 6))) * 48271 % 10007 % (1 + n / 6 % 9) := Int.emod_nonneg _ (by omega)
        have hwe : whoN n m = ((n + 31 * ((m : Int) / (1 + n % 6))) * 48271 % 10007 % (1 + n / 6 % 9)).toNat := rfl
        rw [hwe]
        generalize (n + 31 * ((m : Int) / (1 + n % 6))) * 48271 % 10007 % (1 + n / 6 % 9) = w at hw0
        apply sx_when (b := decide (w < (names.length : Int)))
        · refine EvT.is (t_test (p_opB (p_var rfl) (p_lenL (ds := names.map D.str) (EvP.toS (p_var rfl))))) ?_
          rw [List.length_map]
        · intro hb2
          have hlt : w < (names.length : Int) := by simpa using hb2
          obtain ⟨nm, hnm⟩ : ∃ nm, names[w.toNat]? = some nm := ⟨_, List.getElem?_eq_getElem (by omega)⟩
          rw [hnm]
          dsimp only
          walk_at "last"
          apply sx_setdA (p := hd) (l := y) (s := nm) (d := encSpot ((i : Int), (j : Int))) rfl (by omega) hysz
          · exact p_var rfl
          · exact p_ixL (ds := names.map D.str) (EvP.toS (p_var rfl)) (p_var rfl) (at_m (f := D.str) hw0 hnm)
          · exact fun G' => p_spot (p_var rfl) (p_var rfl)
          · intro k e hk he
            obtain ⟨g, hg1, hg2, hg3⟩ := prj_at py hk
            walk_at "into"
            walk_at "last"
            walk_at "asg"
            walk_at "into"
            refine sx_endX (y.set k (e.1, e.2.1, e.2.2 ++ [encSpot ((i : Int), (j : Int))])) rfl ?_ rfl ⟨rfl, rfl, rfl, rfl, rfl, rfl, trivial⟩
            rw [addTo_at invj.nd hg1 (hg2.trans he)]
            unfold prjN encH at py ⊢
            rw [List.map_set, List.map_set, py]
            congr 1
            rw [he, List.map_append, hg3]
            rfl
          · intro hnot a
            have hnot2 : nm ∉ namesOf h := by rw [← prj_names py]; exact hnot
            walk_at "into"
            walk_at "last"
            walk_at "asg"
            walk_at "into"
            refine sx_endX (y ++ [(nm, a, [encSpot ((i : Int), (j : Int))])]) rfl ?_ rfl ⟨rfl, rfl, rfl, rfl, rfl, rfl, trivial⟩
            rw [addTo_new hnot2]
            unfold prjN encH at py ⊢
            rw [List.map_append, List.map_append, py]
            rfl
        · intro hb2
          have hge : ¬ w < (names.length : Int) := by simpa using hb2
          rw [List.getElem?_eq_none (show names.length ≤ w.toNat by omega)]
          dsimp only
          walk_at "last"
          walk_at "asg"
          walk_at "into"
          refine sx_endX y rfl py rfl ⟨rfl, rfl, rfl, rfl, rfl, rfl, trivial⟩
      · intro hb
        have hcell : hbCell names n s i j (h, m) = (h, m) := by unfold hbCell; rw [if_neg (by rw [hb]; exact fun z => nomatch z)]
        rw [hcell]
        refine sx_endX y rfl py rfl ⟨rfl, rfl, rfl, rfl, rfl, rfl, trivial⟩
    · refine sx_endX y rfl py rfl ⟨rfl, rfl, rfl, rfl, rfl, trivial⟩
  · obtain ⟨inv0, _⟩ := hbAll_inv (names := names) hg (n := n) rows.length (Nat.le_refl _)
    have hfin : heldBy8 rows names n = pick (hbAll names n rows rows.length).1 (turnOf names n) := rfl
    rw [hfin, ← show heldD (pick (hbAll names n rows rows.length).1 (turnOf names n)) = heldD (pick (hbAll names n rows rows.length).1 (turnOf names n)) from rfl] at post
    generalize (hbAll names n rows rows.length).2 = m at inv0
    generalize (hbAll names n rows rows.length).1 = h at inv0 px post
    refine sx_freezeN (p := hd) (l := x) rfl ?_
    rw [prj_held px]
    apply sx_asg (d := .lst ((turnedBy names n ++ names).map D.str))
    · apply EvN.toP
      rw [List.map_append]
      have hml : 0 ≤ n % (if (names.length : Int) > 1 then (names.length : Int) else 1) ∧ n % (if (names.length : Int) > 1 then (names.length : Int) else 1) ≤ (names.length : Int) := by
        split
        · have := Int.emod_nonneg n (show (names.length : Int) ≠ 0 by omega)
          have := Int.emod_lt_of_pos n (show (0 : Int) < (names.length : Int) by omega)
          omega
        · omega
      refine n_cat ?_ (EvP.toS (p_var rfl)) ?_
      · unfold turnedBy
        rw [← cut_drop hml.1 hml.2]
        apply EvP.toS
        apply EvN.toP
        refine n_slL (EvP.toS (p_var rfl)) (o_some ?_) o_none
        refine p_opC (p_var rfl) (EvP.is (p_max2 p_int (p_lenL (ds := names.map D.str) (EvP.toS (p_var rfl)))) (by rw [List.length_map])) ?_
        · split <;> (first | exact ⟨by omega, by omega⟩ | omega | exact Or.inr ⟨by omega, by omega⟩ | walk_at "sd")
      · unfold turnedBy
        rw [List.length_map, List.length_map, List.length_drop]
        omega
    walk_at "nrm"
    walk_at "last"
    have hval : ∀ nm ∈ namesOf h, valA (heldL h) nm = some (.lst ((spotsFor h nm).map encSpot)) := fun nm hm => by
      obtain ⟨g, hg2, rfl⟩ := List.mem_map.mp hm
      rw [held_val inv0.nd hg2]
      have := spots_for inv0.nd hg2
      show some (D.lst (g.2.map encSpot)) = some (D.lst ((spotsFor h g.1).map encSpot))
      rw [this]
    have hin : ∀ nm, (valA (heldL h) nm).isSome = decide (nm ∈ namesOf h) := fun nm => by
      have e : (heldL h).map (·.1) = namesOf h := by unfold heldL namesOf; rw [List.map_map]; rfl
      by_cases q : nm ∈ namesOf h
      · rw [hval nm q, decide_eq_true q]; rfl
      · rw [valA_none.mpr (by rw [e]; exact q), decide_eq_false q]; rfl
    have hll : (heldL (pick h (turnedBy names n ++ names))).map Dl.pairD = ((turnedBy names n ++ names).filter fun nm => decide (nm ∈ namesOf h)).map fun nm => D.tup [.str nm, .lst ((spotsFor h nm).map encSpot)] := by
      unfold heldL pick
      rw [List.map_map, List.map_map]
      rfl
    apply sx_retN (d := heldD (pick h (turnOf names n)))
    · have hpt := puts_turned nd h n
      unfold heldD
      rw [← hpt]
      refine n_dictP ?_
      rw [hll]
      apply EvP.toS
      apply EvN.toP
      apply n_lc (g := []) (us := turnedBy names n ++ names) (enc := D.str) (p := fun nm => decide (nm ∈ namesOf h)) (f := fun nm => D.tup [.str nm, .lst ((spotsFor h nm).map encSpot)])
      · exact i_list (p_var rfl)
      · exact fun x hx => nomatch hx
      · intro u hu
        exact g_name
      · decide
      · intro u hu
        refine EvT.is (t_test (p_dinK (s := u) (l := heldL h) (p_var rfl) (EvS.res (p_var rfl) (.inr List.mem_cons_self)))) ?_
        exact hin u
      · intro u hu hb
        have hb' : u ∈ namesOf h := by simpa using hb
        exact p_tup (ds := [.str u, .lst ((spotsFor h u).map encSpot)]) (a_cons (p_var rfl) (a_cons (p_getK (l := heldL h) (EvS.res (p_var rfl) (.inr List.mem_cons_self)) (p_var rfl) (hval u hb')) a_nil)) (by simp)
      · unfold turnedBy
        rw [List.length_append, List.length_drop]
        omega
    · exact post

/-! ### the plan stands as the law's table says -/
theorem putA_mem {α β : Type} [DecidableEq α] {l : List (α × β)} {k : α} {v : β} {e : α × β} (h : e ∈ putA l k v) : e ∈ l ∨ e.2 = v := by
  unfold putA at h
  split at h
  · obtain ⟨x, hx, rfl⟩ := List.mem_map.mp h
    by_cases q : x.1 = k
    · rw [if_pos q]; exact .inr rfl
    · rw [if_neg q]; exact .inl hx
  · rcases List.mem_append.mp h with h | h
    · exact .inl h
    · exact .inr (by rw [List.mem_singleton] at h; rw [h])
theorem put_mem {ss : List Spot} {n : Str} : ∀ {td : TD} {e : Spot × Str}, e ∈ ss.foldl (fun td s => putA td s n) td → e ∈ td ∨ e.2 = n := by
  induction ss with
  | nil => exact fun h => .inl h
  | cons s ss ih =>
    intro td e h
    rcases ih h with h | h
    · exact putA_mem h
    · exact .inr h
theorem taken_mem {gs : List Gp} : ∀ {td : TD} {e : Spot × Str}, e ∈ gs.foldl (fun td g => g.2.foldl (fun td s => putA td s g.1) td) td → e ∈ td ∨ e.2 ∈ namesOf gs := by
  induction gs with
  | nil => exact fun h => .inl h
  | cons g gs ih =>
    intro td e h
    rcases ih h with h | h
    · rcases put_mem h with h | h
      · exact .inl h
      · exact .inr (by rw [h]; exact List.mem_cons_self)
    · exact .inr (List.mem_cons_of_mem _ h)
theorem taken_name {gs : List Gp} {s : Spot} {nm : Str} (h : valA (takenOf gs) s = some nm) : nm ∈ namesOf gs := by
  rcases taken_mem (valA_some_mem h) with q | q
  · simp at q
  · exact q
theorem pl_runs8 (l : List Rn) : Pl 2 (.lst (l.map encRun)) := by
  intro d hd
  obtain ⟨r, _, rfl⟩ := List.mem_map.mp hd
  intro e he
  simp at he
  rcases he with rfl | rfl | rfl <;> trivial
theorem p_neON {c : Ct} {G : Res} {ρ : En} {ta tb : TE} {o : Option Str} (ha : EvP c G ρ ta (encON o)) (hb : EvP c G ρ tb (encON o)) : EvP c G ρ (tOp rNe ta tb) (.bl false) := fun F σ H A Q q =>
  ha F σ H A _ fun v F1 H1 g1 r1 => hb F1 σ H1 (A.on g1) _ fun w F2 H2 g2 r2 => by
    cases o with
    | none =>
      cases r1; cases r2
      refine ⟨rfl, ?_⟩
      rw [show (!decide (V.non = V.non)) = false by simp]
      exact q _ F2 H2 (g1.trans g2) (.bl _)
    | some s =>
      cases r1; cases r2
      refine ⟨rfl, ?_⟩
      rw [show (!decide (V.str s = V.str s)) = false by simp]
      exact q _ F2 H2 (g1.trans g2) (.bl _)
def pre_law_stands (C : Addr) : Pre := fun ds R o => ∃ (rows : List Str) (g d : Addr) (dh : D) (R' : Res) (h : List Gp), ds = [planD C rows g d, .lst (rows.map D.str), dh] ∧ R = (g, .lst (h.map encGp)) :: R' ∧ Arg dh R' (heldD h) ∧ HeldOk h ∧ GoodHall rows ∧ (∀ x ∈ h, GoodName x.1) ∧ o = .ret (.bl true)
theorem p_law_stands {c : Ct} {G : Res} {ρ : En} {ta tb tc : TE} {C : Addr} {rows : List Str} {g d : Addr} {dh : D} {R' : Res} {h : List Gp} {E : XK} (ha : EvP c G ρ ta (planD C rows g d)) (hb : EvP c G ρ tb (.lst (rows.map D.str))) (hc : EvP c G ρ tc dh) (m : May c G dh (heldD h) R') (mg : (g, D.lst (h.map encGp)) ∈ c.S ∨ (g, D.lst (h.map encGp)) ∈ G) (ok : HeldOk h) (hg : GoodHall rows) (gn : ∀ x ∈ h, GoodName x.1) :
    EvP c G ρ (tCall (spD c.K (pre_law_stands C)) [] E (tCons ta (tCons tb (tCons tc tNil)))) (.bl true) :=
  p_call (a_cons ha (a_cons hb (a_cons hc a_nil))) (R := (g, .lst (h.map encGp)) :: R') (fun x hx => by
    rcases List.mem_cons.mp hx with rfl | hx
    · exact mg
    · exact m.2 x hx) ⟨rows, g, d, dh, R', h, rfl, rfl, m.1, ok, hg, gn, rfl⟩
namespace Cr
/-! ### a gap: nobody sits there -/
def pre_who05 (C X : Addr) : Pre := fun ds R o => ∃ (rows : List Str) (g d : Addr) (r p : Int), ds = [planD C rows g d, .int r, .int p] ∧ R = [] ∧ Short rows ∧ rows.length ≤ 100 ∧ isSeat rows r p = false ∧ o = .exc X
theorem ok_Plan_who {P : Program} {w : World} {K : PySem.W.Frag} {mg : Str → Option Value} {base : Heap} (T : Top K mg) : FnOk P w K mg base (L2N.CX P w) 3 T.a_Plan_who T.f_Plan_who ["self", "row", "place"] (spD K (pre_who05 T.a_Plan T.a_NoSeat)) := by
  refine Ho.fnOkXN T.F_Plan_who sc_Plan_who (fun ds R o h => by obtain ⟨rows, g, d, r, p, rfl, _⟩ := h; rfl) fun ds R o h cdv A outer sh H E hr => ?_
  obtain ⟨rows, g, d, r, p, rfl, rfl, hs, hl, h, rfl⟩ := h
  refine ⟨_, (pss_cons (ps_expr (pe_meth (pv 0) T.c_Plan T.me_Plan_need_seat (ok_Plan_need_seat T) (hr.mono (by decide)) T.b_Plan_need_seat .nil (Ho.pass_outN (L2N.takes_of rfl rfl rfl rfl)) (pa_cons (pe_tup (pa_cons (pv 1) (pa_cons (pv 2) pa_nil))) pa_nil)))
  (pss_one (ps_ret (pe_dget1 (hu_of hr) (pe_meth0 (pv 0) T.c_Plan T.me_Plan_taken (ok_Plan_taken T) (hr.mono (by decide)) T.b_Plan_taken .nil pass0) (pe_tup (pa_cons (pv 1) (pa_cons (pv 2) pa_nil))) ⟨rfl, rfl, rfl, rfl⟩)))), fun F Q post => ?_⟩
  walk_at "go"
  apply sx_dropX
  · exact x_need_seat (s := (r, p)) (p_var rfl) (p_spot (p_var rfl) (p_var rfl)) hs hl h
  · exact fun F' H' A => post F' H' A.1
def pre_law_gap (C : Addr) : Pre := fun ds R o => ∃ (rows : List Str) (g d : Addr) (r p : Int), ds = [planD C rows g d, .int r, .int p] ∧ R = [] ∧ Short rows ∧ rows.length ≤ 100 ∧ isSeat rows r p = false ∧ o = .ret (.bl true)
theorem p_law_gap {c : Ct} {G : Res} {ρ : En} {ta tb tc : TE} {C : Addr} {rows : List Str} {g d : Addr} {r p : Int} {E : XK} (ha : EvP c G ρ ta (planD C rows g d)) (hb : EvP c G ρ tb (.int r)) (hc : EvP c G ρ tc (.int p)) (hs : Short rows) (hl : rows.length ≤ 100) (h : isSeat rows r p = false) :
    EvP c G ρ (tCall (spD c.K (pre_law_gap C)) [] E (tCons ta (tCons tb (tCons tc tNil)))) (.bl true) :=
  p_call (a_cons ha (a_cons hb (a_cons hc a_nil))) (R := []) (fun x hx => nomatch hx) ⟨rows, g, d, r, p, rfl, rfl, hs, hl, h, rfl⟩
theorem ok_law_gap {P : Program} {w : World} {K : PySem.W.Frag} {mg : Str → Option Value} {base : Heap} (T : Top K mg) : FnOk P w K mg base CX0 4 T.a_law_gap T.f_law_gap ["_law_plan", "_law_row", "_law_place"] (spD K (pre_law_gap T.a_Plan)) := by
  refine fnOk T.F_law_gap sc_law_gap (fun ds R o h => by obtain ⟨rows, g, d, r, p, rfl, _⟩ := h; rfl) fun ds R o h cdv A outer sh H E hr => ?_
  obtain ⟨rows, g, d, r, p, rfl, rfl, hs, hl, h, rfl⟩ := h
  have eX := T.e_NoSeat
  refine ⟨_, (pss_cons (by exact (Ho.ps_tryMDN rfl rfl Ho.takes0N
  (fun W pn xe tk po => by exact (pss_one (ps_expr (pe_meth (pv 0) T.c_Plan T.me_Plan_who (ok_Plan_who T) (hr.mono (by decide)) T.b_Plan_who .nil (Ho.pass_tryN tk) (pa_cons (pv 1) (pa_cons (pv 2) pa_nil))))))
  (.cons ⟨rfl, by decide, .inl T.g_NoSeat⟩ (fun a oe cls d pn hz hf => by exact (pss_one (ps_ret pe_bl))) .nil)))
  (pss_one (ps_ret pe_bl))), fun F Q post => ?_⟩
  walk_at "go"
  apply sx_seq
  apply sx_tryMD
  walk_at "last"
  apply sx_dropX
  · exact x_meth (p_var rfl) meth_who (a_cons (p_var rfl) (a_cons (p_var rfl) a_nil)) (R := []) (fun x hx => nomatch hx) ⟨rows, g, d, r, p, rfl, rfl, hs, hl, h, rfl⟩
  · exact fun F' H' A' σ => w_hit eX fun a _ => post (.bl true) F' H' A'.1 (.bl true)

end Cr
theorem ok_law_gap {P : Program} {w : World} {K : PySem.W.Frag} {mg : Str → Option Value} {base : Heap} (T : Top K mg) : FnOk P w K mg base CX0 4 T.a_law_gap T.f_law_gap ["_law_plan", "_law_row", "_law_place"] (spD K (Cr.pre_law_gap T.a_Plan)) := Cr.ok_law_gap T

theorem dot_cps : ("." : Str) = ⟨#[46]⟩ := by decide +kernel
theorem find_dot {s : Str} {z : Int} (e : Txt.find s ("." : Str) = z) (h0 : 0 ≤ z) : s.cps.toList[z.toNat]? = some 46 := by
  rcases PyProof.Rows.find_whole s ("." : Str) with ⟨h1, _⟩ | ⟨i, h1, h2, _⟩
  · omega
  · rw [h1] at e
    subst e
    rw [dot_cps] at h2
    exact (PySem.StrLaws.subAt_one s 46 i).mp h2
theorem pl_rows5 {rows : List Str} (h : ∀ s ∈ rows, GoodRow s) : Pl 1 (.lst (rows.map D.str)) := pl_strs fun s hs => strOk_iff.mpr fun c hc => by
  rcases (h s hs).2 c hc with e | e <;> rw [e] <;> decide
theorem ok_law_stands {P : Program} {w : World} {K : PySem.W.Frag} {mg : Str → Option Value} {base : Heap} (T : Top K mg) : FnOk P w K mg base CX0 5 T.a_law_stands T.f_law_stands ["_law_plan", "_law_rows", "_law_held"] (spD K (pre_law_stands T.a_Plan)) := by
  refine fnOk T.F_law_stands sc_law_stands (fun ds R o q => by obtain ⟨rows, g, d, dh, R', h, rfl, _⟩ := q; rfl) fun ds R o q cdv A outer sh H E hr => ?_
  obtain ⟨rows, g, d, dh, R', h, rfl, rfl, ha, ok, hg, gn, rfl⟩ := q
  have cP := T.c_Plan
  have n1 := T.n_Plan_hall
  refine ⟨_, (pss_cons (ps_set (i := 3) sc_law_stands.nd rfl (Or.inl rfl) pe_dnewT)
  (pss_cons (ps_for PassesOwn.never rfl (pi_list (pe_callTy (call_listD rfl) (by rfl) T.m_list PyProof.Rows.boot_list (pa_cons (pv 2) pa_nil))) (pg_name (i := 4) sc_law_stands.nd rfl (Or.inl rfl))
  (pss_cons (ps_if (pt_cmpR (op_neD hr.units) (pe_meth (pv 0) T.c_Plan T.me_Plan_seats (ok_Plan_seats T) (hr.mono (by decide)) T.b_Plan_seats .nil Ho.passLN (pa_cons (pv 4) pa_nil)) (pe_dget (hu_of hr) (pv 2) (pv 4) (fun _ _ => rfl)) (nomark _))
  (pss_one (ps_ret pe_bl))
  pss_nil)
  (pss_one (ps_for PassesOwn.never rfl (pi_list (pe_dget (hu_of hr) (pv 2) (pv 4) (fun _ _ => rfl))) (pg_name (i := 5) sc_law_stands.nd rfl (Or.inl rfl))
  (pss_one (ps_dput (hu_of hr) (pv 3) (pv 5) (pv 4) rfl))))))
  (pss_cons (ps_if (PW.pt (pw_or (pt_cmpR (op_neD hr.units) (pe_meth0 (pv 0) T.c_Plan T.me_Plan_groups (ok_Plan_groups T) (hr.mono (by decide)) T.b_Plan_groups .nil pass0) (pe_callTy (call_listD rfl) (by rfl) T.m_list PyProof.Rows.boot_list (pa_cons (pv 2) pa_nil)) (nomark _)) (pw_or1 (pt_cmpR (op_neD hr.units) (pe_meth0 (pv 0) T.c_Plan T.me_Plan_free (ok_Plan_free T) (hr.mono (by decide)) T.b_Plan_free .nil pass0) (pe_call (ok_law_runs T) (hr.mono (by decide)) (by rfl) T.g_law_runs T.F_law_runs.kp T.b_law_runs .nil pass0 (pa_cons (pv 1) (pa_cons (pv 3) pa_nil))) (nomark _)))))
  (pss_one (ps_ret pe_bl))
  pss_nil)
  (pss_cons (ps_for PassesOwn.never rfl (pi_range1 (by rfl) T.m_range (pa_cons (pe_callB call_len_seq (by rfl) T.m_len PySem.boot_len (pa_cons (pv 1) pa_nil)) pa_nil)) (pg_name (i := 6) sc_law_stands.nd rfl (Or.inl rfl))
  (pss_one (ps_for PassesOwn.never rfl (pi_range1 (by rfl) T.m_range (pa_cons (pe_callB call_len_str (by rfl) T.m_len PySem.boot_len (pa_cons (pe_ix ix_list (pv 1) (pv 6) (fun _ _ => rfl)) pa_nil)) pa_nil)) (pg_name (i := 7) sc_law_stands.nd rfl (Or.inl rfl))
  (pss_one (ps_if (PW.pt (pw_and (pt_cmpR op_eq (pe_ix ix_str (pe_ix ix_list (pv 1) (pv 6) (fun _ _ => rfl)) (pv 7) (fun _ _ => rfl)) pe_str (nomark _)) (pw_and1 (pt_cmpR op_eq (pe_op op_mod (pe_op op_add (pe_op op_add (pv 6) (pv 7)) (pe_callB call_len_str (by rfl) T.m_len PySem.boot_len (pa_cons (pe_ix ix_list (pv 1) pe_int (fun _ _ => rfl)) pa_nil))) pe_int) pe_int (nomark _)))))
  (pss_one (ps_if (pt_cmpR op_ne (pe_meth (pv 0) T.c_Plan T.me_Plan_who (ok_Plan_who T) (hr.mono (by decide)) T.b_Plan_who .nil Ho.passLN (pa_cons (pv 6) (pa_cons (pv 7) pa_nil))) (pe_dget1 (hu_of hr) (pv 3) (pe_tup (pa_cons (pv 6) (pa_cons (pv 7) pa_nil))) ⟨rfl, rfl, rfl, rfl⟩) (nomark _))
  (pss_one (ps_ret pe_bl))
  pss_nil))
  pss_nil)))))
  (pss_cons (ps_if (PW.pt (pw_or (pt_not (pt_val (pe_callB call_isi (by rfl) T.m_isinstance PyProof.Rows.boot_isinstance (pa_cons (pe_fld (pv 0) rfl) (pa_cons (pe_bltn (v := .ty "list") (by rfl) T.m_list PyProof.Rows.boot_list rfl) pa_nil))))) (pw_or (pt_cmpR (op_neD hr.units) (pe_fld (pv 0) rfl) (pv 1) (nomark _)) (pw_or1 (pt_cmpR op_ne (pe_callB call_len_seq (by rfl) T.m_len PySem.boot_len (pa_cons (pe_call (ok_drawn T) (hr.mono (by decide)) (by rfl) T.g_drawn T.F_drawn.kp T.b_drawn .nil pass0 (pa_cons (pv 0) pa_nil)) pa_nil)) (pe_callB call_len_seq (by rfl) T.m_len PySem.boot_len (pa_cons (pv 1) pa_nil)) (nomark _))))))
  (pss_one (ps_ret pe_bl))
  pss_nil)
  (pss_cons (ps_for PassesOwn.never rfl (pi_range1 (by rfl) T.m_range (pa_cons (pe_callB call_len_seq (by rfl) T.m_len PySem.boot_len (pa_cons (pv 1) pa_nil)) pa_nil)) (pg_name (i := 6) sc_law_stands.nd rfl (Or.inl rfl))
  (pss_cons (ps_set (i := 7) sc_law_stands.nd rfl (Or.inl rfl) (pe_m1 PySem.F.slot_str_find PySem.F.type_str_find mt_find (pe_ix ix_list (pv 1) (pv 6) (fun _ _ => rfl)) pe_str))
  (pss_one (ps_if (PW.pt (pw_and (pt_cmpR op_ge (pv 7) pe_int (nomark _)) (pw_and1 (pt_not (pt_val (pe_call (ok_law_gap T) (hr.mono (by decide)) (by rfl) T.g_law_gap T.F_law_gap.kp T.b_law_gap .nil pass0 (pa_cons (pv 0) (pa_cons (pv 6) (pa_cons (pv 7) pa_nil)))))))))
  (pss_one (ps_ret pe_bl))
  pss_nil))))
  (pss_one (ps_ret pe_bl)))))))), fun F Q post => ?_⟩
  have hl := ok.len
  have h40 := hg.2.1
  have hshort := hg.short
  have hsub : ∀ S' : Res, (∀ x ∈ ((g, D.lst (h.map encGp)) :: R'), x ∈ S') → ∀ y ∈ R', y ∈ S' := fun S' hS y hy => hS y (List.mem_cons_of_mem _ hy)
  have ename : (namesOf h).map D.str = (heldL h).map fun e => D.str e.1 := by
    rw [held_names]
    unfold namesOf
    rw [List.map_map]
    rfl
  walk_at "go"
  walk_at "own"
  intro p
  walk_at "nrm"
  refine sx_forU (us := h) (enc := fun x => D.str x.1) (gr := []) (fun i => [(p, tdD (putTwo (h.take i) (fun g => g.2) (fun g => g.1) []))]) (fun i => [some (planD T.a_Plan rows g d), some (.lst (rows.map D.str)), some dh, some (.ref p), none, none, none, none]) ?_ (fun x hx => nomatch hx) rfl ⟨rfl, rfl, rfl, rfl, trivial⟩ (fun i x hx S' hS => ?_) ?_
  · rw [← held_names]
    exact i_list (n_listK (s_arg (p_var rfl) ha fun y hy => List.mem_cons_of_mem _ hy)).toP
  · have hxm := List.mem_of_getElem? hx
    obtain ⟨nm1, nm2⟩ := names_at ok.nd hx
    have hv := held_val ok.nd hxm
    have hsl := ok.sl x hxm
    have hb := putTwo_sum (h.take i) []
    have hsm := sum_at hx
    have htot := ok.tot
    simp only [List.length_nil, Nat.zero_add] at hb
    rw [putTwo_succ hx]
    generalize putTwo (h.take i) (fun g : Gp => g.2) (fun g : Gp => g.1) [] = acc at hb
    walk_at "nrm"
    apply sx_skip
    · refine EvT.is (t_test (p_neSame (n := 2) (d := .lst (x.2.map encSpot)) ?_ ?_ (pl_spots _) (by decide))) rfl
      · exact EvP.toS (EvN.toP (n_Plan_seats (p_var rfl) (.inl (hS _ List.mem_cons_self)) (p_var rfl) (by omega) (gn x hxm) nm1 nm2 hx))
      · exact EvP.toS (p_getK (l := heldL h) (s_arg (p_var rfl) ha (hsub S' hS)) (p_var rfl) hv)
    walk_at "last"
    refine sx_forU (us := x.2) (enc := encSpot) (gr := []) (fun j => [(p, tdD (putAll acc (x.2.take j) x.1))]) (fun j => [some (planD T.a_Plan rows g d), some (.lst (rows.map D.str)), some dh, some (.ref p), some (.str x.1), none, none, none]) ?_ (fun x hx => nomatch hx) rfl ⟨rfl, rfl, rfl, rfl, rfl, trivial⟩ (fun j s hs S'' hS2 => ?_) ?_
    · exact i_list (p_getK (l := heldL h) (s_arg (p_var rfl) ha (hsub S' hS)) (p_var rfl) hv)
    · have hl2 := putAll_len x.1 (x.2.take j) acc
      rw [List.length_take] at hl2
      rw [putAll_succ hs]
      walk_at "nrm"
      walk_at "last"
      apply sx_dputT 0
      · walk_at "pv"
      · walk_at "pv"
      · walk_at "pv"
      · exact rfl
      · omega
      walk_at "nrm"
      walk_at "end"
      · rfl
      · exact ⟨rfl, rfl, rfl, rfl, rfl, trivial⟩
    · rw [List.take_length]
      walk_at "end"
      · rfl
      · exact ⟨rfl, rfl, rfl, rfl, trivial⟩
  rw [List.take_length]
  refine sx_freeze (i := 3) (p := p) rfl ?_
  have etk : putTwo h (fun g => g.2) (fun g => g.1) [] = takenOf h := rfl
  rw [etk]
  apply sx_skip
  · refine EvT.is (t_or (a := false) (b := false) ?_ fun _ => ?_) rfl
    · apply t_test
      apply p_neSame (n := 1) (d := .lst ((namesOf h).map D.str))
      · exact EvP.toS (EvN.toP (n_Plan_groups (p_var rfl) (.inl List.mem_cons_self) (by omega)))
      · rw [ename]
        exact EvP.toS (EvN.toP (n_listK (s_arg (p_var rfl) ha fun y hy => List.mem_cons_of_mem _ hy)))
      · refine pl_strs fun s hs => ?_
        obtain ⟨y, hy, rfl⟩ := List.mem_map.mp hs
        exact name_ok (gn y hy)
      · decide
    · apply t_test
      apply p_neSame (n := 2) (d := .lst ((freeRs rows (takenOf h)).map encRun))
      · exact EvP.toS (EvN.toP (n_Plan_free (p_var rfl) (.inl List.mem_cons_self) (by omega) ok.sl hg))
      · exact EvP.toS (EvN.toP (n_law_runs (p_var rfl) (p_var rfl) (by omega) hshort))
      · exact pl_runs8 _
      · decide
  refine sx_forR (lo := 0) (n := rows.length) (fun i => []) (fun i => [some (planD T.a_Plan rows g d), some (.lst (rows.map D.str)), some dh, some (tdD (takenOf h)), none, none, none, none]) ?_ rfl ⟨rfl, rfl, rfl, rfl, trivial⟩ (fun i hi S' hS => ?_) ?_
  · have e2 : rows.length = (((rows.map D.str).length : Nat) : Int).toNat := by simp
    conv => arg 5; rw [e2]
    exact i_range1 (a_cons (p_lenL (ds := rows.map D.str) (EvP.toS (p_var rfl))) a_nil) (by rw [List.length_map]; omega)
  · obtain ⟨s, hs⟩ : ∃ s, rows[i]? = some s := ⟨_, List.getElem?_eq_getElem hi⟩
    obtain ⟨s0, hs0⟩ : ∃ s, rows[0]? = some s := ⟨_, List.getElem?_eq_getElem (by omega)⟩
    have hsz := (hg.2.2 s (List.mem_of_getElem? hs)).1
    have hsz0 := (hg.2.2 s0 (List.mem_of_getElem? hs0)).1
    have hrow : ∀ {c : Ct} {G : Res} {ρ : En}, ρ[1]? = some (some (.lst (rows.map D.str))) → ρ[6]? = some (some (.int (i : Int))) → EvP c G ρ (tOp (rIxL c.K) (tVar 1) (tVar 6)) (.str s) := fun h1 h2 =>
      p_ixL (ds := rows.map D.str) (EvP.toS (p_var h1)) (p_var h2) (at_m (f := D.str) (by omega) (by simpa using hs))
    have hrow0 : ∀ {c : Ct} {G : Res} {ρ : En}, ρ[1]? = some (some (.lst (rows.map D.str))) → EvP c G ρ (tOp (rIxL c.K) (tVar 1) (tC (.int 0))) (.str s0) := fun h1 =>
      p_ixL (ds := rows.map D.str) (EvP.toS (p_var h1)) p_int (at_m (f := D.str) (by decide) (by simpa using hs0))
    rw [Int.zero_add]
    walk_at "nrm"
    walk_at "last"
    refine sx_forR (lo := 0) (n := s.length) (fun j => []) (fun j => [some (planD T.a_Plan rows g d), some (.lst (rows.map D.str)), some dh, some (tdD (takenOf h)), none, none, some (.int (i : Int)), none]) ?_ rfl ⟨rfl, rfl, rfl, rfl, rfl, trivial⟩ (fun j hj S'' hS2 => ?_) ?_
    · have e2 : s.length = ((s.length : Nat) : Int).toNat := by simp
      conv => arg 5; rw [e2]
      exact i_range1 (a_cons (p_lenS (hrow rfl rfl) (by omega)) a_nil) (by omega)
    · obtain ⟨c, hc⟩ : ∃ c, s.cps.toList[j]? = some c := ⟨_, List.getElem?_eq_getElem (by rw [cps_len]; exact hj)⟩
      have hat2 : atI s.cps.toList (j : Int) = some c := at_sign (by omega) (by simpa using hc)
      have hseat : seatP s j = decide (c = 111) := by
        unfold seatP
        have : s.cps[j]? = some c := by rw [← hc]; simp
        rw [this]
        by_cases q : c = 111 <;> simp [q]
      rw [Int.zero_add]
      walk_at "nrm"
      walk_at "last"
      apply sx_when (b := seatP s j && decide (((i : Int) + (j : Int) + (s0.length : Int)) % 3 = 0))
      · refine EvT.is (t_and (a := decide ((⟨#[c]⟩ : Str) = ("o" : Str))) (b := decide (((i : Int) + (j : Int) + (s0.length : Int)) % 3 = 0)) (t_test (p_eqS (p_ixS (hrow rfl rfl) (p_var rfl) (by omega) hat2) p_str)) fun _ => t_test (p_eqI (p_opC (p_opI (p_opI (p_var rfl) (p_var rfl)) (p_lenS (hrow0 rfl) (by omega))) p_int ?_) p_int)) ?_
        · walk_at "sd"
        · rw [sign_o, hseat]
      · intro hb
        have hb1 : seatP s j = true := by
          simp only [Bool.and_eq_true] at hb
          exact hb.1
        have hst : isSeat rows (i : Int) (j : Int) = true := by rw [isSeat_nat hs]; exact hb1
        walk_at "last"
        apply sx_skip
        · exact t_test (p_neON (o := valA (takenOf h) ((i : Int), (j : Int))) (p_who (p_var rfl) (.inl (hS2 _ (hS _ List.mem_cons_self))) (p_var rfl) (p_var rfl) hshort (by omega) (by omega) ok.sl hst) (p_get1T (s := ((i : Int), (j : Int))) (EvP.toS (p_var rfl)) (p_spot (p_var rfl) (p_var rfl))))
        walk_at "into"
        walk_at "end"
        · rfl
        · exact ⟨rfl, rfl, rfl, rfl, rfl, trivial⟩
      · intro _
        walk_at "end"
        · rfl
        · exact ⟨rfl, rfl, rfl, rfl, rfl, trivial⟩
    · walk_at "end"
      · rfl
      · exact ⟨rfl, rfl, rfl, rfl, trivial⟩
  apply sx_skip
  · refine EvT.is (t_or (a := false) (b := false) ?_ fun _ => EvT.is (t_or (a := false) (b := false) ?_ fun _ => ?_) rfl) rfl
    · exact EvT.is (t_not (t_B (p_isi (EvP.toS (p_hall (p_var rfl) cP n1)) p_ty rfl (t := "list") ⟨by decide, by decide⟩ kit_list_list))) rfl
    · exact t_test (p_neSame (n := 1) (d := .lst (rows.map D.str)) (EvP.toS (p_hall (p_var rfl) cP n1)) (EvP.toS (p_var rfl)) (pl_rows5 hg.2.2) (by decide))
    · refine EvT.is (t_test (p_neI (p_lenL (ds := (shown 0 (takenOf h) rows 35).map D.str) (EvP.toS (EvN.toP (n_drawn (p_var rfl) (.inl List.mem_cons_self) (by omega) ok.sl hg)))) (p_lenL (ds := rows.map D.str) (EvP.toS (p_var rfl))))) ?_
      rw [List.length_map, List.length_map, shown_len, decide_eq_true rfl]
      rfl
  refine sx_forR (lo := 0) (n := rows.length) (fun i => []) (fun i => [some (planD T.a_Plan rows g d), some (.lst (rows.map D.str)), some dh, some (tdD (takenOf h)), none, none, none, none]) ?_ rfl ⟨rfl, rfl, rfl, rfl, trivial⟩ (fun i hi S' hS => ?_) ?_
  · have e2 : rows.length = (((rows.map D.str).length : Nat) : Int).toNat := by simp
    conv => arg 5; rw [e2]
    exact i_range1 (a_cons (p_lenL (ds := rows.map D.str) (EvP.toS (p_var rfl))) a_nil) (by rw [List.length_map]; omega)
  · obtain ⟨s, hs⟩ : ∃ s, rows[i]? = some s := ⟨_, List.getElem?_eq_getElem hi⟩
    rw [Int.zero_add]
    walk_at "nrm"
    apply sx_asg (d := .int (Txt.find s ("." : Str)))
    · exact p_find (p_ixL (ds := rows.map D.str) (EvP.toS (p_var rfl)) (p_var rfl) (at_m (f := D.str) (by omega) (by simpa using hs))) p_str
    walk_at "nrm"
    have hfd := fun h0 => find_dot (s := s) rfl h0
    generalize Txt.find s ("." : Str) = z at hfd
    walk_at "last"
    apply sx_skip
    · refine EvT.is (t_and (a := decide (0 ≤ z)) (b := false) (t_test (p_opB (p_var rfl) p_int)) fun hz => ?_) (by simp)
      have hz' : 0 ≤ z := by simpa using hz
      have hns : isSeat rows (i : Int) z = false := by
        rw [isSeat_at (by omega) (by simpa using hs) hz' (hfd hz')]
        decide
      exact EvT.is (t_not (t_B (Cr.p_law_gap (p_var rfl) (p_var rfl) (p_var rfl) hshort (by omega) hns))) rfl
    walk_at "end"
    · rfl
    · exact ⟨rfl, rfl, rfl, rfl, trivial⟩
  walk_at "last"
  walk_at "ret"
  rfl

namespace Hw
/-! ### what is called within the suite that takes NoRoom -/
theorem ok_is_name {P : Program} {w : World} {K : PySem.W.Frag} {mg : Str → Option Value} {base : Heap} (T : Top K mg) : L2H.FnH P w K mg base CX0 1 T.a_is_name T.f_is_name ["name"] (spD K pre_is_name) := by
  refine Ho.fnOkH T.F_is_name sc_is_name (fun ds R o h => by obtain ⟨s, rfl, _⟩ := h; rfl) fun ds R o h cdv A outer sh H E hp0 hot0 hr => ?_
  obtain ⟨s, rfl, rfl, hg, rfl⟩ := h
  refine ⟨_, (pss_cons (ps_if (PW.pt (pw_or (pt_not (pt_val (pe_callB (r := rIsi K) call_isi (by rfl) T.m_isinstance PyProof.Rows.boot_isinstance (pa_cons (pv 0) (pa_cons (pe_bltn (v := .ty "str") (by rfl) T.m_str PyProof.Rows.boot_str rfl) pa_nil))))) (pw_or1 (pt_not (pt_chain op_le op_le pe_int (pe_callB call_len_str (by rfl) T.m_len PySem.boot_len (pa_cons (pv 0) pa_nil)) (pe_glob rfl T.h_LONGEST_NAME T.r_LONGEST_NAME))))))
  (pss_one (ps_ret pe_bl))
  pss_nil)
  (pss_cons (L2H.ps_forH PassesOwn.never ⟨hp0, hot0, List.mem_singleton_self _⟩ (Ho.pi_strH (pv 0)) (pg_name (i := 1) sc_is_name.nd rfl (Or.inl rfl))
  (pss_one (ps_if (pt_cmpR op_notin_str (pv 1) (pe_glob rfl T.h_NAME_SIGNS T.r_NAME_SIGNS) (by rfl))
  (pss_one (ps_ret pe_bl))
  pss_nil)))
  (pss_one (ps_ret pe_bl)))), fun F Q post => ?_⟩
  (try dsimp only [L2H.cxH, L2.cxOf, L2.Cx.nox, L2.Cx.wish])
  walk_at "go"
  have h1 := hg.1
  have h2 := hg.2.1
  have hz : s.length ≤ 100000 := by omega
  apply sx_skip
  · refine EvT.is (t_or (a := false) (b := false) ?_ fun _ => ?_) rfl
    · apply EvT.is
      · walk_at "pv"
      · rfl
    · apply EvT.is
      · walk_at "pv"
      · simp
        omega
  refine sx_forU (us := s.cps.toList) (enc := fun k => D.str ⟨#[k]⟩) (gr := []) (fun _ => []) (fun _ => [some (.str s), none]) ?_ (fun x hx => nomatch hx) rfl ⟨rfl, trivial⟩ (fun i c hc S' hS => ?_) ?_
  · exact i_str (p_var rfl)
  · have hcm := List.all_eq_true.mp signs_in c (hg.2.2 c (List.mem_of_getElem? hc))
    walk_at "nrm"
    walk_at "last"
    walk_at "skip"
    · rw [hcm]; rfl
    walk_at "end"
    · rfl
    · walk_at "le"
  · walk_at "ret"
    rfl
theorem ok_blocks_of_row {P : Program} {w : World} {K : PySem.W.Frag} {mg : Str → Option Value} {base : Heap} (T : Top K mg) : L2H.FnH P w K mg base CX0 1 T.a_blocks_of_row T.f_blocks_of_row ["row", "signs"] (spD K pre_blocks_of_row) := by
  refine Ho.fnOkH T.F_blocks_of_row sc_blocks_of_row (fun ds R o h => by obtain ⟨row, s, rfl, _⟩ := h; rfl) fun ds R o h cdv A outer s H E hp0 hot0 hr => ?_
  obtain ⟨row, s, rfl, rfl, hz, rfl⟩ := h
  refine ⟨_, (pss_cons (ps_set (i := 2) sc_blocks_of_row.nd rfl (Or.inl rfl) (pe_lst pa_nil))
  (pss_cons (ps_set (i := 3) sc_blocks_of_row.nd rfl (Or.inl rfl) pe_int)
  (pss_cons (L2H.ps_forH PassesOwn.never ⟨hp0, hot0, List.mem_singleton_self _⟩ (Ho.pi_enumSH (by rfl) T.m_enumerate (pa_cons (pe_op op_add_str (pv 1) (pe_glob rfl T.h_GAP T.r_GAP)) pa_nil)) (Ho.pg_tupH ⟨hp0, hot0, List.mem_singleton_self _⟩ (pgs_cons (pg_name (i := 4) sc_blocks_of_row.nd rfl (Or.inl rfl)) (pgs_cons (pg_name (i := 5) sc_blocks_of_row.nd rfl (Or.inl rfl)) pgs_nil)))
  (pss_one (ps_if (pt_cmpR op_eq (pv 5) (pe_glob rfl T.h_SEAT T.r_SEAT) (nomark _))
  (pss_one (ps_aug (i := 3) sc_blocks_of_row.nd rfl (Or.inl rfl) pe_int ip_add))
  (pss_one (ps_if (pt_cmpR op_gt (pv 3) pe_int (nomark _))
  (pss_cons (ps_expr (pe_bm PySem.F.plainAttrs_list PySem.F.slot_list_append PySem.F.type_list_append mt_append (pv 2) (pa_cons (pe_tup (pa_cons (pv 0) (pa_cons (pe_op op_sub (pv 4) (pv 3)) (pa_cons (pv 3) pa_nil)))) pa_nil)))
  (pss_one (ps_set (i := 3) sc_blocks_of_row.nd rfl (Or.inl rfl) pe_int)))
  pss_nil)))))
  (pss_one (ps_ret (pv 2)))))), fun F Q post => ?_⟩
  (try dsimp only [L2H.cxH, L2.cxOf, L2.Cx.nox, L2.Cx.wish])
  walk_at "go"
  walk_at "own"
  intro p
  walk_at "nrm"
  walk_at "asg"
  have h1l : ("." : Str).length = 1 := by decide +kernel
  have hsz : (s ++ ("." : Str)).cps.size = s.length + 1 := by
    show (s.cps ++ ("." : Str).cps).size = _
    rw [Array.size_append]
    exact congrArg (s.cps.size + ·) h1l
  refine sx_forE (gr := []) (ds := signsD (s ++ ("." : Str))) (fun i => [(p, .lst (((scanP (seatP s) i).1.map (bRun row)).map encRun))]) (fun i => [some (.int row), some (.str s), some (.ref p), some (.int ((scanP (seatP s) i).2 : Int)), none, none]) ?_ (fun x hx => nomatch hx) rfl ⟨rfl, rfl, rfl, rfl, trivial⟩ (fun i d hd S' hS => ?_) ?_
  · walk_at "pv"
  · unfold signsD at hd
    rw [List.getElem?_map] at hd
    obtain ⟨c, hc, rfl⟩ := Option.map_eq_some_iff.mp hd
    have hf := dot_at s (i := i) (c := c) (by simpa using hc)
    have hi : i < s.length + 1 := by
      have := (List.getElem?_eq_some_iff.mp hc).1
      rw [Array.length_toList, hsz] at this
      exact this
    have hm := (scanP_ok (seatP s) i).le
    have hlen : (scanP (seatP s) i).1.length ≤ i := by
      have k := scanP_ok (seatP s) i
      have h1 : (scanP (seatP s) i).1.length ≤ ((scanP (seatP s) i).1.map (·.2)).sum := by
        have hk := k.ok
        generalize (scanP (seatP s) i).1 = l at hk
        induction l with
        | nil => simp
        | cons b r ih =>
          have := (hk b (by simp)).1
          have h2 := ih fun c hc => hk c (by simp [hc])
          simp
          omega
      have h2 := k.sum
      have h3 := List.length_filter_le (seatP s) (List.range i)
      rw [List.length_range] at h3
      omega
    walk_at "nrm"
    walk_at "if1" <;> intro hb
    · rw [sign_o, hf] at hb
      apply Sx.last
      apply sx_aug
      · exact rfl
      · walk_at "pv"
      walk_at "nrm"
      walk_at "end"
      · rw [scanP_one hb]
      · rw [scanP_one hb]
        exact ⟨rfl, rfl, rfl, rfl, trivial⟩
    · rw [sign_o, hf] at hb
      have hb' : ¬ seatP s i = true := by simp [hb]
      walk_at "last"
      walk_at "when" <;> intro hq
      · have h0 : 0 < (scanP (seatP s) i).2 := by simpa using hq
        walk_at "app"
        · simp; omega
        walk_at "last"
        walk_at "asg"
        walk_at "into"
        walk_at "end"
        · rw [scanP_cut hb' h0, List.map_append, List.map_append]
          have e6 : (((i - (scanP (seatP s) i).2 : Nat) : Int)) = (i : Int) - ((scanP (seatP s) i).2 : Int) := by omega
          simp [bRun, e6, encRun]
        · rw [scanP_cut hb' h0]
          exact ⟨rfl, rfl, rfl, rfl, trivial⟩
      · have h0 : ¬ 0 < (scanP (seatP s) i).2 := by simpa using hq
        walk_at "end"
        · rw [scanP_stay hb' h0]
        · rw [scanP_stay hb' h0]
          exact ⟨rfl, rfl, rfl, rfl, trivial⟩
  · have e : (signsD (s ++ ("." : Str))).length = s.length + 1 := by unfold signsD; rw [List.length_map, Array.length_toList, hsz]
    rw [e]
    exact sx_retG (p_var rfl) List.mem_cons_self post
theorem ok_blocks_of {P : Program} {w : World} {K : PySem.W.Frag} {mg : Str → Option Value} {base : Heap} (T : Top K mg) : L2H.FnH P w K mg base CX0 2 T.a_blocks_of T.f_blocks_of ["rows"] (spD K pre_blocks_of) := by
  refine Ho.fnOkH T.F_blocks_of sc_blocks_of (fun ds R o h => by obtain ⟨rows, rfl, _⟩ := h; rfl) fun ds R o h cdv A outer s H E hp0 hot0 hr => ?_
  obtain ⟨rows, rfl, rfl, hn, hsh, rfl⟩ := h
  refine ⟨_, (pss_cons (ps_set (i := 1) sc_blocks_of.nd rfl (Or.inl rfl) (pe_lst pa_nil))
  (pss_cons (L2H.ps_forH PassesOwn.never ⟨hp0, hot0, List.mem_singleton_self _⟩ (Ho.pi_enumH (by rfl) T.m_enumerate (pa_cons (pv 0) pa_nil)) (Ho.pg_tupH ⟨hp0, hot0, List.mem_singleton_self _⟩ (pgs_cons (pg_name (i := 2) sc_blocks_of.nd rfl (Or.inl rfl)) (pgs_cons (pg_name (i := 3) sc_blocks_of.nd rfl (Or.inl rfl)) pgs_nil)))
  (pss_one (ps_expr (pe_bm PySem.F.plainAttrs_list PySem.F.slot_list_extend PySem.F.type_list_extend mt_extend (pv 1) (pa_cons (Ho.pe_callQ (ok_blocks_of_row T) (hr.mono (by decide)) ⟨hp0, hot0, List.mem_singleton_self _⟩ (by rfl) T.g_blocks_of_row T.F_blocks_of_row.kp T.b_blocks_of_row pass0 (pa_cons (pv 2) (pa_cons (pv 3) pa_nil))) pa_nil)))))
  (pss_one (ps_ret (pv 1))))), fun F Q post => ?_⟩
  (try dsimp only [L2H.cxH, L2.cxOf, L2.Cx.nox, L2.Cx.wish])
  walk_at "go"
  walk_at "own"
  intro p
  walk_at "nrm"
  refine sx_forE (gr := []) (ds := rows.map D.str) (fun i => [(p, .lst ((hallRs (rows.take i)).map encRun))]) (fun i => [some (.lst (rows.map D.str)), some (.ref p), none, none]) ?_ (fun x hx => nomatch hx) rfl ⟨rfl, rfl, trivial⟩ (fun i d hd S' hS => ?_) ?_
  · walk_at "pv"
  · rw [List.getElem?_map] at hd
    obtain ⟨s, hs, rfl⟩ := Option.map_eq_some_iff.mp hd
    have hsz : s.length ≤ 100 := hsh s (List.mem_of_getElem? hs)
    have hil := (List.getElem?_eq_some_iff.mp hs).1
    have hb1 := runs_count (blocksRow_ok s)
    have hb2 : (hallTs blocksRow 0 (rows.take i)).length ≤ 100 * (rows.take i).length :=
      hallTs_len _ _ fun r hr => Nat.le_trans (runs_count (blocksRow_ok r)) (hsh r (List.mem_of_mem_take hr))
    rw [List.length_take] at hb2
    walk_at "nrm"
    apply Sx.last
    apply sx_ext 0
    · walk_at "pv"
    · exact rfl
    · walk_at "pv"
    · simp [hallRs]; omega
    walk_at "nrm"
    walk_at "end"
    · rw [List.take_add_one, hs]
      show [(p, D.lst ((hallRs (rows.take i)).map encRun ++ _))] = [(p, D.lst ((hallRs (rows.take i ++ [s])).map encRun))]
      rw [hallRs_snoc, List.map_append, show ((rows.take i).length : Int) = (i : Int) by rw [List.length_take]; omega]
    · walk_at "le"
  · rw [List.length_map, List.take_length]
    exact sx_retG (p_var rfl) List.mem_cons_self post
theorem ok_with_taken {P : Program} {w : World} {K : PySem.W.Frag} {mg : Str → Option Value} {base : Heap} (T : Top K mg) : L2H.FnH P w K mg base CX0 1 T.a_with_taken T.f_with_taken ["rows", "taken", "sign"] (spD K pre_with_taken) := by
  refine Ho.fnOkH T.F_with_taken sc_with_taken (fun ds R o h => by obtain ⟨rows, td, sg, rfl, _⟩ := h; rfl) fun ds R o h cdv A outer s H E hp0 hot0 hr => ?_
  obtain ⟨rows, td, sg, rfl, rfl, hn, hsh, rfl⟩ := h
  refine ⟨_, (pss_cons (ps_set (i := 3) sc_with_taken.nd rfl (Or.inl rfl) (pe_lst pa_nil))
  (pss_cons (L2H.ps_forH PassesOwn.never ⟨hp0, hot0, List.mem_singleton_self _⟩ (Ho.pi_enumH (by rfl) T.m_enumerate (pa_cons (pv 0) pa_nil)) (Ho.pg_tupH ⟨hp0, hot0, List.mem_singleton_self _⟩ (pgs_cons (pg_name (i := 4) sc_with_taken.nd rfl (Or.inr rfl)) (pgs_cons (pg_name (i := 5) sc_with_taken.nd rfl (Or.inr rfl)) pgs_nil)))
  (pss_cons (by exact (Ho.ps_setLcH (i := 6) (own := [("place", 7)]) (g := (gName 7)) (tt := tYes) ⟨hp0, hot0, List.mem_singleton_self _⟩ sc_with_taken.nd rfl rfl (sw_true rfl rfl rfl (by decide +kernel)) (by exact (L2H.pi_range1H (by rfl) T.m_range (pa_cons (pe_callB call_len_str (by rfl) T.m_len PySem.boot_len (pa_cons (pv 5) pa_nil)) pa_nil))) (blkOk_by (N := ["rows", "taken", "sign", "shown", "row", "signs", "places", "place"]) (sc := defScope s_with_taken) (by decide +kernel)) (fun hp0 hot0 _ _ _ _ _ => by exact (pg_name (i := 7) sc_with_taken.nd rfl (Or.inl rfl))) (fun hp0 hot0 _ _ _ _ _ => by exact pts_nil) (fun hp0 hot0 _ _ _ _ _ => by exact (pe_ifExp (pt_cmp (pc_din (Ho.hu_ofH hr) (pe_tup (pa_cons (pv 4) (pa_cons (pv 7) pa_nil))) (pv 1))) (pv 2) (pe_ix ix_str (pv 5) (pv 7) (fun _ _ => rfl))))))
  (pss_one (ps_expr (pe_bm PySem.F.plainAttrs_list PySem.F.slot_list_append PySem.F.type_list_append mt_append (pv 3) (pa_cons (pe_m1 (r := Dl.rJoinQ K) PySem.F.slot_str_join PySem.F.type_str_join mt_join pe_str (pv 6)) pa_nil))))))
  (pss_one (ps_ret (pv 3))))), fun F Q post => ?_⟩
  (try dsimp only [L2H.cxH, L2.cxOf, L2.Cx.nox, L2.Cx.wish])
  walk_at "go"
  walk_at "own"
  intro p
  walk_at "nrm"
  refine sx_forE (gr := []) (ds := rows.map D.str) (fun i => [(p, .lst ((shown 0 td (rows.take i) sg).map D.str))]) (fun i => [some (.lst (rows.map D.str)), some (tdD td), some (.str ⟨#[sg]⟩), some (.ref p), none, none, none, none]) ?_ (fun x hx => nomatch hx) rfl ⟨rfl, rfl, rfl, rfl, trivial⟩ (fun i d hd S' hS => ?_) ?_
  · walk_at "pv"
  · rw [List.getElem?_map] at hd
    obtain ⟨s, hs, rfl⟩ := Option.map_eq_some_iff.mp hd
    have hsz : s.length ≤ 100 := hsh s (List.mem_of_getElem? hs)
    have hil := (List.getElem?_eq_some_iff.mp hs).1
    have hlen := shown_len td sg (rows.take i) 0
    rw [List.length_take] at hlen
    walk_at "nrm"
    apply sx_asg (d := .lst ((List.range s.length).map fun (q : Nat) => D.str (if tkn td (i : Int) (q : Int) then ⟨#[sg]⟩ else ⟨#[s.cps.toList.getD q 0]⟩)))
    · apply EvN.toP
      apply n_map (g := []) (us := List.range s.length) (enc := fun (q : Nat) => D.int (q : Int)) (f := fun (q : Nat) => D.str (if tkn td (i : Int) (q : Int) then ⟨#[sg]⟩ else ⟨#[s.cps.toList.getD q 0]⟩))
      · rw [show List.range s.length = List.range ((s.length : Int)).toNat by simp]
        walk_at "pv"
      · exact fun x hx => nomatch hx
      · intro u hu
        walk_at "pv"
      · decide
      · intro u hu
        have hu' := List.mem_range.mp hu
        have hat : atI s.cps.toList (u : Int) = some (s.cps.toList.getD u 0) := by
          apply at_sign (by omega)
          rw [Int.toNat_natCast, List.getD_eq_getElem?_getD, List.getElem?_eq_getElem (by rw [cps_len]; exact hu')]
          rfl
        apply p_ifS
        · show Dl.EvT _ _ _ _ (valA td ((i : Int), (u : Int))).isSome
          walk_at "pv"
        · intro _; walk_at "pv"
        · intro _; walk_at "pv"
      · simp; omega
    walk_at "nrm"
    apply Sx.last
    have e : (List.range s.length).map (fun (q : Nat) => if tkn td (i : Int) (q : Int) then (⟨#[sg]⟩ : Str) else ⟨#[s.cps.toList.getD q 0]⟩) = ((List.range s.length).map fun (q : Nat) => if tkn td (i : Int) (q : Int) then sg else s.cps.toList.getD q 0).map fun k => (⟨#[k]⟩ : Str) := by
      rw [List.map_map]
      refine List.map_congr_left fun q _ => ?_
      show _ = (⟨#[if tkn td (i : Int) (q : Int) then sg else s.cps.toList.getD q 0]⟩ : Str)
      split <;> rfl
    have ones : ∀ l : List Nat, ((l.map fun k => (⟨#[k]⟩ : Str)).map (·.length)).sum = l.length := by
      intro l
      induction l with
      | nil => rfl
      | cons k l ih => rw [List.map_cons, List.map_cons, List.sum_cons, ih, List.length_cons]; show 1 + _ = _; omega
    apply sx_app 0 (d := .str (shownS td (i : Int) s sg))
    · walk_at "pv"
    · exact rfl
    · refine EvP.is (p_joinF (us := List.range s.length) (g := fun (q : Nat) => if tkn td (i : Int) (q : Int) then (⟨#[sg]⟩ : Str) else ⟨#[s.cps.toList.getD q 0]⟩) (s := ("" : Str)) ?_ ?_ ?_) ?_
      · walk_at "pv"
      · walk_at "pv"
      · rw [e, ones]
        have z : ("" : Str).length = 0 := by decide +kernel
        rw [z]
        simp
        omega
      · rw [e, join_signs]
        rfl
    · simp; omega
    walk_at "nrm"
    walk_at "end"
    · rw [List.take_add_one, hs]
      show _ = [(p, D.lst ((shown 0 td (rows.take i ++ [s]) sg).map D.str))]
      rw [shown_snoc, List.map_append, show ((0 + (rows.take i).length : Nat) : Int) = (i : Int) by rw [List.length_take]; omega]
      rfl
    · walk_at "le"
  · rw [List.length_map, List.take_length]
    exact sx_retG (p_var rfl) List.mem_cons_self post
theorem ok_runs_of {P : Program} {w : World} {K : PySem.W.Frag} {mg : Str → Option Value} {base : Heap} (T : Top K mg) : L2H.FnH P w K mg base CX0 3 T.a_runs_of T.f_runs_of ["rows", "taken"] (spD K pre_runs_of) := by
  refine Ho.fnOkH T.F_runs_of sc_runs_of (fun ds R o h => by obtain ⟨rows, td, rfl, _⟩ := h; rfl) fun ds R o h cdv A outer s H E hp0 hot0 hr => ?_
  obtain ⟨rows, td, rfl, rfl, hn, hsh, rfl⟩ := h
  refine ⟨_, (pss_one (ps_ret (Ho.pe_callQ (ok_blocks_of T) (hr.mono (by decide)) ⟨hp0, hot0, List.mem_singleton_self _⟩ (by rfl) T.g_blocks_of T.F_blocks_of.kp T.b_blocks_of pass0 (pa_cons (Ho.pe_callQ (ok_with_taken T) (hr.mono (by decide)) ⟨hp0, hot0, List.mem_singleton_self _⟩ (by rfl) T.g_with_taken T.F_with_taken.kp T.b_with_taken pass0 (pa_cons (pv 0) (pa_cons (pv 1) (pa_cons (pe_glob rfl T.h_GAP T.r_GAP) pa_nil)))) pa_nil)))), fun F Q post => ?_⟩
  (try dsimp only [L2H.cxH, L2.cxOf, L2.Cx.nox, L2.Cx.wish])
  walk_at "go"
  have h1 := shown_len td 46 rows 0
  have h2 : (shown 0 td rows 46).length ≤ 100 := by omega
  have h3 : Short (shown 0 td rows 46) := shown_short td 46 rows 0 hsh
  have hdot : ("." : Str) = ⟨#[46]⟩ := sOf_dot
  rw [hdot]
  walk_at "retN"
theorem ok_Plan_groups {P : Program} {w : World} {K : PySem.W.Frag} {mg : Str → Option Value} {base : Heap} (T : Top K mg) : L2H.FnH P w K mg base CX0 1 T.a_Plan_groups T.f_Plan_groups ["self"] (spD K (pre_Plan_groups T.a_Plan)) := by
  refine Ho.fnOkH T.F_Plan_groups sc_Plan_groups (fun ds R o h => by obtain ⟨rows, g, d, gs, rfl, _⟩ := h; rfl) fun ds R o h cdv A outer sh H E hp0 hot0 hr => ?_
  obtain ⟨rows, g, d, gs, rfl, rfl, hl, rfl⟩ := h
  have cP := T.c_Plan
  have n2 := T.n_Plan__groups
  refine ⟨_, (pss_one (ps_ret (by exact (Ho.pe_lcH (own := [("name", 1), ("spots", 2)]) (g := (gTup K 2 (gCons (gName 1) (gCons (gName 2) gNil)))) (tt := tYes) ⟨hp0, hot0, List.mem_singleton_self _⟩ sc_Plan_groups.nd (by exact (Ho.pi_listH (pe_fld (pv 0) rfl))) (blkOk_by (N := ["self", "name", "spots"]) (sc := defScope s_Plan_groups) (by decide +kernel)) (fun hp0 hot0 _ _ _ _ _ => by exact (Ho.pg_tupH ⟨hp0, hot0, List.mem_singleton_self _⟩ (pgs_cons (pg_name (i := 1) sc_Plan_groups.nd rfl (Or.inl rfl)) (pgs_cons (pg_name (i := 2) sc_Plan_groups.nd rfl (Or.inl rfl)) pgs_nil)))) (fun hp0 hot0 _ _ _ _ _ => by exact pts_nil) (fun hp0 hot0 _ _ _ _ _ => by exact (pv 1)))))), fun F Q post => ?_⟩
  (try dsimp only [L2H.cxH, L2.cxOf, L2.Cx.nox, L2.Cx.wish])
  walk_at "go"
  have e : (namesOf gs).map D.str = gs.map fun u => D.str u.1 := by unfold namesOf; rw [List.map_map]; rfl
  rw [e] at post
  apply sx_retN
  · apply n_map (g := []) (us := gs) (enc := encGp) (f := fun u => D.str u.1)
    · exact i_listS (p_groups (p_var rfl) cP n2) List.mem_cons_self
    · exact fun x hx => nomatch hx
    · intro u hu
      walk_at "pv"
    · decide
    · intro u hu
      walk_at "pv"
    · omega
  · exact post
theorem ok_Plan_need_known {P : Program} {w : World} {K : PySem.W.Frag} {mg : Str → Option Value} {base : Heap} (T : Top K mg) : L2H.FnH P w K mg base CX0 2 T.a_Plan_need_known T.f_Plan_need_known ["self", "name"] (spD K (pre_Plan_need_known T.a_Plan)) := by
  refine Ho.fnOkH T.F_Plan_need_known sc_Plan_need_known (fun ds R o h => by obtain ⟨rows, g, d, gs, n, j, rfl, _⟩ := h; rfl) fun ds R o h cdv A outer sh H E hp0 hot0 hr => ?_
  obtain ⟨rows, g, d, gs, n, j, rfl, rfl, hl, hn, h3, h4, rfl⟩ := h
  refine ⟨_, (pss_cons (ps_set (i := 2) sc_Plan_need_known.nd rfl (Or.inl rfl) (Ho.pe_meth0Q (pv 0) T.c_Plan T.me_Plan_groups (ok_Plan_groups T) (hr.mono (by decide)) ⟨hp0, hot0, List.mem_singleton_self _⟩ T.b_Plan_groups pass0))
  (pss_cons (ps_if (PW.pt (pw_or (pt_not (pt_val (Ho.pe_callQ (ok_is_name T) (hr.mono (by decide)) ⟨hp0, hot0, List.mem_singleton_self _⟩ (by rfl) T.g_is_name T.F_is_name.kp T.b_is_name pass0 (pa_cons (pv 1) pa_nil)))) (pw_or1 (pt_cmpR (r := rIn K true) op_notIn_seq (pv 1) (pv 2) (by rfl)))))
  (pss_one Ho.ps_dead)
  pss_nil)
  (pss_one (ps_ret (pe_bm PySem.F.plainAttrs_list PySem.F.slot_list_index PySem.F.type_list_index mt_index (pv 2) (pa_cons (pv 1) pa_nil)))))), fun F Q post => ?_⟩
  (try dsimp only [L2H.cxH, L2.cxOf, L2.Cx.nox, L2.Cx.wish])
  walk_at "go"
  apply sx_asg
  · exact (n_Plan_groups (p_var rfl) (.inl List.mem_cons_self) hl).toP
  walk_at "nrm"
  generalize namesOf gs = ns at h3 h4
  have hfl := fl_strs ns
  apply sx_skip
  · refine EvT.is (t_or (a := false) (b := false) ?_ fun _ => ?_) rfl
    · apply EvT.is
      · walk_at "pv"
      · rfl
    · refine EvT.is (t_test (p_inL (neg := true) (p_var rfl) (EvP.toS (p_var rfl)) rfl hfl)) ?_
      show (!inV (.str n) ((ns.map D.str).map D.v)) = false
      rw [inV_mem (List.mem_of_getElem? h3)]
      rfl
  refine sx_ret (p_index (EvP.toS (p_var rfl)) (p_var rfl) h3 h4) post
theorem ok_Plan_seats {P : Program} {w : World} {K : PySem.W.Frag} {mg : Str → Option Value} {base : Heap} (T : Top K mg) : L2H.FnH P w K mg base CX0 3 T.a_Plan_seats T.f_Plan_seats ["self", "name"] (spD K (pre_Plan_seats T.a_Plan)) := by
  refine Ho.fnOkH T.F_Plan_seats sc_Plan_seats (fun ds R o h => by obtain ⟨rows, g, d, gs, n, j, gp, rfl, _⟩ := h; rfl) fun ds R o h cdv A outer sh H E hp0 hot0 hr => ?_
  obtain ⟨rows, g, d, gs, n, j, gp, rfl, rfl, hl, hn, h3, h4, h5, rfl⟩ := h
  have cP := T.c_Plan
  have n2 := T.n_Plan__groups
  refine ⟨_, (pss_one (ps_ret (pe_callTy (r := Dl.rListQ K) call_list_of (by rfl) T.m_list PyProof.Rows.boot_list (pa_cons (pe_ix (r := rIxT K) ix_tup (pe_ix (r := rIxL K) ix_list (pe_fld (pv 0) rfl) (Ho.pe_methQ (pv 0) T.c_Plan T.me_Plan_need_known (ok_Plan_need_known T) (hr.mono (by decide)) ⟨hp0, hot0, List.mem_singleton_self _⟩ T.b_Plan_need_known pass0 (pa_cons (pv 1) pa_nil)) (fun _ _ => rfl)) pe_int (fun _ _ => rfl)) pa_nil)))), fun F Q post => ?_⟩
  (try dsimp only [L2H.cxH, L2.cxOf, L2.Cx.nox, L2.Cx.wish])
  walk_at "go"
  apply sx_retN
  · apply n_list
    apply EvP.toS
    refine p_ixT (ds := [.str gp.1, .lst (gp.2.map encSpot)]) ?_ p_int at_1
    refine p_ixL (ds := gs.map encGp) (i := (j : Nat)) (EvS.res (p_groups (p_var rfl) cP n2) (.inl List.mem_cons_self)) ?_ (at_m (f := encGp) (by omega) (by simpa using h5))
    exact p_Plan_need_known (p_var rfl) (.inl List.mem_cons_self) (p_var rfl) hl hn h3 h4
  · exact post

theorem ok_Plan_taken {P : Program} {w : World} {K : PySem.W.Frag} {mg : Str → Option Value} {base : Heap} (T : Top K mg) : L2H.FnH P w K mg base CX0 1 T.a_Plan_taken T.f_Plan_taken ["self"] (spD K (pre_Plan_taken T.a_Plan)) := by
  refine Ho.fnOkH T.F_Plan_taken sc_Plan_taken (fun ds R o h => by obtain ⟨rows, g, d, gs, rfl, _⟩ := h; rfl) fun ds R o h cdv A outer sh H E hp0 hot0 hr => ?_
  obtain ⟨rows, g, d, gs, rfl, rfl, hl, h2, rfl⟩ := h
  have cP := T.c_Plan
  have n2 := T.n_Plan__groups
  have hz : 2400 * gs.length + 2400 ≤ 16000000 := by omega
  refine ⟨_, (pss_one (ps_ret (by exact (Ho.pe_twoH (own := [("name", 1), ("spots", 2), ("spot", 3)]) (vs1 := [3]) (g := (gTup K 2 (gCons (gName 1) (gCons (gName 2) gNil)))) (g1 := (gName 3)) (wi1 := iList K (tVar 2)) ⟨hp0, hot0, List.mem_singleton_self _⟩ (Ho.hu_ofH hr) sc_Plan_taken.nd (by exact (Ho.pi_listH (pe_fld (pv 0) rfl))) (blkOk_by (N := ["self", "name", "spots", "spot"]) (sc := defScope s_Plan_taken) (by decide +kernel)) (by decide) (fun hp0 hot0 _ _ _ _ _ => by exact (Ho.pg_tupH ⟨hp0, hot0, List.mem_singleton_self _⟩ (pgs_cons (pg_name (i := 1) sc_Plan_taken.nd rfl (Or.inl rfl)) (pgs_cons (pg_name (i := 2) sc_Plan_taken.nd rfl (Or.inl rfl)) pgs_nil)))) (fun hp0 hot0 _ _ _ _ _ => by exact (Ho.pi_listH (pv 2))) (fun hp0 hot0 _ _ _ _ _ => by exact (pg_name (i := 3) sc_Plan_taken.nd rfl (Or.inl rfl))) (fun hp0 hot0 _ _ _ _ _ => by exact (pv 3)) (fun hp0 hot0 _ _ _ _ _ => by exact (pv 1)))))), fun F Q post => ?_⟩
  (try dsimp only [L2H.cxH, L2.cxOf, L2.Cx.nox, L2.Cx.wish])
  walk_at "go"
  apply sx_retN
  · apply n_two (g := []) (us := gs) (enc := encGp) (ks := fun u => u.2) (nm := fun u => u.1) (m := 2400)
    · exact i_listS (p_groups (p_var rfl) cP n2) List.mem_cons_self
    · exact fun x hx => nomatch hx
    · intro u hu
      walk_at "pv"
    · decide
    · intro u hu
      exact i_list (p_var rfl)
    · intro u hu s hs
      exact g_name
    · decide
    · intro u hu s hs
      walk_at "pv"
    · intro u hu s hs
      walk_at "pv"
    · exact h2
    · exact hz
  · exact post
theorem ok_Plan_free {P : Program} {w : World} {K : PySem.W.Frag} {mg : Str → Option Value} {base : Heap} (T : Top K mg) : L2H.FnH P w K mg base CX0 4 T.a_Plan_free T.f_Plan_free ["self"] (spD K (pre_Plan_free T.a_Plan)) := by
  refine Ho.fnOkH T.F_Plan_free sc_Plan_free (fun ds R o h => by obtain ⟨rows, g, d, gs, rfl, _⟩ := h; rfl) fun ds R o h cdv A outer sh H E hp0 hot0 hr => ?_
  obtain ⟨rows, g, d, gs, rfl, rfl, hl, h2, hg, rfl⟩ := h
  have cP := T.c_Plan
  have n1 := T.n_Plan_hall
  have h40 := hg.2.1
  refine ⟨_, (pss_one (ps_ret (Ho.pe_callQ (ok_runs_of T) (hr.mono (by decide)) ⟨hp0, hot0, List.mem_singleton_self _⟩ (by rfl) T.g_runs_of T.F_runs_of.kp T.b_runs_of pass0 (pa_cons (pe_fld (pv 0) rfl) (pa_cons (Ho.pe_meth0Q (pv 0) T.c_Plan T.me_Plan_taken (ok_Plan_taken T) (hr.mono (by decide)) ⟨hp0, hot0, List.mem_singleton_self _⟩ T.b_Plan_taken pass0) pa_nil))))), fun F Q post => ?_⟩
  (try dsimp only [L2H.cxH, L2.cxOf, L2.Cx.nox, L2.Cx.wish])
  walk_at "go"
  apply sx_retN
  · exact n_runs_of (p_hall (p_var rfl) cP n1) (n_Plan_taken (p_var rfl) (.inl List.mem_cons_self) hl h2).toP (by omega) hg.short
  · exact post
theorem ok_is_seat {P : Program} {w : World} {K : PySem.W.Frag} {mg : Str → Option Value} {base : Heap} (T : Top K mg) : L2H.FnH P w K mg base CX0 1 T.a_is_seat T.f_is_seat ["rows", "row", "place"] (spD K pre_is_seat) := by
  refine Ho.fnOkH T.F_is_seat sc_is_seat (fun ds R o h => by obtain ⟨rows, r, p, rfl, _⟩ := h; rfl) fun ds R o h cdv A outer sh H E hp0 hot0 hr => ?_
  obtain ⟨rows, r, p, rfl, rfl, hsh, hl, rfl⟩ := h
  refine ⟨_, (pss_cons (ps_if (PW.pt (pw_or (pt_not (pt_chain op_le op_lt pe_int (pv 1) (pe_callB (r := Dl.rLenQ K) call_len_seq (by rfl) T.m_len PySem.boot_len (pa_cons (pv 0) pa_nil)))) (pw_or1 (pt_not (pt_chain op_le op_lt pe_int (pv 2) (pe_callB call_len_str (by rfl) T.m_len PySem.boot_len (pa_cons (pe_ix (r := rIxL K) ix_list (pv 0) (pv 1) (fun _ _ => rfl)) pa_nil)))))))
  (pss_one (ps_ret pe_bl))
  pss_nil)
  (pss_one (ps_ret (pe_cmpR op_eq (pe_ix ix_str (pe_ix (r := rIxL K) ix_list (pv 0) (pv 1) (fun _ _ => rfl)) (pv 2) (fun _ _ => rfl)) (pe_glob rfl T.h_SEAT T.r_SEAT) (nomark _))))), fun F Q post => ?_⟩
  (try dsimp only [L2H.cxH, L2.cxOf, L2.Cx.nox, L2.Cx.wish])
  walk_at "go"
  by_cases h : 0 ≤ r ∧ r < (rows.length : Int)
  · obtain ⟨s, hs⟩ : ∃ s, rows[r.toNat]? = some s := ⟨_, List.getElem?_eq_getElem (by omega)⟩
    have hat : atI (rows.map D.str) r = some (.str s) := at_m (f := D.str) h.1 hs
    have hz := hsh.at hs
    by_cases hp : 0 ≤ p ∧ p < (s.length : Int)
    · obtain ⟨c, hc⟩ : ∃ c, s.cps.toList[p.toNat]? = some c := ⟨_, List.getElem?_eq_getElem (by have := cps_len s; omega)⟩
      have hat2 := at_sign hp.1 hc
      have hseat := isSeat_at h.1 hs hp.1 hc
      rw [hseat] at post
      apply sx_skip
      · refine EvT.is (t_or (a := !(decide (0 ≤ r) && decide (r < ((rows.map D.str).length : Int)))) (b := !(decide (0 ≤ p) && decide (p < (s.length : Int)))) ?_ fun _ => ?_) ?_
        · walk_at "pv"
        · walk_at "pv"
        · rw [List.length_map]
          simp [h.1, h.2, hp.1, hp.2]
      walk_at "last"
      apply sx_retE (d := .bl (decide ((⟨#[c]⟩ : Str) = ("o" : Str))))
      · exact post
      · apply p_eqS
        · walk_at "pv"
        · exact p_str
      · rw [sign_o]
    · have hseat := isSeat_place hs hp
      rw [hseat] at post
      apply sx_when (b := true)
      · refine EvT.is (t_or (a := !(decide (0 ≤ r) && decide (r < ((rows.map D.str).length : Int)))) (b := !(decide (0 ≤ p) && decide (p < (s.length : Int)))) ?_ fun _ => ?_) ?_
        · walk_at "pv"
        · walk_at "pv"
        · rw [List.length_map]
          by_cases h0 : 0 ≤ p
          · have : ¬ p < (s.length : Int) := fun q => hp ⟨h0, q⟩
            simp [this]
          · simp [h0]
      · intro _
        walk_at "last"
        walk_at "ret"
        rfl
      · intro q; cases q
  · have hseat := isSeat_row (p := p) h
    rw [hseat] at post
    have hf : (!(decide (0 ≤ r) && decide (r < ((rows.map D.str).length : Int)))) = true := by
      rw [List.length_map]
      by_cases h0 : 0 ≤ r
      · have : ¬ r < (rows.length : Int) := fun q => h ⟨h0, q⟩
        simp [this]
      · simp [h0]
    apply sx_when (b := true)
    · refine EvT.is (t_or (a := !(decide (0 ≤ r) && decide (r < ((rows.map D.str).length : Int)))) (b := true) ?_ fun q => ?_) (by rw [hf]; rfl)
      · walk_at "pv"
      · rw [hf] at q; cases q
    · intro _
      walk_at "last"
      walk_at "ret"
      rfl
    · intro q; cases q

end Hw
namespace Hw
theorem ok_law_runs {P : Program} {w : World} {K : PySem.W.Frag} {mg : Str → Option Value} {base : Heap} (T : Top K mg) : L2H.FnH P w K mg base CX0 1 T.a_law_runs T.f_law_runs ["_law_rows", "_law_taken"] (spD K pre_law_runs) := by
  refine Ho.fnOkH T.F_law_runs sc_law_runs (fun ds R o h => by obtain ⟨rows, td, rfl, _⟩ := h; rfl) fun ds R o h cdv A outer sh H E hp0 hot0 hr => ?_
  obtain ⟨rows, td, rfl, rfl, hn, hsh, rfl⟩ := h
  refine ⟨_, (pss_cons (ps_set (i := 2) sc_law_runs.nd rfl (Or.inl rfl) (pe_lst pa_nil))
  (pss_cons (L2H.ps_forH PassesOwn.never ⟨hp0, hot0, List.mem_singleton_self _⟩ (L2H.pi_range1H (by rfl) T.m_range (pa_cons (pe_callB (r := Dl.rLenQ K) call_len_seq (by rfl) T.m_len PySem.boot_len (pa_cons (pv 0) pa_nil)) pa_nil)) (pg_name (i := 3) sc_law_runs.nd rfl (Or.inl rfl))
  (pss_cons (ps_set (i := 4) sc_law_runs.nd rfl (Or.inl rfl) pe_int)
  (pss_one (L2H.ps_forH PassesOwn.never ⟨hp0, hot0, List.mem_singleton_self _⟩ (L2H.pi_range1H (by rfl) T.m_range (pa_cons (pe_op op_add (pe_callB call_len_str (by rfl) T.m_len PySem.boot_len (pa_cons (pe_ix (r := rIxL K) ix_list (pv 0) (pv 3) (fun _ _ => rfl)) pa_nil)) pe_int) pa_nil)) (pg_name (i := 5) sc_law_runs.nd rfl (Or.inl rfl))
  (pss_one (ps_if (PW.pt (pw_and (pt_cmpR op_lt (pv 5) (pe_callB call_len_str (by rfl) T.m_len PySem.boot_len (pa_cons (pe_ix (r := rIxL K) ix_list (pv 0) (pv 3) (fun _ _ => rfl)) pa_nil)) (nomark _)) (pw_and (pt_cmpR op_eq (pe_ix ix_str (pe_ix (r := rIxL K) ix_list (pv 0) (pv 3) (fun _ _ => rfl)) (pv 5) (fun _ _ => rfl)) pe_str (nomark _)) (pw_and1 (pt_cmp (pc_dnotin (Ho.hu_ofH hr) (pe_tup (pa_cons (pv 3) (pa_cons (pv 5) pa_nil))) (pv 1)))))))
  (pss_one (ps_set (i := 4) sc_law_runs.nd rfl (Or.inl rfl) (pe_op op_add (pv 4) pe_int)))
  (pss_cons (ps_if (pt_cmpR op_gt (pv 4) pe_int (nomark _))
  (pss_one (ps_expr (pe_bm PySem.F.plainAttrs_list PySem.F.slot_list_append PySem.F.type_list_append mt_append (pv 2) (pa_cons (pe_tup (pa_cons (pv 3) (pa_cons (pe_op op_sub (pv 5) (pv 4)) (pa_cons (pv 4) pa_nil)))) pa_nil))))
  pss_nil)
  (pss_one (ps_set (i := 4) sc_law_runs.nd rfl (Or.inl rfl) pe_int)))))))))
  (pss_one (ps_ret (pv 2))))), fun F Q post => ?_⟩
  (try dsimp only [L2H.cxH, L2.cxOf, L2.Cx.nox, L2.Cx.wish])
  walk_at "go"
  walk_at "own"
  intro p
  walk_at "nrm"
  refine sx_forR (lo := 0) (n := rows.length) (fun i => [(p, .lst ((hallRs (shown 0 td (rows.take i) 46)).map encRun))]) (fun i => [some (.lst (rows.map D.str)), some (tdD td), some (.ref p), none, none, none]) ?_ rfl ⟨rfl, rfl, rfl, trivial⟩ (fun i hi S' hS => ?_) ?_
  · have e2 : rows.length = ((rows.map D.str).length : Int).toNat := by simp
    rw [e2]
    apply i_range1 <;> walk_at "pv"
  · obtain ⟨s, hs⟩ : ∃ s, rows[i]? = some s := ⟨_, List.getElem?_eq_getElem hi⟩
    have hsz := hsh.at hs
    have hsz2 : s.length ≤ 100 := hsh s (List.mem_of_getElem? hs)
    have hat : atI (rows.map D.str) (i : Int) = some (.str s) := at_m (f := D.str) (by omega) (by simpa using hs)
    have hrl := hallRs_le (n := 100) (shown_short td 46 (rows.take i) 0 fun x hx => hsh x (List.mem_of_mem_take hx))
    rw [shown_len, List.length_take] at hrl
    rw [hallRs_shown hs, Int.zero_add]
    have eb : blocksRow (shownS td (i : Int) s 46) = (scanP (seatP (shownS td (i : Int) s 46)) (s.length + 1)).1 := by
      unfold blocksRow runsP
      rw [shownS_len]
    rw [eb]
    have hend : seatP (shownS td (i : Int) s 46) s.length = false := by
      have := seatP_end (shownS td (i : Int) s 46)
      rwa [shownS_len] at this
    have hf : ∀ j, seatP (shownS td (i : Int) s 46) j = (seatP s j && !tkn td (i : Int) (j : Int)) := fun j => shown_seat
    generalize seatP (shownS td (i : Int) s 46) = f at hend hf
    generalize hallRs (shown 0 td (rows.take i) 46) = acc at hrl
    walk_at "nrm"
    walk_at "asg"
    walk_at "last"
    refine sx_forR (lo := 0) (n := s.length + 1) (fun j => [(p, .lst ((acc ++ (scanP f j).1.map (bRun (i : Int))).map encRun))]) (fun j => [some (.lst (rows.map D.str)), some (tdD td), some (.ref p), some (.int (i : Int)), some (.int ((scanP f j).2 : Int)), none]) ?_ ?_ ?_ (fun j hj S'' hS2 => ?_) ?_
    · have e2 : s.length + 1 = ((s.length : Int) + 1).toNat := by omega
      rw [e2]
      apply i_range1 <;> walk_at "pv"
    · simp [scanP]
    · exact ⟨rfl, rfl, rfl, rfl, rfl, trivial⟩
    · have hsl := scan_len f j
      have hm := (scanP_ok f j).le
      rw [Int.zero_add]
      walk_at "nrm"
      have ht : EvT (Ct.wS (Ct.wS ⟨K, H, F, []⟩ S') S'') [(p, .lst ((acc ++ (scanP f j).1.map (bRun (i : Int))).map encRun))] [some (.lst (rows.map D.str)), some (tdD td), some (.ref p), some (.int (i : Int)), some (.int ((scanP f j).2 : Int)), some (.int (j : Int))] (tAnd (tTest (tOp (rI0 fun i j => .bl (decide (i < j))) (tVar 5) (tCB (fun xs H Q => ∃ z, xs = [.str z] ∧ z.length ≤ sizeLine ∧ Q (.int z.length) H) (tCons (tOp (rIxL K) (tVar 0) (tVar 3)) tNil)))) (tAnd (tTest (tOp rEq (tOp rIxS (tOp (rIxL K) (tVar 0) (tVar 3)) (tVar 5)) (tC (.str "o")))) (tTest (tDNotIn (tTup (tCons (tVar 3) (tCons (tVar 5) tNil))) (tVar 1))))) (f j) := by
        by_cases hjl : j < s.length
        · obtain ⟨c, hc⟩ : ∃ c, s.cps.toList[j]? = some c := ⟨_, List.getElem?_eq_getElem (by rw [cps_len]; exact hjl)⟩
          have hat2 : atI s.cps.toList (j : Int) = some c := at_sign (by omega) (by simpa using hc)
          have hseat : seatP s j = decide (c = 111) := by
            unfold seatP
            have : s.cps[j]? = some c := by rw [← hc]; simp
            rw [this]
            by_cases q : c = 111 <;> simp [q]
          refine EvT.is (t_and (a := decide ((j : Int) < (s.length : Int))) (b := decide ((⟨#[c]⟩ : Str) = ("o" : Str)) && !(valA td ((i : Int), (j : Int))).isSome) ?_ fun _ => t_and ?_ fun _ => ?_) ?_
          · walk_at "pv"
          · walk_at "pv"
          · walk_at "pv"
          · rw [sign_o, ← hseat, hf]
            have : decide ((j : Int) < (s.length : Int)) = true := decide_eq_true (by omega)
            rw [this]
            rfl
        · have ej : j = s.length := by omega
          refine EvT.is (t_and (a := decide ((j : Int) < (s.length : Int))) (b := true) ?_ fun q => ?_) ?_
          · walk_at "pv"
          · simp at q; omega
          · rw [ej, hend]
            simp
      apply sx_if1
      · exact ht
      · intro hb
        walk_at "last"
        walk_at "asg"
        walk_at "end"
        · rw [scanP_one hb]
        · rw [scanP_one hb]
          exact ⟨rfl, rfl, rfl, rfl, rfl, trivial⟩
      · intro hb
        have hb' : ¬ f j = true := by simp [hb]
        walk_at "when" <;> intro hq
        · have h0 : 0 < (scanP f j).2 := by simpa using hq
          walk_at "last"
          apply sx_app 0 (d := encRun ((i : Int), (j : Int) - ((scanP f j).2 : Int), ((scanP f j).2 : Int)))
          · walk_at "pv"
          · exact rfl
          · walk_at "pv"
          · rw [List.length_map, List.length_append, List.length_map]
            omega
          walk_at "nrm"
          walk_at "into"
          walk_at "last"
          walk_at "asg"
          walk_at "end"
          · rw [scanP_cut hb' h0]
            have e6 : (((j - (scanP f j).2 : Nat) : Int)) = (j : Int) - ((scanP f j).2 : Int) := by omega
            simp [bRun, e6, encRun]
          · rw [scanP_cut hb' h0]
            exact ⟨rfl, rfl, rfl, rfl, rfl, trivial⟩
        · have h0 : ¬ 0 < (scanP f j).2 := by simpa using hq
          have h00 : (scanP f j).2 = 0 := by omega
          walk_at "last"
          walk_at "asg"
          walk_at "end"
          · rw [scanP_stay hb' h0]
          · rw [scanP_stay hb' h0, h00]
            exact ⟨rfl, rfl, rfl, rfl, rfl, trivial⟩
    · walk_at "end"
      · rfl
      · walk_at "le"
  · rw [List.take_length]
    exact sx_retG (p_var rfl) List.mem_cons_self post
theorem ok_drawn {P : Program} {w : World} {K : PySem.W.Frag} {mg : Str → Option Value} {base : Heap} (T : Top K mg) : L2H.FnH P w K mg base CX0 2 T.a_drawn T.f_drawn ["plan"] (spD K (pre_drawn T.a_Plan)) := by
  refine Ho.fnOkH T.F_drawn sc_drawn (fun ds R o h => by obtain ⟨rows, g, d, gs, rfl, _⟩ := h; rfl) fun ds R o h cdv A outer sh H E hp0 hot0 hr => ?_
  obtain ⟨rows, g, d, gs, rfl, rfl, hl, h2, hg, rfl⟩ := h
  have cP := T.c_Plan
  have n1 := T.n_Plan_hall
  have h40 := hg.2.1
  have hsg : ("#" : Str) = ⟨#[35]⟩ := by decide +kernel
  refine ⟨_, (pss_one (ps_ret (Ho.pe_callQ (ok_with_taken T) (hr.mono (by decide)) ⟨hp0, hot0, List.mem_singleton_self _⟩ (by rfl) T.g_with_taken T.F_with_taken.kp T.b_with_taken pass0 (pa_cons (pe_fld (pv 0) rfl) (pa_cons (Ho.pe_meth0Q (pv 0) T.c_Plan T.me_Plan_taken (ok_Plan_taken T) (hr.mono (by decide)) ⟨hp0, hot0, List.mem_singleton_self _⟩ T.b_Plan_taken pass0) (pa_cons (pe_glob rfl T.h_TAKEN_SEAT T.r_TAKEN_SEAT) pa_nil)))))), fun F Q post => ?_⟩
  (try dsimp only [L2H.cxH, L2.cxOf, L2.Cx.nox, L2.Cx.wish])
  walk_at "go"
  rw [hsg]
  apply sx_retN
  · exact n_with_taken (p_hall (p_var rfl) cP n1) (n_Plan_taken (p_var rfl) (.inl List.mem_cons_self) hl h2).toP p_str (by omega) hg.short
  · exact post
def pre_need_seatG (C : Addr) : Pre := fun ds R o => ∃ (rows : List Str) (g d : Addr) (s : Spot), ds = [planD C rows g d, encSpot s] ∧ R = [] ∧ Short rows ∧ rows.length ≤ 100 ∧ seatS rows s = true ∧ o = .ret .non
theorem p_need_seatG {c : Ct} {G : Res} {ρ : En} {ta tb : TE} {C : Addr} {rows : List Str} {g d : Addr} {s : Spot} {E : XK} (ha : EvP c G ρ ta (planD C rows g d)) (hb : EvP c G ρ tb (encSpot s)) (hs : Short rows) (hl : rows.length ≤ 100) (h : seatS rows s = true) :
    EvP c G ρ (tMeth C "_need_seat" (spD c.K (pre_need_seatG C)) [] E ta (tCons tb tNil)) .non :=
  p_meth ha meth_need_seat (a_cons hb a_nil) (R := []) (fun x hx => nomatch hx) ⟨rows, g, d, s, rfl, rfl, hs, hl, h, rfl⟩
theorem ok_Plan_need_seat {P : Program} {w : World} {K : PySem.W.Frag} {mg : Str → Option Value} {base : Heap} (T : Top K mg) : L2H.FnH P w K mg base CX0 2 T.a_Plan_need_seat T.f_Plan_need_seat ["self", "spot"] (spD K (pre_need_seatG T.a_Plan)) := by
  refine Ho.fnOkH T.F_Plan_need_seat sc_Plan_need_seat (fun ds R o h => by obtain ⟨rows, g, d, s, rfl, _⟩ := h; rfl) fun ds R o h cdv A outer sh H E hp0 hot0 hr => ?_
  obtain ⟨rows, g, d, s, rfl, rfl, hs, hl, h, rfl⟩ := h
  have cP := T.c_Plan
  have n1 := T.n_Plan_hall
  refine ⟨_, (pss_one (ps_if (pt_not (pt_val (Ho.pe_callQ (ok_is_seat T) (hr.mono (by decide)) ⟨hp0, hot0, List.mem_singleton_self _⟩ (by rfl) T.g_is_seat T.F_is_seat.kp T.b_is_seat pass0 (pa_cons (pe_fld (pv 0) rfl) (pa_cons (pe_ix (r := rIxT K) ix_tup (pv 1) pe_int (fun _ _ => rfl)) (pa_cons (pe_ix (r := rIxT K) ix_tup (pv 1) pe_int (fun _ _ => rfl)) pa_nil))))))
  (pss_one Ho.ps_dead)
  pss_nil)), fun F Q post => ?_⟩
  (try dsimp only [L2H.cxH, L2.cxOf, L2.Cx.nox, L2.Cx.wish])
  walk_at "go"
  have ht : EvP ⟨K, H, F, []⟩ [] [some (planD T.a_Plan rows g d), some (encSpot s)] (tCall (spD K pre_is_seat) [] E0 (tCons (tFld K (tVar 0) "hall") (tCons (tOp (rIxT K) (tVar 1) (tC (.int 0))) (tCons (tOp (rIxT K) (tVar 1) (tC (.int 1))) tNil)))) (.bl (isSeat rows s.1 s.2)) :=
    p_is_seat (p_hall (p_var rfl) cP n1) (p_ixT (ds := [.int s.1, .int s.2]) (p_var rfl) p_int at_0) (p_ixT (ds := [.int s.1, .int s.2]) (p_var rfl) p_int at_1) hs hl
  walk_at "last"
  apply sx_skip
  · refine EvT.is (t_not (t_B ht)) ?_
    show (!seatS rows s) = false
    rw [h]
    rfl
  exact fun F1 σ1 H1 A1 => post .non F1 H1 A1.go .non
theorem ok_Plan_who {P : Program} {w : World} {K : PySem.W.Frag} {mg : Str → Option Value} {base : Heap} (T : Top K mg) : L2H.FnH P w K mg base CX0 3 T.a_Plan_who T.f_Plan_who ["self", "row", "place"] (spD K (pre_who T.a_Plan)) := by
  refine Ho.fnOkH T.F_Plan_who sc_Plan_who (fun ds R o h => by obtain ⟨rows, g, d, gs, r, p, rfl, _⟩ := h; rfl) fun ds R o h cdv A outer sh H E hp0 hot0 hr => ?_
  obtain ⟨rows, g, d, gs, r, p, rfl, rfl, hs, hl, h1, h2, h, rfl⟩ := h
  refine ⟨_, (pss_cons (ps_expr (Ho.pe_methQ (pv 0) T.c_Plan T.me_Plan_need_seat (ok_Plan_need_seat T) (hr.mono (by decide)) ⟨hp0, hot0, List.mem_singleton_self _⟩ T.b_Plan_need_seat pass0 (pa_cons (pe_tup (pa_cons (pv 1) (pa_cons (pv 2) pa_nil))) pa_nil)))
  (pss_one (ps_ret (pe_dget1 (Ho.hu_ofH hr) (Ho.pe_meth0Q (pv 0) T.c_Plan T.me_Plan_taken (ok_Plan_taken T) (hr.mono (by decide)) ⟨hp0, hot0, List.mem_singleton_self _⟩ T.b_Plan_taken pass0) (pe_tup (pa_cons (pv 1) (pa_cons (pv 2) pa_nil))) ⟨rfl, rfl, rfl, rfl⟩)))), fun F Q post => ?_⟩
  (try dsimp only [L2H.cxH, L2.cxOf, L2.Cx.nox, L2.Cx.wish])
  walk_at "go"
  apply sx_drop
  · exact p_need_seatG (s := (r, p)) (p_var rfl) (p_spot (p_var rfl) (p_var rfl)) hs hl h
  walk_at "last"
  apply sx_retE
  · exact post
  · exact p_get1T (s := (r, p)) (EvP.toS (n_Plan_taken (p_var rfl) (.inl List.mem_cons_self) h1 h2).toP) (p_spot (p_var rfl) (p_var rfl))
  · rfl

end Hw
namespace Hw.Hr
/-! ### a gap, within the suite -/
def pre_need_seatR (C X : Addr) : Pre := fun ds R o => ∃ (rows : List Str) (g d : Addr) (s : Spot), ds = [planD C rows g d, encSpot s] ∧ R = [] ∧ Short rows ∧ rows.length ≤ 100 ∧ seatS rows s = false ∧ o = .exc X
theorem ok_Plan_need_seat {P : Program} {w : World} {K : PySem.W.Frag} {mg : Str → Option Value} {base : Heap} (T : Top K mg) : L2H.FnH P w K mg base (L2.CX (P) w) 2 T.a_Plan_need_seat T.f_Plan_need_seat ["self", "spot"] (spD K (pre_need_seatR T.a_Plan T.a_NoSeat)) := by
  refine Ho.fnOkHX T.F_Plan_need_seat sc_Plan_need_seat (fun ds R o h => by obtain ⟨rows, g, d, s, rfl, _⟩ := h; rfl) fun ds R o h cdv A outer sh H E hp0 hot0 hr => ?_
  obtain ⟨rows, g, d, s, rfl, rfl, hs, hl, h, rfl⟩ := h
  have cP := T.c_Plan
  have n1 := T.n_Plan_hall
  refine ⟨_, (pss_one (ps_if (pt_not (pt_val (Ho.pe_callQ (ok_is_seat T) (hr.mono (by decide)) ⟨hp0, hot0, List.mem_singleton_self _⟩ (by rfl) T.g_is_seat T.F_is_seat.kp T.b_is_seat pass0 (pa_cons (pe_fld (pv 0) rfl) (pa_cons (pe_ix (r := rIxT K) ix_tup (pv 1) pe_int (fun _ _ => rfl)) (pa_cons (pe_ix (r := rIxT K) ix_tup (pv 1) pe_int (fun _ _ => rfl)) pa_nil))))))
  (pss_one (Ho.ps_raiseDH ⟨hp0, hot0, List.mem_singleton_self _⟩ (takes_of rfl rfl rfl rfl) (L2N.pmk_own PySem.F.excBase_ValueError T.x_NoSeat T.g_NoSeat T.k_NoSeat (raises_own T.b_NoSeat T.t_NoSeat) rfl)))
  pss_nil)), fun F Q post => ?_⟩
  (try dsimp only [L2H.cxH, L2.cxOf, L2.Cx.nox, L2.Cx.wish])
  walk_at "go"
  have ht : EvP ⟨K, H, F, []⟩ [] [some (planD T.a_Plan rows g d), some (encSpot s)] (tCall (spD K pre_is_seat) [] E0 (tCons (tFld K (tVar 0) "hall") (tCons (tOp (rIxT K) (tVar 1) (tC (.int 0))) (tCons (tOp (rIxT K) (tVar 1) (tC (.int 1))) tNil)))) (.bl (isSeat rows s.1 s.2)) :=
    p_is_seat (p_hall (p_var rfl) cP n1) (p_ixT (ds := [.int s.1, .int s.2]) (p_var rfl) p_int at_0) (p_ixT (ds := [.int s.1, .int s.2]) (p_var rfl) p_int at_1) hs hl
  walk_at "last"
  apply sx_when (b := true)
  · refine EvT.is (t_not (t_B ht)) ?_
    show (!seatS rows s) = true
    rw [h]
    rfl
  · intro _
    walk_at "last"
    exact sx_raise fun F' H' A => post F' H' A.1
  · intro q; cases q
theorem ok_Plan_who {P : Program} {w : World} {K : PySem.W.Frag} {mg : Str → Option Value} {base : Heap} (T : Top K mg) : L2H.FnH P w K mg base (L2.CX (P) w) 3 T.a_Plan_who T.f_Plan_who ["self", "row", "place"] (spD K (Cr.pre_who05 T.a_Plan T.a_NoSeat)) := by
  refine Ho.fnOkHX T.F_Plan_who sc_Plan_who (fun ds R o h => by obtain ⟨rows, g, d, r, p, rfl, _⟩ := h; rfl) fun ds R o h cdv A outer sh H E hp0 hot0 hr => ?_
  obtain ⟨rows, g, d, r, p, rfl, rfl, hs, hl, h, rfl⟩ := h
  refine ⟨_, (pss_cons (ps_expr (Ho.pe_methQ (pv 0) T.c_Plan T.me_Plan_need_seat (ok_Plan_need_seat T) (hr.mono (by decide)) ⟨hp0, hot0, List.mem_singleton_self _⟩ T.b_Plan_need_seat (Dl.pass_out (takes_of rfl rfl rfl rfl)) (pa_cons (pe_tup (pa_cons (pv 1) (pa_cons (pv 2) pa_nil))) pa_nil)))
  (pss_one (ps_ret (pe_dget1 (Ho.hu_ofH hr) (Ho.pe_meth0Q (pv 0) T.c_Plan T.me_Plan_taken (ok_Plan_taken T) (hr.mono (by decide)) ⟨hp0, hot0, List.mem_singleton_self _⟩ T.b_Plan_taken pass0) (pe_tup (pa_cons (pv 1) (pa_cons (pv 2) pa_nil))) ⟨rfl, rfl, rfl, rfl⟩)))), fun F Q post => ?_⟩
  (try dsimp only [L2H.cxH, L2.cxOf, L2.Cx.nox, L2.Cx.wish])
  walk_at "go"
  apply sx_dropX
  · exact x_meth (p_var rfl) meth_need_seat (a_cons (p_spot (p_var rfl) (p_var rfl)) a_nil) (R := []) (fun x hx => nomatch hx) ⟨rows, g, d, (r, p), rfl, rfl, hs, hl, h, rfl⟩
  · exact fun F' H' A => post F' H' A.1
theorem ok_law_gap {P : Program} {w : World} {K : PySem.W.Frag} {mg : Str → Option Value} {base : Heap} (T : Top K mg) : L2H.FnH P w K mg base CX0 4 T.a_law_gap T.f_law_gap ["_law_plan", "_law_row", "_law_place"] (spD K (Cr.pre_law_gap T.a_Plan)) := by
  refine Ho.fnOkH T.F_law_gap sc_law_gap (fun ds R o h => by obtain ⟨rows, g, d, r, p, rfl, _⟩ := h; rfl) fun ds R o h cdv A outer sh H E hp0 hot0 hr => ?_
  obtain ⟨rows, g, d, r, p, rfl, rfl, hs, hl, h, rfl⟩ := h
  have eX := T.e_NoSeat
  refine ⟨_, (pss_cons (by exact (Ho.ps_tryHD rfl rfl ⟨rfl, by decide, .inl T.g_NoSeat⟩ takes0
  (fun W pn xe hpn tk po => by exact (pss_one (ps_expr (Ho.pe_methQ (pv 0) T.c_Plan T.me_Plan_who (ok_Plan_who T) (hr.mono (by decide)) (Ho.hot_try hot0 (hpn _ (List.mem_singleton_self _))) T.b_Plan_who (Dl.pass_try tk) (pa_cons (pv 1) (pa_cons (pv 2) pa_nil))))))
  (fun a oe cls d pn hz hf => by exact (pss_one (ps_ret pe_bl)))))
  (pss_one (ps_ret pe_bl))), fun F Q post => ?_⟩
  (try dsimp only [L2H.cxH, L2.cxOf, L2.Cx.nox, L2.Cx.wish])
  walk_at "go"
  apply sx_seq
  apply Ho.sx_tryH
  walk_at "last"
  apply sx_dropX
  · exact x_meth (p_var rfl) meth_who (a_cons (p_var rfl) (a_cons (p_var rfl) a_nil)) (R := []) (fun x hx => nomatch hx) ⟨rows, g, d, r, p, rfl, rfl, hs, hl, h, rfl⟩
  · exact fun F' H' A' σ => Ho.w_hotO eX fun a _ => post (.bl true) F' H' A'.1 (.bl true)

end Hw.Hr
namespace Hw
theorem ok_law_gap {P : Program} {w : World} {K : PySem.W.Frag} {mg : Str → Option Value} {base : Heap} (T : Top K mg) : L2H.FnH P w K mg base CX0 4 T.a_law_gap T.f_law_gap ["_law_plan", "_law_row", "_law_place"] (spD K (Cr.pre_law_gap T.a_Plan)) := Hr.ok_law_gap T

end Hw
namespace Hw
theorem ok_law_stands {P : Program} {w : World} {K : PySem.W.Frag} {mg : Str → Option Value} {base : Heap} (T : Top K mg) : L2H.FnH P w K mg base CX0 5 T.a_law_stands T.f_law_stands ["_law_plan", "_law_rows", "_law_held"] (spD K (pre_law_stands T.a_Plan)) := by
  refine Ho.fnOkH T.F_law_stands sc_law_stands (fun ds R o q => by obtain ⟨rows, g, d, dh, R', h, rfl, _⟩ := q; rfl) fun ds R o q cdv A outer sh H E hp0 hot0 hr => ?_
  obtain ⟨rows, g, d, dh, R', h, rfl, rfl, ha, ok, hg, gn, rfl⟩ := q
  have cP := T.c_Plan
  have n1 := T.n_Plan_hall
  refine ⟨_, (pss_cons (ps_set (i := 3) sc_law_stands.nd rfl (Or.inl rfl) pe_dnewT)
  (pss_cons (L2H.ps_forH PassesOwn.never ⟨hp0, hot0, List.mem_singleton_self _⟩ (Ho.pi_listH (pe_callTy (Ho.call_listDH ⟨hp0, hot0, List.mem_singleton_self _⟩) (by rfl) T.m_list PyProof.Rows.boot_list (pa_cons (pv 2) pa_nil))) (pg_name (i := 4) sc_law_stands.nd rfl (Or.inl rfl))
  (pss_cons (ps_if (pt_cmpR (r := rNeD K) (op_neD hr.units) (Ho.pe_methQ (pv 0) T.c_Plan T.me_Plan_seats (ok_Plan_seats T) (hr.mono (by decide)) ⟨hp0, hot0, List.mem_singleton_self _⟩ T.b_Plan_seats pass0 (pa_cons (pv 4) pa_nil)) (pe_dget (Ho.hu_ofH hr) (pv 2) (pv 4) (fun _ _ => rfl)) (nomark _))
  (pss_one (ps_ret pe_bl))
  pss_nil)
  (pss_one (L2H.ps_forH PassesOwn.never ⟨hp0, hot0, List.mem_singleton_self _⟩ (Ho.pi_listH (pe_dget (Ho.hu_ofH hr) (pv 2) (pv 4) (fun _ _ => rfl))) (pg_name (i := 5) sc_law_stands.nd rfl (Or.inl rfl))
  (pss_one (ps_dput (Ho.hu_ofH hr) (pv 3) (pv 5) (pv 4) rfl))))))
  (pss_cons (ps_if (PW.pt (pw_or (pt_cmpR (r := rNeD K) (op_neD hr.units) (Ho.pe_meth0Q (pv 0) T.c_Plan T.me_Plan_groups (ok_Plan_groups T) (hr.mono (by decide)) ⟨hp0, hot0, List.mem_singleton_self _⟩ T.b_Plan_groups pass0) (pe_callTy (Ho.call_listDH ⟨hp0, hot0, List.mem_singleton_self _⟩) (by rfl) T.m_list PyProof.Rows.boot_list (pa_cons (pv 2) pa_nil)) (nomark _)) (pw_or1 (pt_cmpR (r := rNeD K) (op_neD hr.units) (Ho.pe_meth0Q (pv 0) T.c_Plan T.me_Plan_free (ok_Plan_free T) (hr.mono (by decide)) ⟨hp0, hot0, List.mem_singleton_self _⟩ T.b_Plan_free pass0) (Ho.pe_callQ (ok_law_runs T) (hr.mono (by decide)) ⟨hp0, hot0, List.mem_singleton_self _⟩ (by rfl) T.g_law_runs T.F_law_runs.kp T.b_law_runs pass0 (pa_cons (pv 1) (pa_cons (pv 3) pa_nil))) (nomark _)))))
  (pss_one (ps_ret pe_bl))
  pss_nil)
  (pss_cons (L2H.ps_forH PassesOwn.never ⟨hp0, hot0, List.mem_singleton_self _⟩ (L2H.pi_range1H (by rfl) T.m_range (pa_cons (pe_callB (r := Dl.rLenQ K) call_len_seq (by rfl) T.m_len PySem.boot_len (pa_cons (pv 1) pa_nil)) pa_nil)) (pg_name (i := 6) sc_law_stands.nd rfl (Or.inl rfl))
  (pss_one (L2H.ps_forH PassesOwn.never ⟨hp0, hot0, List.mem_singleton_self _⟩ (L2H.pi_range1H (by rfl) T.m_range (pa_cons (pe_callB call_len_str (by rfl) T.m_len PySem.boot_len (pa_cons (pe_ix (r := rIxL K) ix_list (pv 1) (pv 6) (fun _ _ => rfl)) pa_nil)) pa_nil)) (pg_name (i := 7) sc_law_stands.nd rfl (Or.inl rfl))
  (pss_one (ps_if (PW.pt (pw_and (pt_cmpR op_eq (pe_ix ix_str (pe_ix (r := rIxL K) ix_list (pv 1) (pv 6) (fun _ _ => rfl)) (pv 7) (fun _ _ => rfl)) pe_str (nomark _)) (pw_and1 (pt_cmpR op_eq (pe_op op_mod (pe_op op_add (pe_op op_add (pv 6) (pv 7)) (pe_callB call_len_str (by rfl) T.m_len PySem.boot_len (pa_cons (pe_ix (r := rIxL K) ix_list (pv 1) pe_int (fun _ _ => rfl)) pa_nil))) pe_int) pe_int (nomark _)))))
  (pss_one (ps_if (pt_cmpR op_ne (Ho.pe_methQ (pv 0) T.c_Plan T.me_Plan_who (ok_Plan_who T) (hr.mono (by decide)) ⟨hp0, hot0, List.mem_singleton_self _⟩ T.b_Plan_who pass0 (pa_cons (pv 6) (pa_cons (pv 7) pa_nil))) (pe_dget1 (Ho.hu_ofH hr) (pv 3) (pe_tup (pa_cons (pv 6) (pa_cons (pv 7) pa_nil))) ⟨rfl, rfl, rfl, rfl⟩) (nomark _))
  (pss_one (ps_ret pe_bl))
  pss_nil))
  pss_nil)))))
  (pss_cons (ps_if (PW.pt (pw_or (pt_not (pt_val (pe_callB (r := rIsi K) call_isi (by rfl) T.m_isinstance PyProof.Rows.boot_isinstance (pa_cons (pe_fld (pv 0) rfl) (pa_cons (pe_bltn (v := .ty "list") (by rfl) T.m_list PyProof.Rows.boot_list rfl) pa_nil))))) (pw_or (pt_cmpR (r := rNeD K) (op_neD hr.units) (pe_fld (pv 0) rfl) (pv 1) (nomark _)) (pw_or1 (pt_cmpR op_ne (pe_callB (r := Dl.rLenQ K) call_len_seq (by rfl) T.m_len PySem.boot_len (pa_cons (Ho.pe_callQ (ok_drawn T) (hr.mono (by decide)) ⟨hp0, hot0, List.mem_singleton_self _⟩ (by rfl) T.g_drawn T.F_drawn.kp T.b_drawn pass0 (pa_cons (pv 0) pa_nil)) pa_nil)) (pe_callB (r := Dl.rLenQ K) call_len_seq (by rfl) T.m_len PySem.boot_len (pa_cons (pv 1) pa_nil)) (nomark _))))))
  (pss_one (ps_ret pe_bl))
  pss_nil)
  (pss_cons (L2H.ps_forH PassesOwn.never ⟨hp0, hot0, List.mem_singleton_self _⟩ (L2H.pi_range1H (by rfl) T.m_range (pa_cons (pe_callB (r := Dl.rLenQ K) call_len_seq (by rfl) T.m_len PySem.boot_len (pa_cons (pv 1) pa_nil)) pa_nil)) (pg_name (i := 6) sc_law_stands.nd rfl (Or.inl rfl))
  (pss_cons (ps_set (i := 7) sc_law_stands.nd rfl (Or.inl rfl) (pe_m1 PySem.F.slot_str_find PySem.F.type_str_find mt_find (pe_ix (r := rIxL K) ix_list (pv 1) (pv 6) (fun _ _ => rfl)) pe_str))
  (pss_one (ps_if (PW.pt (pw_and (pt_cmpR op_ge (pv 7) pe_int (nomark _)) (pw_and1 (pt_not (pt_val (Ho.pe_callQ (ok_law_gap T) (hr.mono (by decide)) ⟨hp0, hot0, List.mem_singleton_self _⟩ (by rfl) T.g_law_gap T.F_law_gap.kp T.b_law_gap pass0 (pa_cons (pv 0) (pa_cons (pv 6) (pa_cons (pv 7) pa_nil)))))))))
  (pss_one (ps_ret pe_bl))
  pss_nil))))
  (pss_one (ps_ret pe_bl)))))))), fun F Q post => ?_⟩
  have hl := ok.len
  have h40 := hg.2.1
  have hshort := hg.short
  have hsub : ∀ S' : Res, (∀ x ∈ ((g, D.lst (h.map encGp)) :: R'), x ∈ S') → ∀ y ∈ R', y ∈ S' := fun S' hS y hy => hS y (List.mem_cons_of_mem _ hy)
  have ename : (namesOf h).map D.str = (heldL h).map fun e => D.str e.1 := by
    rw [held_names]
    unfold namesOf
    rw [List.map_map]
    rfl
  (try dsimp only [L2H.cxH, L2.cxOf, L2.Cx.nox, L2.Cx.wish])
  walk_at "go"
  walk_at "own"
  intro p
  walk_at "nrm"
  refine sx_forU (us := h) (enc := fun x => D.str x.1) (gr := []) (fun i => [(p, tdD (putTwo (h.take i) (fun g => g.2) (fun g => g.1) []))]) (fun i => [some (planD T.a_Plan rows g d), some (.lst (rows.map D.str)), some dh, some (.ref p), none, none, none, none]) ?_ (fun x hx => nomatch hx) rfl ⟨rfl, rfl, rfl, rfl, trivial⟩ (fun i x hx S' hS => ?_) ?_
  · rw [← held_names]
    exact i_list (n_listK (s_arg (p_var rfl) ha fun y hy => List.mem_cons_of_mem _ hy)).toP
  · have hxm := List.mem_of_getElem? hx
    obtain ⟨nm1, nm2⟩ := names_at ok.nd hx
    have hv := held_val ok.nd hxm
    have hsl := ok.sl x hxm
    have hb := putTwo_sum (h.take i) []
    have hsm := sum_at hx
    have htot := ok.tot
    simp only [List.length_nil, Nat.zero_add] at hb
    rw [putTwo_succ hx]
    generalize putTwo (h.take i) (fun g : Gp => g.2) (fun g : Gp => g.1) [] = acc at hb
    walk_at "nrm"
    apply sx_skip
    · refine EvT.is (t_test (p_neSame (n := 2) (d := .lst (x.2.map encSpot)) ?_ ?_ (pl_spots _) (by decide))) rfl
      · exact EvP.toS (EvN.toP (n_Plan_seats (p_var rfl) (.inl (hS _ List.mem_cons_self)) (p_var rfl) (by omega) (gn x hxm) nm1 nm2 hx))
      · exact EvP.toS (p_getK (l := heldL h) (s_arg (p_var rfl) ha (hsub S' hS)) (p_var rfl) hv)
    walk_at "last"
    refine sx_forU (us := x.2) (enc := encSpot) (gr := []) (fun j => [(p, tdD (putAll acc (x.2.take j) x.1))]) (fun j => [some (planD T.a_Plan rows g d), some (.lst (rows.map D.str)), some dh, some (.ref p), some (.str x.1), none, none, none]) ?_ (fun x hx => nomatch hx) rfl ⟨rfl, rfl, rfl, rfl, rfl, trivial⟩ (fun j s hs S'' hS2 => ?_) ?_
    · exact i_list (p_getK (l := heldL h) (s_arg (p_var rfl) ha (hsub S' hS)) (p_var rfl) hv)
    · have hl2 := putAll_len x.1 (x.2.take j) acc
      rw [List.length_take] at hl2
      rw [putAll_succ hs]
      walk_at "nrm"
      walk_at "last"
      apply sx_dputT 0
      · walk_at "pv"
      · walk_at "pv"
      · walk_at "pv"
      · exact rfl
      · omega
      walk_at "nrm"
      walk_at "end"
      · rfl
      · exact ⟨rfl, rfl, rfl, rfl, rfl, trivial⟩
    · rw [List.take_length]
      walk_at "end"
      · rfl
      · exact ⟨rfl, rfl, rfl, rfl, trivial⟩
  rw [List.take_length]
  refine sx_freeze (i := 3) (p := p) rfl ?_
  have etk : putTwo h (fun g => g.2) (fun g => g.1) [] = takenOf h := rfl
  rw [etk]
  apply sx_skip
  · refine EvT.is (t_or (a := false) (b := false) ?_ fun _ => ?_) rfl
    · apply t_test
      apply p_neSame (n := 1) (d := .lst ((namesOf h).map D.str))
      · exact EvP.toS (EvN.toP (n_Plan_groups (p_var rfl) (.inl List.mem_cons_self) (by omega)))
      · rw [ename]
        exact EvP.toS (EvN.toP (n_listK (s_arg (p_var rfl) ha fun y hy => List.mem_cons_of_mem _ hy)))
      · refine pl_strs fun s hs => ?_
        obtain ⟨y, hy, rfl⟩ := List.mem_map.mp hs
        exact name_ok (gn y hy)
      · decide
    · apply t_test
      apply p_neSame (n := 2) (d := .lst ((freeRs rows (takenOf h)).map encRun))
      · exact EvP.toS (EvN.toP (n_Plan_free (p_var rfl) (.inl List.mem_cons_self) (by omega) ok.sl hg))
      · exact EvP.toS (EvN.toP (n_law_runs (p_var rfl) (p_var rfl) (by omega) hshort))
      · exact pl_runs8 _
      · decide
  refine sx_forR (lo := 0) (n := rows.length) (fun i => []) (fun i => [some (planD T.a_Plan rows g d), some (.lst (rows.map D.str)), some dh, some (tdD (takenOf h)), none, none, none, none]) ?_ rfl ⟨rfl, rfl, rfl, rfl, trivial⟩ (fun i hi S' hS => ?_) ?_
  · have e2 : rows.length = (((rows.map D.str).length : Nat) : Int).toNat := by simp
    conv => arg 5; rw [e2]
    exact i_range1 (a_cons (p_lenL (ds := rows.map D.str) (EvP.toS (p_var rfl))) a_nil) (by rw [List.length_map]; omega)
  · obtain ⟨s, hs⟩ : ∃ s, rows[i]? = some s := ⟨_, List.getElem?_eq_getElem hi⟩
    obtain ⟨s0, hs0⟩ : ∃ s, rows[0]? = some s := ⟨_, List.getElem?_eq_getElem (by omega)⟩
    have hsz := (hg.2.2 s (List.mem_of_getElem? hs)).1
    have hsz0 := (hg.2.2 s0 (List.mem_of_getElem? hs0)).1
    have hrow : ∀ {c : Ct} {G : Res} {ρ : En}, ρ[1]? = some (some (.lst (rows.map D.str))) → ρ[6]? = some (some (.int (i : Int))) → EvP c G ρ (tOp (rIxL c.K) (tVar 1) (tVar 6)) (.str s) := fun h1 h2 =>
      p_ixL (ds := rows.map D.str) (EvP.toS (p_var h1)) (p_var h2) (at_m (f := D.str) (by omega) (by simpa using hs))
    have hrow0 : ∀ {c : Ct} {G : Res} {ρ : En}, ρ[1]? = some (some (.lst (rows.map D.str))) → EvP c G ρ (tOp (rIxL c.K) (tVar 1) (tC (.int 0))) (.str s0) := fun h1 =>
      p_ixL (ds := rows.map D.str) (EvP.toS (p_var h1)) p_int (at_m (f := D.str) (by decide) (by simpa using hs0))
    rw [Int.zero_add]
    walk_at "nrm"
    walk_at "last"
    refine sx_forR (lo := 0) (n := s.length) (fun j => []) (fun j => [some (planD T.a_Plan rows g d), some (.lst (rows.map D.str)), some dh, some (tdD (takenOf h)), none, none, some (.int (i : Int)), none]) ?_ rfl ⟨rfl, rfl, rfl, rfl, rfl, trivial⟩ (fun j hj S'' hS2 => ?_) ?_
    · have e2 : s.length = ((s.length : Nat) : Int).toNat := by simp
      conv => arg 5; rw [e2]
      exact i_range1 (a_cons (p_lenS (hrow rfl rfl) (by omega)) a_nil) (by omega)
    · obtain ⟨c, hc⟩ : ∃ c, s.cps.toList[j]? = some c := ⟨_, List.getElem?_eq_getElem (by rw [cps_len]; exact hj)⟩
      have hat2 : atI s.cps.toList (j : Int) = some c := at_sign (by omega) (by simpa using hc)
      have hseat : seatP s j = decide (c = 111) := by
        unfold seatP
        have : s.cps[j]? = some c := by rw [← hc]; simp
        rw [this]
        by_cases q : c = 111 <;> simp [q]
      rw [Int.zero_add]
      walk_at "nrm"
      walk_at "last"
      apply sx_when (b := seatP s j && decide (((i : Int) + (j : Int) + (s0.length : Int)) % 3 = 0))
      · refine EvT.is (t_and (a := decide ((⟨#[c]⟩ : Str) = ("o" : Str))) (b := decide (((i : Int) + (j : Int) + (s0.length : Int)) % 3 = 0)) (t_test (p_eqS (p_ixS (hrow rfl rfl) (p_var rfl) (by omega) hat2) p_str)) fun _ => t_test (p_eqI (p_opC (p_opI (p_opI (p_var rfl) (p_var rfl)) (p_lenS (hrow0 rfl) (by omega))) p_int ?_) p_int)) ?_
        · walk_at "sd"
        · rw [sign_o, hseat]
      · intro hb
        have hb1 : seatP s j = true := by
          simp only [Bool.and_eq_true] at hb
          exact hb.1
        have hst : isSeat rows (i : Int) (j : Int) = true := by rw [isSeat_nat hs]; exact hb1
        walk_at "last"
        apply sx_skip
        · exact t_test (p_neON (o := valA (takenOf h) ((i : Int), (j : Int))) (p_who (p_var rfl) (.inl (hS2 _ (hS _ List.mem_cons_self))) (p_var rfl) (p_var rfl) hshort (by omega) (by omega) ok.sl hst) (p_get1T (s := ((i : Int), (j : Int))) (EvP.toS (p_var rfl)) (p_spot (p_var rfl) (p_var rfl))))
        walk_at "into"
        walk_at "end"
        · rfl
        · exact ⟨rfl, rfl, rfl, rfl, rfl, trivial⟩
      · intro _
        walk_at "end"
        · rfl
        · exact ⟨rfl, rfl, rfl, rfl, rfl, trivial⟩
    · walk_at "end"
      · rfl
      · exact ⟨rfl, rfl, rfl, rfl, trivial⟩
  apply sx_skip
  · refine EvT.is (t_or (a := false) (b := false) ?_ fun _ => EvT.is (t_or (a := false) (b := false) ?_ fun _ => ?_) rfl) rfl
    · exact EvT.is (t_not (t_B (p_isi (EvP.toS (p_hall (p_var rfl) cP n1)) p_ty rfl (t := "list") ⟨by decide, by decide⟩ kit_list_list))) rfl
    · exact t_test (p_neSame (n := 1) (d := .lst (rows.map D.str)) (EvP.toS (p_hall (p_var rfl) cP n1)) (EvP.toS (p_var rfl)) (pl_rows5 hg.2.2) (by decide))
    · refine EvT.is (t_test (p_neI (p_lenL (ds := (shown 0 (takenOf h) rows 35).map D.str) (EvP.toS (EvN.toP (n_drawn (p_var rfl) (.inl List.mem_cons_self) (by omega) ok.sl hg)))) (p_lenL (ds := rows.map D.str) (EvP.toS (p_var rfl))))) ?_
      rw [List.length_map, List.length_map, shown_len, decide_eq_true rfl]
      rfl
  refine sx_forR (lo := 0) (n := rows.length) (fun i => []) (fun i => [some (planD T.a_Plan rows g d), some (.lst (rows.map D.str)), some dh, some (tdD (takenOf h)), none, none, none, none]) ?_ rfl ⟨rfl, rfl, rfl, rfl, trivial⟩ (fun i hi S' hS => ?_) ?_
  · have e2 : rows.length = (((rows.map D.str).length : Nat) : Int).toNat := by simp
    conv => arg 5; rw [e2]
    exact i_range1 (a_cons (p_lenL (ds := rows.map D.str) (EvP.toS (p_var rfl))) a_nil) (by rw [List.length_map]; omega)
  · obtain ⟨s, hs⟩ : ∃ s, rows[i]? = some s := ⟨_, List.getElem?_eq_getElem hi⟩
    rw [Int.zero_add]
    walk_at "nrm"
    apply sx_asg (d := .int (Txt.find s ("." : Str)))
    · exact p_find (p_ixL (ds := rows.map D.str) (EvP.toS (p_var rfl)) (p_var rfl) (at_m (f := D.str) (by omega) (by simpa using hs))) p_str
    walk_at "nrm"
    have hfd := fun h0 => find_dot (s := s) rfl h0
    generalize Txt.find s ("." : Str) = z at hfd
    walk_at "last"
    apply sx_skip
    · refine EvT.is (t_and (a := decide (0 ≤ z)) (b := false) (t_test (p_opB (p_var rfl) p_int)) fun hz => ?_) (by simp)
      have hz' : 0 ≤ z := by simpa using hz
      have hns : isSeat rows (i : Int) z = false := by
        rw [isSeat_at (by omega) (by simpa using hs) hz' (hfd hz')]
        decide
      exact EvT.is (t_not (t_B (Cr.p_law_gap (p_var rfl) (p_var rfl) (p_var rfl) hshort (by omega) hns))) rfl
    walk_at "end"
    · rfl
    · exact ⟨rfl, rfl, rfl, rfl, trivial⟩
  walk_at "last"
  walk_at "ret"
  rfl


end Hw
/-! ### a spot, as it should be -/
def pre_law_spot : Pre := fun ds R o => ∃ s : Spot, ds = [encSpot s] ∧ R = [] ∧ o = .ret (.bl true)
theorem p_law_spot {c : Ct} {G : Res} {ρ : En} {ta : TE} {s : Spot} {E : XK} (ha : EvP c G ρ ta (encSpot s)) : EvP c G ρ (tCall (spD c.K pre_law_spot) [] E (tCons ta tNil)) (.bl true) :=
  p_call (a_cons ha a_nil) (R := []) (fun x hx => nomatch hx) ⟨s, rfl, rfl, rfl⟩
theorem ok_law_spot {P : Program} {w : World} {K : PySem.W.Frag} {mg : Str → Option Value} {base : Heap} (T : Top K mg) : FnOk P w K mg base CX0 1 T.a_law_spot T.f_law_spot ["_law_spot_here"] (spD K pre_law_spot) := by
  refine fnOk T.F_law_spot sc_law_spot (fun ds R o h => by obtain ⟨s, rfl, _⟩ := h; rfl) fun ds R o h cdv A outer sh H E hr => ?_
  obtain ⟨s, rfl, rfl, rfl⟩ := h
  have h0 : ∀ {c : Ct} {G : Res} {ρ : En}, ρ[0]? = some (some (encSpot s)) → EvP c G ρ (tOp (rIxT c.K) (tVar 0) (tC (.int 0))) (.int s.1) := fun e => p_ixT (ds := [.int s.1, .int s.2]) (p_var e) p_int at_0
  have h1 : ∀ {c : Ct} {G : Res} {ρ : En}, ρ[0]? = some (some (encSpot s)) → EvP c G ρ (tOp (rIxT c.K) (tVar 0) (tC (.int 1))) (.int s.2) := fun e => p_ixT (ds := [.int s.1, .int s.2]) (p_var e) p_int at_1
  refine ⟨_, (pss_cons (ps_if (PW.pt (pw_or (pt_not (pt_val (pe_callB call_isi (by rfl) T.m_isinstance PyProof.Rows.boot_isinstance (pa_cons (pv 0) (pa_cons (pe_bltn (v := .ty "tuple") (by rfl) T.m_tuple PyProof.Rows.boot_tuple rfl) pa_nil))))) (pw_or1 (pt_cmpR op_ne (pe_callB call_len_seq (by rfl) T.m_len PySem.boot_len (pa_cons (pv 0) pa_nil)) pe_int (nomark _)))))
  (pss_one (ps_ret pe_bl))
  pss_nil)
  (pss_cons (ps_if (PW.pt (pw_or (pt_val (pe_callB call_isi (by rfl) T.m_isinstance PyProof.Rows.boot_isinstance (pa_cons (pe_ix ix_tup (pv 0) pe_int (fun _ _ => rfl)) (pa_cons (pe_bltn (v := .ty "bool") (by rfl) T.m_bool PyProof.Rows.boot_bool rfl) pa_nil)))) (pw_or1 (pt_val (pe_callB call_isi (by rfl) T.m_isinstance PyProof.Rows.boot_isinstance (pa_cons (pe_ix ix_tup (pv 0) pe_int (fun _ _ => rfl)) (pa_cons (pe_bltn (v := .ty "bool") (by rfl) T.m_bool PyProof.Rows.boot_bool rfl) pa_nil)))))))
  (pss_one (ps_ret pe_bl))
  pss_nil)
  (pss_one (ps_ret (pe_and (pe_callB call_isi (by rfl) T.m_isinstance PyProof.Rows.boot_isinstance (pa_cons (pe_ix ix_tup (pv 0) pe_int (fun _ _ => rfl)) (pa_cons (pe_bltn (v := .ty "int") (by rfl) T.m_int PyProof.Rows.boot_int rfl) pa_nil))) (pe_one (pe_callB call_isi (by rfl) T.m_isinstance PyProof.Rows.boot_isinstance (pa_cons (pe_ix ix_tup (pv 0) pe_int (fun _ _ => rfl)) (pa_cons (pe_bltn (v := .ty "int") (by rfl) T.m_int PyProof.Rows.boot_int rfl) pa_nil))))))))), fun F Q post => ?_⟩
  walk_at "go"
  apply sx_skip
  · refine EvT.is (t_or (a := false) (b := false) ?_ fun _ => ?_) rfl
    · exact EvT.is (t_not (t_B (p_isi (EvP.toS (p_var rfl)) p_ty rfl (t := "tuple") ⟨by decide, by decide⟩ kit_tuple_tuple))) rfl
    · exact t_test (p_neI (p_lenT (ds := [.int s.1, .int s.2]) (p_var rfl)) p_int)
  apply sx_skip
  · refine EvT.is (t_or (a := false) (b := false) ?_ fun _ => ?_) rfl
    · exact t_B (p_isi (EvP.toS (h0 rfl)) p_ty rfl (t := "int") ⟨by decide, by decide⟩ kit_int_bool)
    · exact t_B (p_isi (EvP.toS (h1 rfl)) p_ty rfl (t := "int") ⟨by decide, by decide⟩ kit_int_bool)
  walk_at "last"
  refine sx_ret (d := .bl true) ?_ post
  exact EvP.is (p_andV (a := true) (b := true) (p_isi (EvP.toS (h0 rfl)) p_ty rfl (t := "int") ⟨by decide, by decide⟩ kit_int_int) fun _ => p_isi (EvP.toS (h1 rfl)) p_ty rfl (t := "int") ⟨by decide, by decide⟩ kit_int_int) rfl

/-! ### the law -/
def sp_law (K : PySem.W.Frag) : Sp := fun vs H Q _ => ∃ (a : Addr) (ns : List Int), vs = [.ref a] ∧ SqL K H a (ns.map V.int) ∧ ns.length ≤ 63 ∧ (∀ z ∈ ns, Builtin.Int.intBits z ≤ 1048576) ∧ ∀ H', Q (.bl true) H'
def pre_law : Pre := fun ds R o => ∃ (a : Addr) (ns : List Int), ds = [.ref a] ∧ R = [(a, .scr ns)] ∧ ns.length ≤ 63 ∧ (∀ z ∈ ns, Builtin.Int.intBits z ≤ 1048576) ∧ o = .ret (.bl true)
theorem law_imp {K : PySem.W.Frag} (vs : List V) (H : Hp) (Q : VK) (E : XK) (h : sp_law K vs H Q E) : spD K pre_law vs H Q E := by
  obtain ⟨a, ns, rfl, hS, h63, hb, q⟩ := h
  refine ⟨fun _ => none, [.ref a], [(a, .scr ns)], .ret (.bl true), (fun _ _ e => by cases e), .cons (.ref a) .nil, fun x hx => ?_, ⟨a, ns, rfl, rfl, h63, hb, rfl⟩, fun v F' H' g r => ?_⟩
  · rcases List.mem_singleton.mp hx with rfl
    exact .inr ⟨a, rfl, hS⟩
  · cases r
    exact q H'

/-! ### the law: a group sits -/
theorem p_refC {c : Ct} {G : Res} {ρ : En} {a : Addr} : EvP c G ρ (tC (V.ref a)) (.ref a) := fun F σ H A Q q => q _ F H (Go.refl A.ex) (.ref _)
def rowsN5 (ns : List Int) : List Str := (List.range (1 + cellAt ns 0 % 5).toNat).map fun (j : Nat) => rowBy (cellAt ns (5 + (j : Int)))
def rowsF5 (ns : List Int) : List Str := (List.range 40).map fun (j : Nat) => cutS (rowBy (cellAt ns (5 + (j : Int) % 4) + 7919 * (j : Int))) none (some 6)
def rowsE5 (ns : List Int) : List Str := if cellAt ns 0 / 5 % 9 = 1 then rowsF5 ns else rowsN5 ns
theorem rowsE5_good (ns : List Int) : GoodHall (rowsE5 ns) := by
  unfold rowsE5
  split
  · refine ⟨by simp [rowsF5], by simp [rowsF5], fun r hr => ?_⟩
    obtain ⟨j, _, rfl⟩ := List.mem_map.mp hr
    have h := rowBy_good (cellAt ns (5 + (j : Int) % 4) + 7919 * (j : Int))
    exact ⟨Nat.le_trans (cut_len _ _ _) h.1, fun c hc => h.2 c (cut_mem _ _ _ c hc)⟩
  · refine ⟨?_, ?_, fun r hr => ?_⟩
    · unfold rowsN5
      rw [List.length_map, List.length_range]
      omega
    · unfold rowsN5
      rw [List.length_map, List.length_range]
      omega
    · obtain ⟨j, _, rfl⟩ := List.mem_map.mp hr
      exact rowBy_good _
theorem sum_lens {l : List Gp} {m : Nat} (h : ∀ x ∈ l, x.2.length ≤ m) : (l.map fun g => g.2.length).sum ≤ m * l.length := by
  induction l with
  | nil => simp
  | cons x l ih =>
    have h1 := h x List.mem_cons_self
    have h2 := ih fun y hy => h y (List.mem_cons_of_mem _ hy)
    rw [List.map_cons, List.sum_cons, List.length_cons, Nat.mul_add]
    omega
theorem held_put {l : List Gp} {nm : Str} {sp : List Spot} (h : nm ∉ namesOf l) : putA (heldL l) nm (.lst (sp.map encSpot)) = heldL (l ++ [(nm, sp)]) := by
  have e : (heldL l).map (·.1) = namesOf l := by unfold heldL namesOf; rw [List.map_map]; rfl
  rw [putA_new (by rw [e]; exact h)]
  unfold heldL
  rw [List.map_append]
  rfl
theorem meth_sit : ("sit" : Str) ∉ planKs := by decide +kernel
theorem heldBy_nm {rows names : List Str} (hg : GoodHall rows) (n : Int) : ∀ x ∈ heldBy8 rows names n, x.1 ∈ names := by
  obtain ⟨i, _⟩ := hbAll_inv (names := names) hg (n := n) rows.length (Nat.le_refl _)
  unfold heldBy8
  generalize hbAll names n rows rows.length = st at i
  exact fun x hx => i.nm x (pick_mem i.nd hx).1
theorem ok_law {P : Program} {w : World} {K : PySem.W.Frag} {mg : Str → Option Value} {base : Heap} (T : Top K mg) : FnOk P w K mg base CX0 7 T.a_law T.f_law ["_law_script"] (sp_law K) := by
  refine FnOk.imp (sp := spD K pre_law) ?_ law_imp
  refine fnOk T.F_law sc_law (fun ds R o h => by obtain ⟨a, ns, rfl, _⟩ := h; rfl) fun ds R o h cdv A outer s H E hr => ?_
  obtain ⟨a, ns, rfl, rfl, h63, hbits, rfl⟩ := h
  refine ⟨_, (pss_cons (by exact (ps_setLc (i := 1) (own := [("_law_j", 13)]) (g := (gName 13)) (tt := tYes) rfl sc_law.nd rfl rfl (sw_true rfl rfl rfl (by decide +kernel)) (by exact (pi_range1 (by rfl) T.m_range (pa_cons (pe_op op_add pe_int (pe_op op_mod (pe_call (ok_law_cell_at T) (hr.mono (by decide)) (by rfl) T.g_law_cell_at T.F_law_cell_at.kp T.b_law_cell_at .nil pass0 (pa_cons (pv 0) (pa_cons pe_int pa_nil))) pe_int)) pa_nil))) (blkOk_by (N := ["_law_script", "_law_rows", "_law_names", "_law_held", "_law_plan", "_law_taken", "_law_name", "_law_spot_here", "_law_size", "_law_able", "_law_found", "_law_least", "_law_first", "_law_j", "_law_run", "_law_k"]) (sc := defScope s_law) (by decide +kernel)) (fun _ _ _ _ _ => by exact (pg_name (i := 13) sc_law.nd rfl (Or.inl rfl))) (fun _ _ _ _ _ => by exact pts_nil) (fun _ _ _ _ _ => by exact (pe_call (ok_law_row_by T) (hr.mono (by decide)) (by rfl) T.g_law_row_by T.F_law_row_by.kp T.b_law_row_by .nil pass0 (pa_cons (pe_call (ok_law_cell_at T) (hr.mono (by decide)) (by rfl) T.g_law_cell_at T.F_law_cell_at.kp T.b_law_cell_at .nil pass0 (pa_cons (pv 0) (pa_cons (pe_op op_add pe_int (pv 13)) pa_nil))) pa_nil)))))
  (pss_cons (ps_if (pt_cmpR op_eq (pe_op op_mod (pe_op op_fdiv (pe_call (ok_law_cell_at T) (hr.mono (by decide)) (by rfl) T.g_law_cell_at T.F_law_cell_at.kp T.b_law_cell_at .nil pass0 (pa_cons (pv 0) (pa_cons pe_int pa_nil))) pe_int) pe_int) pe_int (nomark _))
  (pss_one (by exact (ps_setLc (i := 1) (own := [("_law_j", 13)]) (g := (gName 13)) (tt := tYes) rfl sc_law.nd rfl rfl (sw_true rfl rfl rfl (by decide +kernel)) (by exact (pi_range1 (by rfl) T.m_range (pa_cons pe_int pa_nil))) (blkOk_by (N := ["_law_script", "_law_rows", "_law_names", "_law_held", "_law_plan", "_law_taken", "_law_name", "_law_spot_here", "_law_size", "_law_able", "_law_found", "_law_least", "_law_first", "_law_j", "_law_run", "_law_k"]) (sc := defScope s_law) (by decide +kernel)) (fun _ _ _ _ _ => by exact (pg_name (i := 13) sc_law.nd rfl (Or.inl rfl))) (fun _ _ _ _ _ => by exact pts_nil) (fun _ _ _ _ _ => by exact (pe_slice sl_str (pe_call (ok_law_row_by T) (hr.mono (by decide)) (by rfl) T.g_law_row_by T.F_law_row_by.kp T.b_law_row_by .nil pass0 (pa_cons (pe_op op_add (pe_call (ok_law_cell_at T) (hr.mono (by decide)) (by rfl) T.g_law_cell_at T.F_law_cell_at.kp T.b_law_cell_at .nil pass0 (pa_cons (pv 0) (pa_cons (pe_op op_add pe_int (pe_op op_mod (pv 13) pe_int)) pa_nil))) (pe_op op_mul pe_int (pv 13))) pa_nil)) po_none (po_some pe_int))))))
  pss_nil)
  (pss_cons (ps_set (i := 2) sc_law.nd rfl (Or.inl rfl) (pe_call (ok_law_names_by T) (hr.mono (by decide)) (by rfl) T.g_law_names_by T.F_law_names_by.kp T.b_law_names_by .nil pass0 (pa_cons (pe_call (ok_law_cell_at T) (hr.mono (by decide)) (by rfl) T.g_law_cell_at T.F_law_cell_at.kp T.b_law_cell_at .nil pass0 (pa_cons (pv 0) (pa_cons pe_int pa_nil))) (pa_cons pe_int pa_nil))))
  (pss_cons (ps_set (i := 3) sc_law.nd rfl (Or.inl rfl) (pe_call (ok_law_held_by T) (hr.mono (by decide)) (by rfl) T.g_law_held_by T.F_law_held_by.kp T.b_law_held_by .nil pass0 (pa_cons (pv 1) (pa_cons (pe_slice sl_list (pv 2) po_none (po_some (pe_op op_mod (pe_call (ok_law_cell_at T) (hr.mono (by decide)) (by rfl) T.g_law_cell_at T.F_law_cell_at.kp T.b_law_cell_at .nil pass0 (pa_cons (pv 0) (pa_cons pe_int pa_nil))) pe_int))) (pa_cons (pe_op op_fdiv (pe_call (ok_law_cell_at T) (hr.mono (by decide)) (by rfl) T.g_law_cell_at T.F_law_cell_at.kp T.b_law_cell_at .nil pass0 (pa_cons (pv 0) (pa_cons pe_int pa_nil))) pe_int) pa_nil)))))
  (pss_cons (ps_set (i := 4) sc_law.nd rfl (Or.inl rfl) (pe_call (ok_read T) (hr.mono (by decide)) (by rfl) T.g_read T.F_read.kp T.b_read .nil Ho.passLN (pa_cons (pe_callTy call_list_of (by rfl) T.m_list PyProof.Rows.boot_list (pa_cons (pv 1) pa_nil)) (pa_cons (pe_call (ok_law_lines T) (hr.mono (by decide)) (by rfl) T.g_law_lines T.F_law_lines.kp T.b_law_lines .nil pass0 (pa_cons (pv 3) pa_nil)) pa_nil))))
  (pss_cons (ps_if (pt_not (pt_val (pe_callB call_isi (by rfl) T.m_isinstance PyProof.Rows.boot_isinstance (pa_cons (pv 4) (pa_cons (pe_glob (v := .ref T.a_Plan) rfl T.g_Plan rfl) pa_nil)))))
  (pss_one (ps_ret pe_bl))
  pss_nil)
  (pss_cons (ps_set (i := 5) sc_law.nd rfl (Or.inl rfl) pe_dnewT)
  (pss_cons (ps_for PassesOwn.never rfl (pi_list (pe_callTy (call_listD rfl) (by rfl) T.m_list PyProof.Rows.boot_list (pa_cons (pv 3) pa_nil))) (pg_name (i := 6) sc_law.nd rfl (Or.inl rfl))
  (pss_one (ps_for PassesOwn.never rfl (pi_list (pe_dget (hu_of hr) (pv 3) (pv 6) (fun _ _ => rfl))) (pg_name (i := 7) sc_law.nd rfl (Or.inl rfl))
  (pss_one (ps_dput (hu_of hr) (pv 5) (pv 7) (pv 6) rfl)))))
  (pss_cons (ps_set (i := 8) sc_law.nd rfl (Or.inr rfl) (pe_op op_add pe_int (pe_op op_mod (pe_call (ok_law_cell_at T) (hr.mono (by decide)) (by rfl) T.g_law_cell_at T.F_law_cell_at.kp T.b_law_cell_at .nil pass0 (pa_cons (pv 0) (pa_cons pe_int pa_nil))) pe_int)))
  (pss_cons (ps_if (pt_cmpR op_eq (pe_op op_mod (pe_op op_fdiv (pe_call (ok_law_cell_at T) (hr.mono (by decide)) (by rfl) T.g_law_cell_at T.F_law_cell_at.kp T.b_law_cell_at .nil pass0 (pa_cons (pv 0) (pa_cons pe_int pa_nil))) pe_int) pe_int) pe_int (nomark _))
  (pss_one (ps_set (i := 8) sc_law.nd rfl (Or.inr rfl) (pe_op op_add pe_int (pe_op op_mod (pe_op op_fdiv (pe_call (ok_law_cell_at T) (hr.mono (by decide)) (by rfl) T.g_law_cell_at T.F_law_cell_at.kp T.b_law_cell_at .nil pass0 (pa_cons (pv 0) (pa_cons pe_int pa_nil))) pe_int) pe_int))))
  pss_nil)
  (pss_cons (ps_if (pt_cmpR op_eq (pe_op op_mod (pe_op op_fdiv (pe_call (ok_law_cell_at T) (hr.mono (by decide)) (by rfl) T.g_law_cell_at T.F_law_cell_at.kp T.b_law_cell_at .nil pass0 (pa_cons (pv 0) (pa_cons pe_int pa_nil))) pe_int) pe_int) pe_int (nomark _))
  (pss_one (ps_set (i := 8) sc_law.nd rfl (Or.inr rfl) (pe_op op_add pe_int (pe_op op_mod (pe_op op_fdiv (pe_call (ok_law_cell_at T) (hr.mono (by decide)) (by rfl) T.g_law_cell_at T.F_law_cell_at.kp T.b_law_cell_at .nil pass0 (pa_cons (pv 0) (pa_cons pe_int pa_nil))) pe_int) pe_int))))
  pss_nil)
  (pss_cons (ps_set (i := 6) sc_law.nd rfl (Or.inl rfl) (pe_ix ix_list (pv 2) pe_int (fun _ _ => rfl)))
  (pss_cons (by exact (ps_setLc (i := 9) (own := [("_law_run", 14)]) (g := (gName 14)) rfl sc_law.nd rfl rfl (sw_true rfl rfl rfl (by decide +kernel)) (by exact (pi_list (pe_call (ok_law_runs T) (hr.mono (by decide)) (by rfl) T.g_law_runs T.F_law_runs.kp T.b_law_runs .nil pass0 (pa_cons (pv 1) (pa_cons (pv 5) pa_nil))))) (blkOk_by (N := ["_law_script", "_law_rows", "_law_names", "_law_held", "_law_plan", "_law_taken", "_law_name", "_law_spot_here", "_law_size", "_law_able", "_law_found", "_law_least", "_law_first", "_law_j", "_law_run", "_law_k"]) (sc := defScope s_law) (by decide +kernel)) (fun _ _ _ _ _ => by exact (pg_name (i := 14) sc_law.nd rfl (Or.inl rfl))) (fun _ _ _ _ _ => by exact (pts_one (pt_cmpR op_ge (pe_ix (r := rIxT K) ix_tup (pv 14) pe_int (fun _ _ => rfl)) (pv 8) (nomark _)))) (fun _ _ _ _ _ => by exact (pv 14))))
  (pss_cons (by exact (Ho.ps_tryMDN rfl rfl Ho.takes0N
  (fun W pn xe tk po => by exact (pss_one (ps_set (i := 10) sc_law.nd rfl (Or.inl rfl) (Ho.pe_methW (pv 4) T.c_Plan T.me_Plan_sit (ok_Plan_sit T) (hr.mono (by decide)) T.b_Plan_sit (fun σ => L2N.passAt tk σ) (pa_cons (pv 6) (pa_cons (pv 8) pa_nil))))))
  (.cons ⟨rfl, by decide, .inl T.g_NoRoom⟩ (fun a oe cls d pn hz hf => by exact (pss_one (ps_ret (pe_and (pe_cmpR op_eq (pe_callB (r := Dl.rLenQ K) call_len_seq (by rfl) T.m_len PySem.boot_len (pa_cons (pv 9) pa_nil)) pe_int (nomark _)) (pe_one (Ho.pe_callQ (Hw.ok_law_stands T) (L2H.RoomH.mono (show L2H.RoomH 6 _ from ⟨hr.dp, hr.un⟩) (by decide)) (Ho.hot_suite hz hf) (by rfl) T.g_law_stands T.F_law_stands.kp T.b_law_stands pass0 (pa_cons (pv 4) (pa_cons (pv 1) (pa_cons (pv 3) pa_nil))))))))) .nil)))
  (pss_cons (ps_if (PW.pt (pw_or (pt_cmpR op_eq (pe_callB call_len_seq (by rfl) T.m_len PySem.boot_len (pa_cons (pv 9) pa_nil)) pe_int (nomark _)) (pw_or (pt_not (pt_val (pe_callB call_isi (by rfl) T.m_isinstance PyProof.Rows.boot_isinstance (pa_cons (pv 10) (pa_cons (pe_bltn (v := .ty "list") (by rfl) T.m_list PyProof.Rows.boot_list rfl) pa_nil))))) (pw_or1 (pt_not (pt_val (pe_callB (cr_all rfl) (by rfl) T.m_all PyProof.Rows.boot_all (pa_cons (by exact (pe_lc (own := [("_law_spot_here", 7)]) (g := (gName 7)) (tt := tYes) rfl sc_law.nd (by exact (pi_list (pv 10))) (blkOk_by (N := ["_law_script", "_law_rows", "_law_names", "_law_held", "_law_plan", "_law_taken", "_law_name", "_law_spot_here", "_law_size", "_law_able", "_law_found", "_law_least", "_law_first", "_law_j", "_law_run", "_law_k"]) (sc := defScope s_law) (by decide +kernel)) (fun _ _ _ _ _ => by exact (pg_name (i := 7) sc_law.nd rfl (Or.inl rfl))) (fun _ _ _ _ _ => by exact pts_nil) (fun _ _ _ _ _ => by exact (pe_call (ok_law_spot T) (hr.mono (by decide)) (by rfl) T.g_law_spot T.F_law_spot.kp T.b_law_spot .nil pass0 (pa_cons (pv 7) pa_nil))))) pa_nil))))))))
  (pss_one (ps_ret pe_bl))
  pss_nil)
  (pss_cons (ps_set (i := 11) sc_law.nd rfl (Or.inr rfl) (pe_callB (cr_min rfl) (by rfl) T.m_min PyProof.Rows.boot_min (pa_cons (by exact (pe_lc (own := [("_law_run", 14)]) (g := (gName 14)) (tt := tYes) rfl sc_law.nd (by exact (pi_list (pv 9))) (blkOk_by (N := ["_law_script", "_law_rows", "_law_names", "_law_held", "_law_plan", "_law_taken", "_law_name", "_law_spot_here", "_law_size", "_law_able", "_law_found", "_law_least", "_law_first", "_law_j", "_law_run", "_law_k"]) (sc := defScope s_law) (by decide +kernel)) (fun _ _ _ _ _ => by exact (pg_name (i := 14) sc_law.nd rfl (Or.inl rfl))) (fun _ _ _ _ _ => by exact pts_nil) (fun _ _ _ _ _ => by exact (pe_ix (r := rIxT K) ix_tup (pv 14) pe_int (fun _ _ => rfl))))) pa_nil)))
  (pss_cons (ps_set (i := 12) sc_law.nd rfl (Or.inr rfl) (pe_ix ix_list (by exact (pe_lc (own := [("_law_run", 14)]) (g := (gName 14)) rfl sc_law.nd (by exact (pi_list (pv 9))) (blkOk_by (N := ["_law_script", "_law_rows", "_law_names", "_law_held", "_law_plan", "_law_taken", "_law_name", "_law_spot_here", "_law_size", "_law_able", "_law_found", "_law_least", "_law_first", "_law_j", "_law_run", "_law_k"]) (sc := defScope s_law) (by decide +kernel)) (fun _ _ _ _ _ => by exact (pg_name (i := 14) sc_law.nd rfl (Or.inl rfl))) (fun _ _ _ _ _ => by exact (pts_one (pt_cmpR op_eq (pe_ix (r := rIxT K) ix_tup (pv 14) pe_int (fun _ _ => rfl)) (pv 11) (nomark _)))) (fun _ _ _ _ _ => by exact (pv 14)))) pe_int (fun _ _ => rfl)))
  (pss_cons (ps_dput (hu_of hr) (pv 3) (pv 6) (by exact (pe_lc (own := [("_law_k", 15)]) (g := (gName 15)) (tt := tYes) rfl sc_law.nd (by exact (pi_range1 (by rfl) T.m_range (pa_cons (pv 8) pa_nil))) (blkOk_by (N := ["_law_script", "_law_rows", "_law_names", "_law_held", "_law_plan", "_law_taken", "_law_name", "_law_spot_here", "_law_size", "_law_able", "_law_found", "_law_least", "_law_first", "_law_j", "_law_run", "_law_k"]) (sc := defScope s_law) (by decide +kernel)) (fun _ _ _ _ _ => by exact (pg_name (i := 15) sc_law.nd rfl (Or.inl rfl))) (fun _ _ _ _ _ => by exact pts_nil) (fun _ _ _ _ _ => by exact (pe_tup (pa_cons (pe_ix (r := rIxT K) ix_tup (pv 12) pe_int (fun _ _ => rfl)) (pa_cons (pe_op op_add (pe_ix (r := rIxT K) ix_tup (pv 12) pe_int (fun _ _ => rfl)) (pv 15)) pa_nil)))))) rfl)
  (pss_one (ps_ret (pe_and (pe_cmpR (op_eqD hr.units) (pv 10) (pe_dget (hu_of hr) (pv 3) (pv 6) (fun _ _ => rfl)) (nomark _)) (pe_one (pe_call (ok_law_stands T) (hr.mono (by decide)) (by rfl) T.g_law_stands T.F_law_stands.kp T.b_law_stands .nil pass0 (pa_cons (pv 4) (pa_cons (pv 1) (pa_cons (pv 3) pa_nil)))))))))))))))))))))))))), fun F Q post => ?_⟩
  walk_at "go"
  apply sx_asg (d := .lst ((rowsN5 ns).map D.str))
  · unfold rowsN5
    rw [List.map_map]
    apply EvN.toP
    apply n_map (g := []) (us := List.range (1 + cellAt ns 0 % 5).toNat) (enc := fun (j : Nat) => D.int (j : Int)) (f := fun (j : Nat) => D.str (rowBy (cellAt ns (5 + (j : Int)))))
    · apply i_range1m
      · walk_at "pv"
      · omega
    · exact fun x hx => nomatch hx
    · intro u hu
      exact g_name
    · decide
    · intro u hu
      walk_at "pv"
    · rw [List.length_range]
      omega
  walk_at "nrm"
  apply sx_ifAsg (b := decide (cellAt ns 0 / 5 % 9 = 1)) (d := .lst ((rowsE5 ns).map D.str))
  · walk_at "pv"
  · intro hb
    have hb' : cellAt ns 0 / 5 % 9 = 1 := by simpa using hb
    unfold rowsE5
    rw [if_pos hb']
    unfold rowsF5
    rw [List.map_map]
    apply EvN.toP
    apply n_map (g := []) (us := List.range 40) (enc := fun (j : Nat) => D.int (j : Int)) (f := fun (j : Nat) => D.str (cutS (rowBy (cellAt ns (5 + (j : Int) % 4) + 7919 * (j : Int))) none (some 6)))
    · exact i_range1m (n := 40) (a_cons p_int a_nil) (by decide)
    · exact fun x hx => nomatch hx
    · intro u hu
      exact g_name
    · decide
    · intro u hu
      refine p_slS (p_law_row_by ?_) o_none (o_some p_int) ?_
      · walk_at "pv"
      · have := rowBy_len (cellAt ns (5 + (u : Int) % 4) + 7919 * (u : Int))
        omega
    · rw [List.length_range]
      decide
  · intro hb
    have hb' : ¬ cellAt ns 0 / 5 % 9 = 1 := by simpa using hb
    unfold rowsE5
    rw [if_neg hb']
    walk_at "le"
  walk_at "nrm"
  have hg := rowsE5_good ns
  generalize rowsE5 ns = rows at hg
  have hshort := hg.short
  have h40 := hg.2.1
  have hm6 : (6 : Nat) ≤ 12 := by decide
  apply sx_asg (d := .lst ((namesBy (cellAt ns 2) 6).map D.str))
  · apply EvN.toP
    refine n_law_names ?_ p_int hm6
    walk_at "pv"
  walk_at "nrm"
  have nl := namesBy_len (cellAt ns 2) 6
  have nd := namesBy_nd (cellAt ns 2) hm6
  have ng := namesBy_good (cellAt ns 2) hm6
  generalize namesBy (cellAt ns 2) 6 = names at nl nd ng
  have htn : (names.take (cellAt ns 1 % 5).toNat).Nodup := nd.sublist (List.take_sublist _ _)
  have htl : (names.take (cellAt ns 1 % 5).toNat).length ≤ 12 := by rw [List.length_take]; omega
  obtain ⟨rok, hlen⟩ := heldBy_ok hg htn (fun s hs => ng s (List.mem_of_mem_take hs)) htl (rowN (cellAt ns 1 / 5))
  apply sx_own (d := heldD (heldBy8 rows (names.take (cellAt ns 1 % 5).toNat) (rowN (cellAt ns 1 / 5))))
  · refine n_law_held (p_var rfl) ?_ ?_ hg htn htl
    · rw [← cut_take (by omega) (by omega)]
      apply EvN.toP
      refine n_slL (EvP.toS (p_var rfl)) o_none (o_some ?_)
      walk_at "pv"
    · walk_at "pv"
  intro hd
  walk_at "nrm"
  have hnm5 : ∀ x ∈ heldBy8 rows (names.take (cellAt ns 1 % 5).toNat) (rowN (cellAt ns 1 / 5)), x.1 ∈ names.take (cellAt ns 1 % 5).toNat := heldBy_nm hg (rowN (cellAt ns 1 / 5))
  generalize heldBy8 rows (names.take (cellAt ns 1 % 5).toNat) (rowN (cellAt ns 1 / 5)) = h at rok hlen hnm5
  have htot : (h.map fun g => g.2.length).sum ≤ 2400 * h.length := sum_lens fun x hx => (rok.ok x hx).len
  have ok : HeldOk h := ⟨rok.nd, by omega, fun x hx => (rok.ok x hx).len, by omega⟩
  have gn : ∀ x ∈ h, GoodName x.1 := fun x hx => (rok.ok x hx).nm
  apply sx_read (rows := rows) (h := h)
  · refine a_cons (EvN.toP (n_list (EvP.toS (p_var rfl)))) (a_cons (EvN.toP (n_law_lines (p_var rfl) (May.res (.inr List.mem_cons_self)) ok fun x hx => ⟨?_, (rok.ok x hx).sm⟩)) a_nil)
    have := (gn x hx).2.1
    omega
  · exact rok
  intro g d
  walk_at "nrm"
  apply sx_skip
  · exact EvT.is (t_not (t_B (p_isiC T.I_Plan (p_var rfl) p_refC))) rfl
  have hhm : (hd, heldD h) ∈ [(g, D.lst (h.map encGp)), (d, .lst []), (hd, heldD h)] := List.mem_cons_of_mem _ (List.mem_cons_of_mem _ List.mem_cons_self)
  obtain ⟨nm, hnm⟩ : ∃ nm, names[5]? = some nm := ⟨_, List.getElem?_eq_getElem (by omega)⟩
  have gnm := ng nm (List.mem_of_getElem? hnm)
  have hnot : nm ∉ namesOf h := fun q => by
    obtain ⟨x, hx, e⟩ := List.mem_map.mp q
    have h1 := hnm5 x hx
    rw [e] at h1
    obtain ⟨k, hk⟩ := List.mem_iff_getElem?.mp h1
    rw [List.getElem?_take] at hk
    split at hk
    · rename_i hlt
      rw [← hnm] at hk
      have := (List.getElem?_inj (show k < names.length by omega) nd).mp hk
      omega
    · cases hk
  apply sx_own (d := tdD [])
  · exact n_dnewT
  intro tk
  walk_at "nrm"
  refine sx_forU (us := h) (enc := fun x => D.str x.1) (gr := []) (fun i => [(tk, tdD (putTwo (h.take i) (fun g => g.2) (fun g => g.1) [])), (g, D.lst (h.map encGp)), (d, .lst []), (hd, heldD h)]) (fun i => [some (.ref a), some (.lst (rows.map D.str)), some (.lst (names.map D.str)), some (.ref hd), some (planD T.a_Plan rows g d), some (.ref tk), none, none, none, none, none, none, none, none, none, none]) ?_ (fun x hx => nomatch hx) rfl ⟨rfl, rfl, rfl, rfl, rfl, rfl, trivial⟩ (fun i x hx S' hS => ?_) ?_
  · rw [← held_names]
    exact i_list (n_listK (EvS.res (p_var rfl) (.inr (List.mem_cons_of_mem _ hhm)))).toP
  · have hxm := List.mem_of_getElem? hx
    have hv := held_val ok.nd hxm
    have hsl := ok.sl x hxm
    have hb := putTwo_sum (h.take i) []
    have hsm := sum_at hx
    simp only [List.length_nil, Nat.zero_add] at hb
    rw [putTwo_succ hx]
    generalize putTwo (h.take i) (fun g : Gp => g.2) (fun g : Gp => g.1) [] = acc at hb
    walk_at "nrm"
    walk_at "last"
    refine sx_forU (us := x.2) (enc := encSpot) (gr := []) (fun j => [(tk, tdD (putAll acc (x.2.take j) x.1)), (g, D.lst (h.map encGp)), (d, .lst []), (hd, heldD h)]) (fun j => [some (.ref a), some (.lst (rows.map D.str)), some (.lst (names.map D.str)), some (.ref hd), some (planD T.a_Plan rows g d), some (.ref tk), some (.str x.1), none, none, none, none, none, none, none, none, none]) ?_ (fun x hx => nomatch hx) rfl ⟨rfl, rfl, rfl, rfl, rfl, rfl, rfl, trivial⟩ (fun j s hs S'' hS2 => ?_) ?_
    · exact i_list (p_getK (l := heldL h) (EvS.res (p_var rfl) (.inr (List.mem_cons_of_mem _ hhm))) (p_var rfl) hv)
    · have hl2 := putAll_len x.1 (x.2.take j) acc
      rw [List.length_take] at hl2
      rw [putAll_succ hs]
      walk_at "nrm"
      walk_at "last"
      apply sx_dputT 0
      · walk_at "pv"
      · walk_at "pv"
      · walk_at "pv"
      · exact rfl
      · omega
      walk_at "nrm"
      walk_at "end"
      · rfl
      · exact ⟨rfl, rfl, rfl, rfl, rfl, rfl, rfl, trivial⟩
    · rw [List.take_length]
      walk_at "end"
      · rfl
      · exact ⟨rfl, rfl, rfl, rfl, rfl, rfl, trivial⟩
  rw [List.take_length]
  refine sx_freeze (i := 5) (p := tk) rfl ?_
  have etk : putTwo h (fun g => g.2) (fun g => g.1) [] = takenOf h := rfl
  rw [etk]
  have hrl : (freeRs rows (takenOf h)).length ≤ 2400 := by
    unfold freeRs
    refine Nat.le_trans (hallRs_le (n := 60) fun s hs => shown_short (takenOf h) 46 rows 0 (fun s hs => (hg.2.2 s hs).1) s hs) ?_
    rw [shown_len]
    omega
  apply sx_asg (d := .int (1 + cellAt ns 3 % 9))
  · walk_at "pv"
  walk_at "nrm"
  apply sx_ifAsg (b := decide (cellAt ns 3 / 9 % 4 = 1)) (d := .int (if cellAt ns 3 / 9 % 4 = 1 then 10 + cellAt ns 3 / 36 % 61 else 1 + cellAt ns 3 % 9))
  · walk_at "pv"
  · intro hb
    have hb' : cellAt ns 3 / 9 % 4 = 1 := by simpa using hb
    rw [if_pos hb']
    walk_at "pv"
  · intro hb
    have hb' : ¬ cellAt ns 3 / 9 % 4 = 1 := by simpa using hb
    rw [if_neg hb']
    walk_at "le"
  walk_at "nrm"
  have hs1 : 1 ≤ (if cellAt ns 3 / 9 % 4 = 1 then 10 + cellAt ns 3 / 36 % 61 else 1 + cellAt ns 3 % 9) ∧ (if cellAt ns 3 / 9 % 4 = 1 then 10 + cellAt ns 3 / 36 % 61 else 1 + cellAt ns 3 % 9) ≤ 2400 := by split <;> omega
  generalize (if cellAt ns 3 / 9 % 4 = 1 then 10 + cellAt ns 3 / 36 % 61 else 1 + cellAt ns 3 % 9) = size1 at hs1
  apply sx_ifAsg (b := decide (cellAt ns 3 / 9 % 9 = 2)) (d := .int (if cellAt ns 3 / 9 % 9 = 2 then 1 + cellAt ns 3 / 81 % 2400 else size1))
  · walk_at "pv"
  · intro hb
    have hb' : cellAt ns 3 / 9 % 9 = 2 := by simpa using hb
    rw [if_pos hb']
    walk_at "pv"
  · intro hb
    have hb' : ¬ cellAt ns 3 / 9 % 9 = 2 := by simpa using hb
    rw [if_neg hb']
    walk_at "le"
  walk_at "nrm"
  have hs2 : 1 ≤ (if cellAt ns 3 / 9 % 9 = 2 then 1 + cellAt ns 3 / 81 % 2400 else size1) ∧ (if cellAt ns 3 / 9 % 9 = 2 then 1 + cellAt ns 3 / 81 % 2400 else size1) ≤ 2400 := by split <;> omega
  generalize (if cellAt ns 3 / 9 % 9 = 2 then 1 + cellAt ns 3 / 81 % 2400 else size1) = size at hs2
  apply sx_asg (d := .str nm)
  · exact p_ixL (ds := names.map D.str) (EvP.toS (p_var rfl)) p_int (at_m (f := D.str) (by decide) hnm)
  walk_at "nrm"
  apply sx_asg (d := .lst ((able (freeRs rows (takenOf h)) size).map encRun))
  · apply EvN.toP
    unfold able
    apply n_lc (g := []) (us := freeRs rows (takenOf h)) (enc := encRun) (p := fun r => decide (size ≤ r.2.2)) (f := encRun)
    · exact i_list (EvN.toP (n_law_runs (p_var rfl) (p_var rfl) (by omega) hshort))
    · exact fun x hx => nomatch hx
    · intro u hu
      exact g_name
    · decide
    · intro u hu
      exact EvT.is (t_test (p_opB (p_ixT (ds := [.int u.1, .int u.2.1, .int u.2.2]) (p_var rfl) p_int at_2) (p_var rfl))) rfl
    · intro u hu hb
      exact p_var rfl
    · omega
  walk_at "nrm"
  have eX := T.e_NoRoom
  have hnl : (namesOf h).length = h.length := by unfold namesOf; rw [List.length_map]
  have pok : PlanOk rows h [] := ⟨hg, by omega, ok.sl, by simp⟩
  have hndp : (namesOf h ++ [(nm, size)].map fun p : Pr => p.1).Nodup := by
    rw [List.nodup_append]
    refine ⟨ok.nd, by simp, fun x hx y hy e => ?_⟩
    rw [List.map_singleton, List.mem_singleton] at hy
    have e2 : x = nm := e.trans hy
    exact hnot (e2 ▸ hx)
  have pk : PartyOk h [(nm, size)] := ⟨by simp, by simp, fun p hp => by rw [List.mem_singleton] at hp; subst hp; exact ⟨gnm, hs2.1, hs2.2⟩, hndp⟩
  have e1s : sumPr [(nm, size)] = size := by simp [sumPr]
  rcases fit_spec (freeRs rows (takenOf h)) size with ⟨f1, f2⟩ | ⟨b, f1, f2, f3, f4⟩
  · rw [f2]
    apply sx_seq
    apply sx_tryMD
    apply Ho.sx_asgXS
    · exact Ho.xs_methW (A0 := []) (B0 := [(hd, heldD h)]) (M := [(g, .lst (h.map encGp)), (d, .lst [])]) (M' := [(g, .lst (h.map encGp)), (d, .lst [])]) (G' := [(g, .lst (h.map encGp)), (d, .lst []), (hd, heldD h)]) rfl rfl (p_var rfl) meth_sit (a_cons (p_var rfl) (a_cons (p_var rfl) a_nil)) (R := []) (fun x hx => nomatch hx) ⟨rows, g, d, h, [], nm, size, rfl, rfl, rfl, pok, pk, by unfold wayParty; rw [e1s, f1]⟩
    · refine fun F' σ H' A' => w_hit eX fun a _ => (?_ : Sx _ _ _ _ _) F' σ H' A'
      walk_at "last"
      refine sx_ret (d := .bl true) ?_ post
      refine EvP.is (p_andV (a := true) (b := true) ?_ fun _ => ?_) rfl
      · exact EvP.is (p_eqI (p_lenL (ds := []) (EvP.toS (p_var rfl))) p_int) rfl
      · exact p_law_stands (p_var rfl) (p_var rfl) (p_var rfl) (May.res (.inr hhm)) (.inr List.mem_cons_self) ok hg gn
  obtain ⟨hbm, hbs⟩ := fit_mem f1
  have hbd := freeRs_bd (fun s hs => (hg.2.2 s hs).1) b hbm
  have hal : (able (freeRs rows (takenOf h)) size).length ≤ 2400 := Nat.le_trans (List.length_filter_le _ _) hrl
  apply sx_seq
  apply sx_tryMD
  walk_at "last"
  apply sx_asgM (d := .lst ((spotsOf b.1 b.2.1 size).map encSpot)) (G' := [(g, .lst ((h ++ [(nm, spotsOf b.1 b.2.1 size)]).map encGp)), (d, .lst [encDeed h.length [] [(nm, spotsOf b.1 b.2.1 size)]]), (hd, heldD h)])
  · exact Ho.m_methW (A0 := []) (B0 := [(hd, heldD h)]) (M := [(g, .lst (h.map encGp)), (d, .lst [])]) (M' := [(g, .lst ((h ++ [(nm, spotsOf b.1 b.2.1 size)]).map encGp)), (d, .lst [encDeed h.length [] [(nm, spotsOf b.1 b.2.1 size)]])]) rfl rfl (p_var rfl) meth_sit (a_cons (p_var rfl) (a_cons (p_var rfl) a_nil)) (R := []) (fun x hx => nomatch hx) ⟨rows, g, d, h, [], nm, size, rfl, rfl, rfl, pok, pk, by unfold wayParty; rw [e1s, f1]; rfl⟩
  walk_at "nrm"
  walk_at "into"
  have hsl := spotsOf_len b.1 b.2.1 size
  have han : 0 < (able (freeRs rows (takenOf h)) size).length := List.length_pos_of_mem f2
  generalize able (freeRs rows (takenOf h)) size = ab at f2 f3 f4 hal han
  apply sx_skip
  · refine EvT.is (t_or (a := false) (b := false) ?_ fun _ => EvT.is (t_or (a := false) (b := false) ?_ fun _ => ?_) rfl) rfl
    · refine EvT.is (t_test (p_eqI (p_lenL (ds := ab.map encRun) (EvP.toS (p_var rfl))) p_int)) ?_
      rw [List.length_map]
      exact decide_eq_false (by omega)
    · exact EvT.is (t_not (t_B (p_isi (EvP.toS (p_var rfl)) p_ty rfl (t := "list") ⟨by decide, by decide⟩ kit_list_list))) rfl
    · refine EvT.is (t_not (t_B (p_allF (us := spotsOf b.1 b.2.1 size) (g := fun _ => true) ?_))) ?_
      · apply EvP.toS
        apply EvN.toP
        apply n_map (g := []) (us := spotsOf b.1 b.2.1 size) (enc := encSpot) (f := fun _ => D.bl true)
        · exact i_list (p_var rfl)
        · exact fun x hx => nomatch hx
        · intro u hu
          exact g_name
        · decide
        · intro u hu
          exact p_law_spot (p_var rfl)
        · omega
      · have : ((spotsOf b.1 b.2.1 size).map fun _ => true).all id = true := by
          rw [List.all_eq_true]
          intro x hx
          obtain ⟨_, _, rfl⟩ := List.mem_map.mp hx
          rfl
        rw [this]
        rfl
  apply sx_asg (d := .int b.2.2)
  · apply p_minF (us := ab) (g := fun r => r.2.2)
    · apply EvP.toS
      apply EvN.toP
      apply n_map (g := []) (us := ab) (enc := encRun) (f := fun r => D.int r.2.2)
      · exact i_list (p_var rfl)
      · exact fun x hx => nomatch hx
      · intro u hu
        exact g_name
      · decide
      · intro u hu
        exact p_ixT (ds := [.int u.1, .int u.2.1, .int u.2.2]) (p_var rfl) p_int at_2
      · omega
    · exact List.mem_map.mpr ⟨b, f2, rfl⟩
    · intro y hy
      obtain ⟨r, hr, rfl⟩ := List.mem_map.mp hy
      exact f3 r hr
  walk_at "nrm"
  apply sx_asg (d := encRun b)
  · apply p_ixL (ds := (ab.filter fun r => decide (r.2.2 = b.2.2)).map encRun) (i := 0)
    · apply EvP.toS
      apply EvN.toP
      apply n_lc (g := []) (us := ab) (enc := encRun) (p := fun r => decide (r.2.2 = b.2.2)) (f := encRun)
      · exact i_list (p_var rfl)
      · exact fun x hx => nomatch hx
      · intro u hu
        exact g_name
      · decide
      · intro u hu
        exact t_test (p_eqI (p_ixT (ds := [.int u.1, .int u.2.1, .int u.2.2]) (p_var rfl) p_int at_2) (p_var rfl))
      · intro u hu hb
        exact p_var rfl
      · omega
    · exact p_int
    · exact at_m (f := encRun) (by decide) f4
  walk_at "nrm"
  have e9 : (spotsOf b.1 b.2.1 size).map encSpot = (List.range size.toNat).map fun (k : Nat) => encSpot (b.1, b.2.1 + (k : Int)) := by
    unfold spotsOf
    rw [List.map_map]
    rfl
  apply sx_dputK 2 (l := heldL h) (p := hd) (s := nm) (d := .lst ((spotsOf b.1 b.2.1 size).map encSpot))
  · rw [e9]
    apply EvN.toP
    apply n_map (g := []) (us := List.range size.toNat) (enc := fun (k : Nat) => D.int (k : Int)) (f := fun k => encSpot (b.1, b.2.1 + (k : Int)))
    · exact i_range1m (n := size.toNat) (a_cons (EvP.is (p_var rfl) (by rw [Int.toNat_of_nonneg (by omega)])) a_nil) (by omega)
    · exact fun x hx => nomatch hx
    · intro u hu
      exact g_name
    · decide
    · intro u hu
      exact p_spot (p_ixT (ds := [.int b.1, .int b.2.1, .int b.2.2]) (p_var rfl) p_int at_0) (p_opI (p_ixT (ds := [.int b.1, .int b.2.1, .int b.2.2]) (p_var rfl) p_int at_1) (p_var rfl))
    · rw [List.length_range]
      omega
  · exact p_var rfl
  · exact p_var rfl
  · exact rfl
  · unfold heldL
    rw [List.length_map]
    omega
  walk_at "nrm"
  rw [held_put hnot]
  have okC : HeldOk (h ++ [(nm, spotsOf b.1 b.2.1 size)]) := ⟨by
    unfold namesOf
    rw [List.map_append]
    exact hndp, by rw [List.length_append, List.length_singleton]; omega, fun x hx => by
    rcases List.mem_append.mp hx with hx | hx
    · exact ok.sl x hx
    · rw [List.mem_singleton] at hx
      subst hx
      show (spotsOf b.1 b.2.1 size).length ≤ 2400
      omega, by
    rw [List.map_append, List.sum_append]
    show _ + ([(spotsOf b.1 b.2.1 size).length]).sum ≤ _
    simp only [List.sum_cons, List.sum_nil]
    omega⟩
  have gnC : ∀ x ∈ h ++ [(nm, spotsOf b.1 b.2.1 size)], GoodName x.1 := fun x hx => by
    rcases List.mem_append.mp hx with hx | hx
    · exact gn x hx
    · rw [List.mem_singleton] at hx
      subst hx
      exact gnm
  have hvC : valA (heldL (h ++ [(nm, spotsOf b.1 b.2.1 size)])) nm = some (.lst ((spotsOf b.1 b.2.1 size).map encSpot)) := held_val (g := (nm, spotsOf b.1 b.2.1 size)) okC.nd (List.mem_append_right _ List.mem_cons_self)
  walk_at "last"
  refine sx_ret (d := .bl true) ?_ post
  refine EvP.is (p_andV (a := true) (b := true) ?_ fun _ => ?_) rfl
  · exact p_eqSame (n := 2) (d := .lst ((spotsOf b.1 b.2.1 size).map encSpot)) (EvP.toS (p_var rfl)) (EvP.toS (p_getK (l := heldL (h ++ [(nm, spotsOf b.1 b.2.1 size)])) (EvS.res (p_var rfl) (.inr (List.mem_cons_of_mem _ (List.mem_cons_of_mem _ List.mem_cons_self)))) (p_var rfl) hvC)) (pl_spots _) (by decide)
  · exact p_law_stands (p_var rfl) (p_var rfl) (p_var rfl) (May.res (.inr (List.mem_cons_of_mem _ (List.mem_cons_of_mem _ List.mem_cons_self)))) (.inr List.mem_cons_self) okC hg gnC

theorem all_mk {l : PySem.W.OpenLaw} {w : World} {K : PySem.W.Frag} {h : Heap} {mg : Str → Option Value} {fa f0 f1 f2 f3 f4 f5 f6 f7 f8 f9 f10 f11 f12 f13 f14 f15 f16 f17 f18 f19 f20 f21 f22 f23 f24 f25 f26 f27 f28 f29 f30 f31 f32 f33 f34 f35 f36 f37 f38 f39 f40 f41 C_Plan X_BadHall X_BadLine X_BadName X_BadSize X_Known X_NoRoom X_NoSeat X_Taken X_Unknown : Addr} (X : K.In h) (G : h.Ns mainGlobals mg) (hfa : mg "law" = some (.ref fa))
    {od0 an0 od1 an1 od2 an2 od3 an3 od4 an4 od5 an5 od6 an6 od7 an7 od8 an8 od9 an9 od10 an10 od11 an11 od12 an12 od13 an13 od14 an14 od15 an15 od16 an16 od17 an17 od18 an18 od19 an19 od20 an20 od21 an21 od22 an22 od23 an23 od24 an24 od25 an25 od26 an26 od27 an27 od28 an28 od29 an29 od30 an30 od31 an31 od32 an32 od33 an33 od34 an34 od35 an35 od36 an36 od37 an37 od38 an38 od39 an39 od40 an40 od41 an41 : Option Addr} {sl0 sl1 sl2 sl3 sl4 sl5 sl6 sl7 sl8 sl9 sl10 sl11 sl12 sl13 sl14 sl15 sl16 sl17 sl18 sl19 sl20 sl21 sl22 sl23 sl24 sl25 sl26 sl27 sl28 sl29 sl30 sl31 sl32 sl33 sl34 sl35 sl36 sl37 sl38 sl39 sl40 sl41 : Array (Option Value)} {oc0 kV0 dc0 pm0 cd0 ct0 oc1 kV1 dc1 pm1 cd1 ct1 oc2 kV2 dc2 pm2 cd2 ct2 oc3 kV3 dc3 pm3 cd3 ct3 oc4 kV4 dc4 pm4 cd4 ct4 oc5 kV5 dc5 pm5 cd5 ct5 oc6 kV6 dc6 pm6 cd6 ct6 oc7 kV7 dc7 pm7 cd7 ct7 oc8 kV8 dc8 pm8 cd8 ct8 oc9 kV9 dc9 pm9 cd9 ct9 oc10 kV10 dc10 pm10 cd10 ct10 oc11 kV11 dc11 pm11 cd11 ct11 oc12 kV12 dc12 pm12 cd12 ct12 oc13 kV13 dc13 pm13 cd13 ct13 oc14 kV14 dc14 pm14 cd14 ct14 oc15 kV15 dc15 pm15 cd15 ct15 oc16 kV16 dc16 pm16 cd16 ct16 oc17 kV17 dc17 pm17 cd17 ct17 oc18 kV18 dc18 pm18 cd18 ct18 oc19 kV19 dc19 pm19 cd19 ct19 oc20 kV20 dc20 pm20 cd20 ct20 oc21 kV21 dc21 pm21 cd21 ct21 oc22 kV22 dc22 pm22 cd22 ct22 oc23 kV23 dc23 pm23 cd23 ct23 oc24 kV24 dc24 pm24 cd24 ct24 oc25 kV25 dc25 pm25 cd25 ct25 oc26 kV26 dc26 pm26 cd26 ct26 oc27 kV27 dc27 pm27 cd27 ct27 oc28 kV28 dc28 pm28 cd28 ct28 oc29 kV29 dc29 pm29 cd29 ct29 oc30 kV30 dc30 pm30 cd30 ct30 oc31 kV31 dc31 pm31 cd31 ct31 oc32 kV32 dc32 pm32 cd32 ct32 oc33 kV33 dc33 pm33 cd33 ct33 oc34 kV34 dc34 pm34 cd34 ct34 oc35 kV35 dc35 pm35 cd35 ct35 oc36 kV36 dc36 pm36 cd36 ct36 oc37 kV37 dc37 pm37 cd37 ct37 oc38 kV38 dc38 pm38 cd38 ct38 oc39 kV39 dc39 pm39 cd39 ct39 oc40 kV40 dc40 pm40 cd40 ct40 oc41 kV41 dc41 pm41 cd41 ct41 : Value}
    {u0 u1 u2 u3 u4 u5 u6 u7 u8 u9 : Value}
    (aC_Plan : PySem.W.nsIn K mainGlobals "Plan" = some (some (.ref C_Plan))) (pg_Plan : PySem.W.plainGet K C_Plan Str.empty = true) (hd_Plan : PySem.W.hasDictIn K C_Plan = true) (po_Plan : PySem.W.plainOver K C_Plan = true) (sa_Plan : PySem.W.findIn K (.ref C_Plan) "__setattr__" = some (some (.builtin "object.__setattr__"))) (mk_Plan : PySem.W.makesIn K C_Plan = true) (kc_Plan : PySem.W.keepIn K (.ref C_Plan) = true)
    (n_Plan_hall : PySem.W.findIn K (.ref C_Plan) "hall" = some none)
    (n_Plan__groups : PySem.W.findIn K (.ref C_Plan) "_groups" = some none)
    (n_Plan__deeds : PySem.W.findIn K (.ref C_Plan) "_deeds" = some none)
    (aX_BadHall : PySem.W.nsIn K mainGlobals "BadHall" = some (some (.ref X_BadHall))) (xX_BadHall : PySem.W.excIn K X_BadHall [.type "ValueError", .type "Exception", .type "BaseException", .type "object"] "ValueError.__new__" = true) (kX_BadHall : PySem.W.keepIn K (.ref X_BadHall) = true) (bX_BadHall : PySem.W.subIn K (.ref X_BadHall) (.type "BaseException") = some true) (tX_BadHall : PySem.W.typeIn K (.ref X_BadHall) = some (.type "type")) (iX_BadHall : PySem.W.isClsIn K X_BadHall = true) (sX_BadHall : PySem.W.subIn K (.ref X_BadHall) (.ref X_BadHall) = some true)
    (aX_BadLine : PySem.W.nsIn K mainGlobals "BadLine" = some (some (.ref X_BadLine))) (xX_BadLine : PySem.W.excIn K X_BadLine [.type "ValueError", .type "Exception", .type "BaseException", .type "object"] "ValueError.__new__" = true) (kX_BadLine : PySem.W.keepIn K (.ref X_BadLine) = true) (bX_BadLine : PySem.W.subIn K (.ref X_BadLine) (.type "BaseException") = some true) (tX_BadLine : PySem.W.typeIn K (.ref X_BadLine) = some (.type "type")) (iX_BadLine : PySem.W.isClsIn K X_BadLine = true) (sX_BadLine : PySem.W.subIn K (.ref X_BadLine) (.ref X_BadLine) = some true)
    (aX_BadName : PySem.W.nsIn K mainGlobals "BadName" = some (some (.ref X_BadName))) (xX_BadName : PySem.W.excIn K X_BadName [.type "ValueError", .type "Exception", .type "BaseException", .type "object"] "ValueError.__new__" = true) (kX_BadName : PySem.W.keepIn K (.ref X_BadName) = true) (bX_BadName : PySem.W.subIn K (.ref X_BadName) (.type "BaseException") = some true) (tX_BadName : PySem.W.typeIn K (.ref X_BadName) = some (.type "type")) (iX_BadName : PySem.W.isClsIn K X_BadName = true) (sX_BadName : PySem.W.subIn K (.ref X_BadName) (.ref X_BadName) = some true)
    (aX_BadSize : PySem.W.nsIn K mainGlobals "BadSize" = some (some (.ref X_BadSize))) (xX_BadSize : PySem.W.excIn K X_BadSize [.type "ValueError", .type "Exception", .type "BaseException", .type "object"] "ValueError.__new__" = true) (kX_BadSize : PySem.W.keepIn K (.ref X_BadSize) = true) (bX_BadSize : PySem.W.subIn K (.ref X_BadSize) (.type "BaseException") = some true) (tX_BadSize : PySem.W.typeIn K (.ref X_BadSize) = some (.type "type")) (iX_BadSize : PySem.W.isClsIn K X_BadSize = true) (sX_BadSize : PySem.W.subIn K (.ref X_BadSize) (.ref X_BadSize) = some true)
    (aX_Known : PySem.W.nsIn K mainGlobals "Known" = some (some (.ref X_Known))) (xX_Known : PySem.W.excIn K X_Known [.type "ValueError", .type "Exception", .type "BaseException", .type "object"] "ValueError.__new__" = true) (kX_Known : PySem.W.keepIn K (.ref X_Known) = true) (bX_Known : PySem.W.subIn K (.ref X_Known) (.type "BaseException") = some true) (tX_Known : PySem.W.typeIn K (.ref X_Known) = some (.type "type")) (iX_Known : PySem.W.isClsIn K X_Known = true) (sX_Known : PySem.W.subIn K (.ref X_Known) (.ref X_Known) = some true)
    (aX_NoRoom : PySem.W.nsIn K mainGlobals "NoRoom" = some (some (.ref X_NoRoom))) (xX_NoRoom : PySem.W.excIn K X_NoRoom [.type "ValueError", .type "Exception", .type "BaseException", .type "object"] "ValueError.__new__" = true) (kX_NoRoom : PySem.W.keepIn K (.ref X_NoRoom) = true) (bX_NoRoom : PySem.W.subIn K (.ref X_NoRoom) (.type "BaseException") = some true) (tX_NoRoom : PySem.W.typeIn K (.ref X_NoRoom) = some (.type "type")) (iX_NoRoom : PySem.W.isClsIn K X_NoRoom = true) (sX_NoRoom : PySem.W.subIn K (.ref X_NoRoom) (.ref X_NoRoom) = some true)
    (aX_NoSeat : PySem.W.nsIn K mainGlobals "NoSeat" = some (some (.ref X_NoSeat))) (xX_NoSeat : PySem.W.excIn K X_NoSeat [.type "ValueError", .type "Exception", .type "BaseException", .type "object"] "ValueError.__new__" = true) (kX_NoSeat : PySem.W.keepIn K (.ref X_NoSeat) = true) (bX_NoSeat : PySem.W.subIn K (.ref X_NoSeat) (.type "BaseException") = some true) (tX_NoSeat : PySem.W.typeIn K (.ref X_NoSeat) = some (.type "type")) (iX_NoSeat : PySem.W.isClsIn K X_NoSeat = true) (sX_NoSeat : PySem.W.subIn K (.ref X_NoSeat) (.ref X_NoSeat) = some true)
    (aX_Taken : PySem.W.nsIn K mainGlobals "Taken" = some (some (.ref X_Taken))) (xX_Taken : PySem.W.excIn K X_Taken [.type "ValueError", .type "Exception", .type "BaseException", .type "object"] "ValueError.__new__" = true) (kX_Taken : PySem.W.keepIn K (.ref X_Taken) = true) (bX_Taken : PySem.W.subIn K (.ref X_Taken) (.type "BaseException") = some true) (tX_Taken : PySem.W.typeIn K (.ref X_Taken) = some (.type "type")) (iX_Taken : PySem.W.isClsIn K X_Taken = true) (sX_Taken : PySem.W.subIn K (.ref X_Taken) (.ref X_Taken) = some true)
    (aX_Unknown : PySem.W.nsIn K mainGlobals "Unknown" = some (some (.ref X_Unknown))) (xX_Unknown : PySem.W.excIn K X_Unknown [.type "ValueError", .type "Exception", .type "BaseException", .type "object"] "ValueError.__new__" = true) (kX_Unknown : PySem.W.keepIn K (.ref X_Unknown) = true) (bX_Unknown : PySem.W.subIn K (.ref X_Unknown) (.type "BaseException") = some true) (tX_Unknown : PySem.W.typeIn K (.ref X_Unknown) = some (.type "type")) (iX_Unknown : PySem.W.isClsIn K X_Unknown = true) (sX_Unknown : PySem.W.subIn K (.ref X_Unknown) (.ref X_Unknown) = some true)
    (ia_Plan : PySem.W.findIn K (.ref C_Plan) "__class__" = some (some (.builtin "object.__class__"))) (in_Plan : PySem.W.specialIn K (.builtin "object.__class__") "__get__" = some (some (.builtin "getset_descriptor.__get__"))) (it_Plan : PySem.W.takesIn K (.builtin "object.__class__") = some true) (im_Plan : PySem.W.mroIn K C_Plan (.type "object") = some true)
    (a0 : PySem.W.nsIn K mainGlobals "need_hall" = some (some (.ref f0))) (l0 : K.lookup f0 = some ⟨oc0, od0, .func (PySem.W.fnOf "need_hall" "need_hall" (defArgs s_need_hall) (defBody s_need_hall) (defScope s_need_hall) .none kV0 dc0 pm0 an0 cd0 ct0), sl0⟩) (c0 : PySem.W.codeIn K cd0 "need_hall" = true) (k0 : PySem.W.keepIn K (.ref f0) = true)
    (a1 : PySem.W.nsIn K mainGlobals "need_row" = some (some (.ref f1))) (l1 : K.lookup f1 = some ⟨oc1, od1, .func (PySem.W.fnOf "need_row" "need_row" (defArgs s_need_row) (defBody s_need_row) (defScope s_need_row) .none kV1 dc1 pm1 an1 cd1 ct1), sl1⟩) (c1 : PySem.W.codeIn K cd1 "need_row" = true) (k1 : PySem.W.keepIn K (.ref f1) = true)
    (a2 : PySem.W.nsIn K mainGlobals "blocks_of" = some (some (.ref f2))) (l2 : K.lookup f2 = some ⟨oc2, od2, .func (PySem.W.fnOf "blocks_of" "blocks_of" (defArgs s_blocks_of) (defBody s_blocks_of) (defScope s_blocks_of) .none kV2 dc2 pm2 an2 cd2 ct2), sl2⟩) (c2 : PySem.W.codeIn K cd2 "blocks_of" = true) (k2 : PySem.W.keepIn K (.ref f2) = true)
    (a3 : PySem.W.nsIn K mainGlobals "blocks_of_row" = some (some (.ref f3))) (l3 : K.lookup f3 = some ⟨oc3, od3, .func (PySem.W.fnOf "blocks_of_row" "blocks_of_row" (defArgs s_blocks_of_row) (defBody s_blocks_of_row) (defScope s_blocks_of_row) .none kV3 dc3 pm3 an3 cd3 ct3), sl3⟩) (c3 : PySem.W.codeIn K cd3 "blocks_of_row" = true) (k3 : PySem.W.keepIn K (.ref f3) = true)
    (a4 : PySem.W.nsIn K mainGlobals "is_seat" = some (some (.ref f4))) (l4 : K.lookup f4 = some ⟨oc4, od4, .func (PySem.W.fnOf "is_seat" "is_seat" (defArgs s_is_seat) (defBody s_is_seat) (defScope s_is_seat) .none kV4 dc4 pm4 an4 cd4 ct4), sl4⟩) (c4 : PySem.W.codeIn K cd4 "is_seat" = true) (k4 : PySem.W.keepIn K (.ref f4) = true)
    (a5 : PySem.W.nsIn K mainGlobals "is_name" = some (some (.ref f5))) (l5 : K.lookup f5 = some ⟨oc5, od5, .func (PySem.W.fnOf "is_name" "is_name" (defArgs s_is_name) (defBody s_is_name) (defScope s_is_name) .none kV5 dc5 pm5 an5 cd5 ct5), sl5⟩) (c5 : PySem.W.codeIn K cd5 "is_name" = true) (k5 : PySem.W.keepIn K (.ref f5) = true)
    (a6 : PySem.W.nsIn K mainGlobals "need_name" = some (some (.ref f6))) (l6 : K.lookup f6 = some ⟨oc6, od6, .func (PySem.W.fnOf "need_name" "need_name" (defArgs s_need_name) (defBody s_need_name) (defScope s_need_name) .none kV6 dc6 pm6 an6 cd6 ct6), sl6⟩) (c6 : PySem.W.codeIn K cd6 "need_name" = true) (k6 : PySem.W.keepIn K (.ref f6) = true)
    (a7 : PySem.W.nsIn K mainGlobals "need_size" = some (some (.ref f7))) (l7 : K.lookup f7 = some ⟨oc7, od7, .func (PySem.W.fnOf "need_size" "need_size" (defArgs s_need_size) (defBody s_need_size) (defScope s_need_size) .none kV7 dc7 pm7 an7 cd7 ct7), sl7⟩) (c7 : PySem.W.codeIn K cd7 "need_size" = true) (k7 : PySem.W.keepIn K (.ref f7) = true)
    (a8 : PySem.W.nsIn K mainGlobals "runs_of" = some (some (.ref f8))) (l8 : K.lookup f8 = some ⟨oc8, od8, .func (PySem.W.fnOf "runs_of" "runs_of" (defArgs s_runs_of) (defBody s_runs_of) (defScope s_runs_of) .none kV8 dc8 pm8 an8 cd8 ct8), sl8⟩) (c8 : PySem.W.codeIn K cd8 "runs_of" = true) (k8 : PySem.W.keepIn K (.ref f8) = true)
    (a9 : PySem.W.nsIn K mainGlobals "with_taken" = some (some (.ref f9))) (l9 : K.lookup f9 = some ⟨oc9, od9, .func (PySem.W.fnOf "with_taken" "with_taken" (defArgs s_with_taken) (defBody s_with_taken) (defScope s_with_taken) .none kV9 dc9 pm9 an9 cd9 ct9), sl9⟩) (c9 : PySem.W.codeIn K cd9 "with_taken" = true) (k9 : PySem.W.keepIn K (.ref f9) = true)
    (a10 : PySem.W.nsIn K mainGlobals "fitting" = some (some (.ref f10))) (l10 : K.lookup f10 = some ⟨oc10, od10, .func (PySem.W.fnOf "fitting" "fitting" (defArgs s_fitting) (defBody s_fitting) (defScope s_fitting) .none kV10 dc10 pm10 an10 cd10 ct10), sl10⟩) (c10 : PySem.W.codeIn K cd10 "fitting" = true) (k10 : PySem.W.keepIn K (.ref f10) = true)
    (a11 : PySem.W.nsIn K mainGlobals "spots_of" = some (some (.ref f11))) (l11 : K.lookup f11 = some ⟨oc11, od11, .func (PySem.W.fnOf "spots_of" "spots_of" (defArgs s_spots_of) (defBody s_spots_of) (defScope s_spots_of) .none kV11 dc11 pm11 an11 cd11 ct11), sl11⟩) (c11 : PySem.W.codeIn K cd11 "spots_of" = true) (k11 : PySem.W.keepIn K (.ref f11) = true)
    (a12 : PySem.W.nsIn K mainGlobals "need_unused" = some (some (.ref f12))) (l12 : K.lookup f12 = some ⟨oc12, od12, .func (PySem.W.fnOf "need_unused" "need_unused" (defArgs s_need_unused) (defBody s_need_unused) (defScope s_need_unused) .none kV12 dc12 pm12 an12 cd12 ct12), sl12⟩) (c12 : PySem.W.codeIn K cd12 "need_unused" = true) (k12 : PySem.W.keepIn K (.ref f12) = true)
    (a13 : PySem.W.nsIn K mainGlobals "groups_in" = some (some (.ref f13))) (l13 : K.lookup f13 = some ⟨oc13, od13, .func (PySem.W.fnOf "groups_in" "groups_in" (defArgs s_groups_in) (defBody s_groups_in) (defScope s_groups_in) .none kV13 dc13 pm13 an13 cd13 ct13), sl13⟩) (c13 : PySem.W.codeIn K cd13 "groups_in" = true) (k13 : PySem.W.keepIn K (.ref f13) = true)
    (a14 : PySem.W.nsIn K mainGlobals "drawn" = some (some (.ref f14))) (l14 : K.lookup f14 = some ⟨oc14, od14, .func (PySem.W.fnOf "drawn" "drawn" (defArgs s_drawn) (defBody s_drawn) (defScope s_drawn) .none kV14 dc14 pm14 an14 cd14 ct14), sl14⟩) (c14 : PySem.W.codeIn K cd14 "drawn" = true) (k14 : PySem.W.keepIn K (.ref f14) = true)
    (a15 : PySem.W.nsIn K mainGlobals "read" = some (some (.ref f15))) (l15 : K.lookup f15 = some ⟨oc15, od15, .func (PySem.W.fnOf "read" "read" (defArgs s_read) (defBody s_read) (defScope s_read) .none kV15 dc15 pm15 an15 cd15 ct15), sl15⟩) (c15 : PySem.W.codeIn K cd15 "read" = true) (k15 : PySem.W.keepIn K (.ref f15) = true)
    (a16 : PySem.W.nsIn K mainGlobals "group_of" = some (some (.ref f16))) (l16 : K.lookup f16 = some ⟨oc16, od16, .func (PySem.W.fnOf "group_of" "group_of" (defArgs s_group_of) (defBody s_group_of) (defScope s_group_of) .none kV16 dc16 pm16 an16 cd16 ct16), sl16⟩) (c16 : PySem.W.codeIn K cd16 "group_of" = true) (k16 : PySem.W.keepIn K (.ref f16) = true)
    (a17 : PySem.W.nsIn K mainGlobals "spot_of" = some (some (.ref f17))) (l17 : K.lookup f17 = some ⟨oc17, od17, .func (PySem.W.fnOf "spot_of" "spot_of" (defArgs s_spot_of) (defBody s_spot_of) (defScope s_spot_of) .none kV17 dc17 pm17 an17 cd17 ct17), sl17⟩) (c17 : PySem.W.codeIn K cd17 "spot_of" = true) (k17 : PySem.W.keepIn K (.ref f17) = true)
    (a18 : PySem.W.nsIn K mainGlobals "number_of" = some (some (.ref f18))) (l18 : K.lookup f18 = some ⟨oc18, od18, .func (PySem.W.fnOf "number_of" "number_of" (defArgs s_number_of) (defBody s_number_of) (defScope s_number_of) .none kV18 dc18 pm18 an18 cd18 ct18), sl18⟩) (c18 : PySem.W.codeIn K cd18 "number_of" = true) (k18 : PySem.W.keepIn K (.ref f18) = true)
    (a19 : PySem.W.nsIn K mainGlobals "_law_cell_at" = some (some (.ref f19))) (l19 : K.lookup f19 = some ⟨oc19, od19, .func (PySem.W.fnOf "_law_cell_at" "_law_cell_at" (defArgs s_law_cell_at) (defBody s_law_cell_at) (defScope s_law_cell_at) .none kV19 dc19 pm19 an19 cd19 ct19), sl19⟩) (c19 : PySem.W.codeIn K cd19 "_law_cell_at" = true) (k19 : PySem.W.keepIn K (.ref f19) = true)
    (a20 : PySem.W.nsIn K mainGlobals "_law_spot" = some (some (.ref f20))) (l20 : K.lookup f20 = some ⟨oc20, od20, .func (PySem.W.fnOf "_law_spot" "_law_spot" (defArgs s_law_spot) (defBody s_law_spot) (defScope s_law_spot) .none kV20 dc20 pm20 an20 cd20 ct20), sl20⟩) (c20 : PySem.W.codeIn K cd20 "_law_spot" = true) (k20 : PySem.W.keepIn K (.ref f20) = true)
    (a21 : PySem.W.nsIn K mainGlobals "_law_row_by" = some (some (.ref f21))) (l21 : K.lookup f21 = some ⟨oc21, od21, .func (PySem.W.fnOf "_law_row_by" "_law_row_by" (defArgs s_law_row_by) (defBody s_law_row_by) (defScope s_law_row_by) .none kV21 dc21 pm21 an21 cd21 ct21), sl21⟩) (c21 : PySem.W.codeIn K cd21 "_law_row_by" = true) (k21 : PySem.W.keepIn K (.ref f21) = true)
    (a22 : PySem.W.nsIn K mainGlobals "_law_names_by" = some (some (.ref f22))) (l22 : K.lookup f22 = some ⟨oc22, od22, .func (PySem.W.fnOf "_law_names_by" "_law_names_by" (defArgs s_law_names_by) (defBody s_law_names_by) (defScope s_law_names_by) .none kV22 dc22 pm22 an22 cd22 ct22), sl22⟩) (c22 : PySem.W.codeIn K cd22 "_law_names_by" = true) (k22 : PySem.W.keepIn K (.ref f22) = true)
    (a23 : PySem.W.nsIn K mainGlobals "_law_held_by" = some (some (.ref f23))) (l23 : K.lookup f23 = some ⟨oc23, od23, .func (PySem.W.fnOf "_law_held_by" "_law_held_by" (defArgs s_law_held_by) (defBody s_law_held_by) (defScope s_law_held_by) .none kV23 dc23 pm23 an23 cd23 ct23), sl23⟩) (c23 : PySem.W.codeIn K cd23 "_law_held_by" = true) (k23 : PySem.W.keepIn K (.ref f23) = true)
    (a24 : PySem.W.nsIn K mainGlobals "_law_runs" = some (some (.ref f24))) (l24 : K.lookup f24 = some ⟨oc24, od24, .func (PySem.W.fnOf "_law_runs" "_law_runs" (defArgs s_law_runs) (defBody s_law_runs) (defScope s_law_runs) .none kV24 dc24 pm24 an24 cd24 ct24), sl24⟩) (c24 : PySem.W.codeIn K cd24 "_law_runs" = true) (k24 : PySem.W.keepIn K (.ref f24) = true)
    (a25 : PySem.W.nsIn K mainGlobals "_law_lines" = some (some (.ref f25))) (l25 : K.lookup f25 = some ⟨oc25, od25, .func (PySem.W.fnOf "_law_lines" "_law_lines" (defArgs s_law_lines) (defBody s_law_lines) (defScope s_law_lines) .none kV25 dc25 pm25 an25 cd25 ct25), sl25⟩) (c25 : PySem.W.codeIn K cd25 "_law_lines" = true) (k25 : PySem.W.keepIn K (.ref f25) = true)
    (a26 : PySem.W.nsIn K mainGlobals "_law_gap" = some (some (.ref f26))) (l26 : K.lookup f26 = some ⟨oc26, od26, .func (PySem.W.fnOf "_law_gap" "_law_gap" (defArgs s_law_gap) (defBody s_law_gap) (defScope s_law_gap) .none kV26 dc26 pm26 an26 cd26 ct26), sl26⟩) (c26 : PySem.W.codeIn K cd26 "_law_gap" = true) (k26 : PySem.W.keepIn K (.ref f26) = true)
    (a27 : PySem.W.nsIn K mainGlobals "_law_stands" = some (some (.ref f27))) (l27 : K.lookup f27 = some ⟨oc27, od27, .func (PySem.W.fnOf "_law_stands" "_law_stands" (defArgs s_law_stands) (defBody s_law_stands) (defScope s_law_stands) .none kV27 dc27 pm27 an27 cd27 ct27), sl27⟩) (c27 : PySem.W.codeIn K cd27 "_law_stands" = true) (k27 : PySem.W.keepIn K (.ref f27) = true)
    (a28 : PySem.W.nsIn K mainGlobals "law" = some (some (.ref f28))) (l28 : K.lookup f28 = some ⟨oc28, od28, .func (PySem.W.fnOf "law" "law" (defArgs s_law) (defBody s_law) (defScope s_law) .none kV28 dc28 pm28 an28 cd28 ct28), sl28⟩) (c28 : PySem.W.codeIn K cd28 "law" = true) (k28 : PySem.W.keepIn K (.ref f28) = true)
    (a29 : PySem.W.findIn K (.ref C_Plan) "__init__" = some (some (.ref f29))) (i29 : PySem.W.isFn K (.ref f29) = true) (l29 : K.lookup f29 = some ⟨oc29, od29, .func (PySem.W.fnOf "__init__" "Plan.__init__" (defArgs s_Plan__init) (defBody s_Plan__init) (defScope s_Plan__init) .none kV29 dc29 pm29 an29 cd29 ct29), sl29⟩) (c29 : PySem.W.codeIn K cd29 "Plan.__init__" = true) (k29 : PySem.W.keepIn K (.ref f29) = true)
    (a30 : PySem.W.findIn K (.ref C_Plan) "sit" = some (some (.ref f30))) (i30 : PySem.W.isFn K (.ref f30) = true) (l30 : K.lookup f30 = some ⟨oc30, od30, .func (PySem.W.fnOf "sit" "Plan.sit" (defArgs s_Plan_sit) (defBody s_Plan_sit) (defScope s_Plan_sit) .none kV30 dc30 pm30 an30 cd30 ct30), sl30⟩) (c30 : PySem.W.codeIn K cd30 "Plan.sit" = true) (k30 : PySem.W.keepIn K (.ref f30) = true)
    (a31 : PySem.W.findIn K (.ref C_Plan) "party" = some (some (.ref f31))) (i31 : PySem.W.isFn K (.ref f31) = true) (l31 : K.lookup f31 = some ⟨oc31, od31, .func (PySem.W.fnOf "party" "Plan.party" (defArgs s_Plan_party) (defBody s_Plan_party) (defScope s_Plan_party) .none kV31 dc31 pm31 an31 cd31 ct31), sl31⟩) (c31 : PySem.W.codeIn K cd31 "Plan.party" = true) (k31 : PySem.W.keepIn K (.ref f31) = true)
    (a32 : PySem.W.findIn K (.ref C_Plan) "free" = some (some (.ref f32))) (i32 : PySem.W.isFn K (.ref f32) = true) (l32 : K.lookup f32 = some ⟨oc32, od32, .func (PySem.W.fnOf "free" "Plan.free" (defArgs s_Plan_free) (defBody s_Plan_free) (defScope s_Plan_free) .none kV32 dc32 pm32 an32 cd32 ct32), sl32⟩) (c32 : PySem.W.codeIn K cd32 "Plan.free" = true) (k32 : PySem.W.keepIn K (.ref f32) = true)
    (a33 : PySem.W.findIn K (.ref C_Plan) "groups" = some (some (.ref f33))) (i33 : PySem.W.isFn K (.ref f33) = true) (l33 : K.lookup f33 = some ⟨oc33, od33, .func (PySem.W.fnOf "groups" "Plan.groups" (defArgs s_Plan_groups) (defBody s_Plan_groups) (defScope s_Plan_groups) .none kV33 dc33 pm33 an33 cd33 ct33), sl33⟩) (c33 : PySem.W.codeIn K cd33 "Plan.groups" = true) (k33 : PySem.W.keepIn K (.ref f33) = true)
    (a34 : PySem.W.findIn K (.ref C_Plan) "seats" = some (some (.ref f34))) (i34 : PySem.W.isFn K (.ref f34) = true) (l34 : K.lookup f34 = some ⟨oc34, od34, .func (PySem.W.fnOf "seats" "Plan.seats" (defArgs s_Plan_seats) (defBody s_Plan_seats) (defScope s_Plan_seats) .none kV34 dc34 pm34 an34 cd34 ct34), sl34⟩) (c34 : PySem.W.codeIn K cd34 "Plan.seats" = true) (k34 : PySem.W.keepIn K (.ref f34) = true)
    (a35 : PySem.W.findIn K (.ref C_Plan) "who" = some (some (.ref f35))) (i35 : PySem.W.isFn K (.ref f35) = true) (l35 : K.lookup f35 = some ⟨oc35, od35, .func (PySem.W.fnOf "who" "Plan.who" (defArgs s_Plan_who) (defBody s_Plan_who) (defScope s_Plan_who) .none kV35 dc35 pm35 an35 cd35 ct35), sl35⟩) (c35 : PySem.W.codeIn K cd35 "Plan.who" = true) (k35 : PySem.W.keepIn K (.ref f35) = true)
    (a36 : PySem.W.findIn K (.ref C_Plan) "taken" = some (some (.ref f36))) (i36 : PySem.W.isFn K (.ref f36) = true) (l36 : K.lookup f36 = some ⟨oc36, od36, .func (PySem.W.fnOf "taken" "Plan.taken" (defArgs s_Plan_taken) (defBody s_Plan_taken) (defScope s_Plan_taken) .none kV36 dc36 pm36 an36 cd36 ct36), sl36⟩) (c36 : PySem.W.codeIn K cd36 "Plan.taken" = true) (k36 : PySem.W.keepIn K (.ref f36) = true)
    (a37 : PySem.W.findIn K (.ref C_Plan) "settle" = some (some (.ref f37))) (i37 : PySem.W.isFn K (.ref f37) = true) (l37 : K.lookup f37 = some ⟨oc37, od37, .func (PySem.W.fnOf "settle" "Plan.settle" (defArgs s_Plan_settle) (defBody s_Plan_settle) (defScope s_Plan_settle) .none kV37 dc37 pm37 an37 cd37 ct37), sl37⟩) (c37 : PySem.W.codeIn K cd37 "Plan.settle" = true) (k37 : PySem.W.keepIn K (.ref f37) = true)
    (a38 : PySem.W.findIn K (.ref C_Plan) "_do" = some (some (.ref f38))) (i38 : PySem.W.isFn K (.ref f38) = true) (l38 : K.lookup f38 = some ⟨oc38, od38, .func (PySem.W.fnOf "_do" "Plan._do" (defArgs s_Plan_do) (defBody s_Plan_do) (defScope s_Plan_do) .none kV38 dc38 pm38 an38 cd38 ct38), sl38⟩) (c38 : PySem.W.codeIn K cd38 "Plan._do" = true) (k38 : PySem.W.keepIn K (.ref f38) = true)
    (a39 : PySem.W.findIn K (.ref C_Plan) "_need_new" = some (some (.ref f39))) (i39 : PySem.W.isFn K (.ref f39) = true) (l39 : K.lookup f39 = some ⟨oc39, od39, .func (PySem.W.fnOf "_need_new" "Plan._need_new" (defArgs s_Plan_need_new) (defBody s_Plan_need_new) (defScope s_Plan_need_new) .none kV39 dc39 pm39 an39 cd39 ct39), sl39⟩) (c39 : PySem.W.codeIn K cd39 "Plan._need_new" = true) (k39 : PySem.W.keepIn K (.ref f39) = true)
    (a40 : PySem.W.findIn K (.ref C_Plan) "_need_known" = some (some (.ref f40))) (i40 : PySem.W.isFn K (.ref f40) = true) (l40 : K.lookup f40 = some ⟨oc40, od40, .func (PySem.W.fnOf "_need_known" "Plan._need_known" (defArgs s_Plan_need_known) (defBody s_Plan_need_known) (defScope s_Plan_need_known) .none kV40 dc40 pm40 an40 cd40 ct40), sl40⟩) (c40 : PySem.W.codeIn K cd40 "Plan._need_known" = true) (k40 : PySem.W.keepIn K (.ref f40) = true)
    (a41 : PySem.W.findIn K (.ref C_Plan) "_need_seat" = some (some (.ref f41))) (i41 : PySem.W.isFn K (.ref f41) = true) (l41 : K.lookup f41 = some ⟨oc41, od41, .func (PySem.W.fnOf "_need_seat" "Plan._need_seat" (defArgs s_Plan_need_seat) (defBody s_Plan_need_seat) (defScope s_Plan_need_seat) .none kV41 dc41 pm41 an41 cd41 ct41), sl41⟩) (c41 : PySem.W.codeIn K cd41 "Plan._need_seat" = true) (k41 : PySem.W.keepIn K (.ref f41) = true)
    (z0 : PySem.W.nsIn K mainGlobals "all" = some none)
    (z1 : PySem.W.nsIn K mainGlobals "bool" = some none)
    (z2 : PySem.W.nsIn K mainGlobals "dict" = some none)
    (z3 : PySem.W.nsIn K mainGlobals "enumerate" = some none)
    (z4 : PySem.W.nsIn K mainGlobals "int" = some none)
    (z5 : PySem.W.nsIn K mainGlobals "isinstance" = some none)
    (z6 : PySem.W.nsIn K mainGlobals "len" = some none)
    (z7 : PySem.W.nsIn K mainGlobals "list" = some none)
    (z8 : PySem.W.nsIn K mainGlobals "max" = some none)
    (z9 : PySem.W.nsIn K mainGlobals "min" = some none)
    (z10 : PySem.W.nsIn K mainGlobals "range" = some none)
    (z11 : PySem.W.nsIn K mainGlobals "str" = some none)
    (z12 : PySem.W.nsIn K mainGlobals "sum" = some none)
    (z13 : PySem.W.nsIn K mainGlobals "tuple" = some none)
    (v0 : PySem.W.nsIn K mainGlobals "BEHIND_NAME" = some (some u0)) (w0 : RelV (.str ": ") u0)
    (v1 : PySem.W.nsIn K mainGlobals "FIGURES" = some (some u1)) (w1 : RelV (.str "0123456789") u1)
    (v2 : PySem.W.nsIn K mainGlobals "GAP" = some (some u2)) (w2 : RelV (.str ".") u2)
    (v3 : PySem.W.nsIn K mainGlobals "LARGEST_SIZE" = some (some u3)) (w3 : RelV (.int 2400) u3)
    (v4 : PySem.W.nsIn K mainGlobals "LONGEST_NAME" = some (some u4)) (w4 : RelV (.int 12) u4)
    (v5 : PySem.W.nsIn K mainGlobals "MOST_PLACES" = some (some u5)) (w5 : RelV (.int 60) u5)
    (v6 : PySem.W.nsIn K mainGlobals "MOST_ROWS" = some (some u6)) (w6 : RelV (.int 40) u6)
    (v7 : PySem.W.nsIn K mainGlobals "NAME_SIGNS" = some (some u7)) (w7 : RelV (.str "abcdefghijklmnopqrstuvwxyz0123456789-") u7)
    (v8 : PySem.W.nsIn K mainGlobals "SEAT" = some (some u8)) (w8 : RelV (.str "o") u8)
    (v9 : PySem.W.nsIn K mainGlobals "TAKEN_SEAT" = some (some u9)) (w9 : RelV (.str "#") u9)
    : ∃ fd : FuncData, (∀ (s : Shared) (v : Value), BindsTo s fd ⟨[v], []⟩ [("_law_script", v)]) ∧ ∀ base : Heap, K.In base → base.Ns mainGlobals mg → FnOk l.prog w K mg base CX0 7 fa fd ["_law_script"] (sp_law K) := by
  have e := hfa.symm.trans (PySem.W.mg_of X G a28)
  cases e
  have F0 := fun_mk (st := s_need_hall) l0 c0 k0
  have b0 := F0.binds (ps := ["rows"]) fun _ _ _ _ _ _ us hl => match us, hl with | [_], _ => rfl
  have F1 := fun_mk (st := s_need_row) l1 c1 k1
  have b1 := F1.binds (ps := ["signs"]) fun _ _ _ _ _ _ us hl => match us, hl with | [_], _ => rfl
  have F2 := fun_mk (st := s_blocks_of) l2 c2 k2
  have b2 := F2.binds (ps := ["rows"]) fun _ _ _ _ _ _ us hl => match us, hl with | [_], _ => rfl
  have F3 := fun_mk (st := s_blocks_of_row) l3 c3 k3
  have b3 := F3.binds (ps := ["row", "signs"]) fun _ _ _ _ _ _ us hl => match us, hl with | [_, _], _ => rfl
  have F4 := fun_mk (st := s_is_seat) l4 c4 k4
  have b4 := F4.binds (ps := ["rows", "row", "place"]) fun _ _ _ _ _ _ us hl => match us, hl with | [_, _, _], _ => rfl
  have F5 := fun_mk (st := s_is_name) l5 c5 k5
  have b5 := F5.binds (ps := ["name"]) fun _ _ _ _ _ _ us hl => match us, hl with | [_], _ => rfl
  have F6 := fun_mk (st := s_need_name) l6 c6 k6
  have b6 := F6.binds (ps := ["name"]) fun _ _ _ _ _ _ us hl => match us, hl with | [_], _ => rfl
  have F7 := fun_mk (st := s_need_size) l7 c7 k7
  have b7 := F7.binds (ps := ["size"]) fun _ _ _ _ _ _ us hl => match us, hl with | [_], _ => rfl
  have F8 := fun_mk (st := s_runs_of) l8 c8 k8
  have b8 := F8.binds (ps := ["rows", "taken"]) fun _ _ _ _ _ _ us hl => match us, hl with | [_, _], _ => rfl
  have F9 := fun_mk (st := s_with_taken) l9 c9 k9
  have b9 := F9.binds (ps := ["rows", "taken", "sign"]) fun _ _ _ _ _ _ us hl => match us, hl with | [_, _, _], _ => rfl
  have F10 := fun_mk (st := s_fitting) l10 c10 k10
  have b10 := F10.binds (ps := ["runs", "size"]) fun _ _ _ _ _ _ us hl => match us, hl with | [_, _], _ => rfl
  have F11 := fun_mk (st := s_spots_of) l11 c11 k11
  have b11 := F11.binds (ps := ["row", "first", "many"]) fun _ _ _ _ _ _ us hl => match us, hl with | [_, _, _], _ => rfl
  have F12 := fun_mk (st := s_need_unused) l12 c12 k12
  have b12 := F12.binds (ps := ["name", "used"]) fun _ _ _ _ _ _ us hl => match us, hl with | [_, _], _ => rfl
  have F13 := fun_mk (st := s_groups_in) l13 c13 k13
  have b13 := F13.binds (ps := ["run", "pairs"]) fun _ _ _ _ _ _ us hl => match us, hl with | [_, _], _ => rfl
  have F14 := fun_mk (st := s_drawn) l14 c14 k14
  have b14 := F14.binds (ps := ["plan"]) fun _ _ _ _ _ _ us hl => match us, hl with | [_], _ => rfl
  have F15 := fun_mk (st := s_read) l15 c15 k15
  have b15 := F15.binds (ps := ["rows", "lines"]) fun _ _ _ _ _ _ us hl => match us, hl with | [_, _], _ => rfl
  have F16 := fun_mk (st := s_group_of) l16 c16 k16
  have b16 := F16.binds (ps := ["line"]) fun _ _ _ _ _ _ us hl => match us, hl with | [_], _ => rfl
  have F17 := fun_mk (st := s_spot_of) l17 c17 k17
  have b17 := F17.binds (ps := ["word"]) fun _ _ _ _ _ _ us hl => match us, hl with | [_], _ => rfl
  have F18 := fun_mk (st := s_number_of) l18 c18 k18
  have b18 := F18.binds (ps := ["figures"]) fun _ _ _ _ _ _ us hl => match us, hl with | [_], _ => rfl
  have F19 := fun_mk (st := s_law_cell_at) l19 c19 k19
  have b19 := F19.binds (ps := ["_law_script", "_law_k"]) fun _ _ _ _ _ _ us hl => match us, hl with | [_, _], _ => rfl
  have F20 := fun_mk (st := s_law_spot) l20 c20 k20
  have b20 := F20.binds (ps := ["_law_spot_here"]) fun _ _ _ _ _ _ us hl => match us, hl with | [_], _ => rfl
  have F21 := fun_mk (st := s_law_row_by) l21 c21 k21
  have b21 := F21.binds (ps := ["_law_n"]) fun _ _ _ _ _ _ us hl => match us, hl with | [_], _ => rfl
  have F22 := fun_mk (st := s_law_names_by) l22 c22 k22
  have b22 := F22.binds (ps := ["_law_n", "_law_many"]) fun _ _ _ _ _ _ us hl => match us, hl with | [_, _], _ => rfl
  have F23 := fun_mk (st := s_law_held_by) l23 c23 k23
  have b23 := F23.binds (ps := ["_law_rows", "_law_names", "_law_n"]) fun _ _ _ _ _ _ us hl => match us, hl with | [_, _, _], _ => rfl
  have F24 := fun_mk (st := s_law_runs) l24 c24 k24
  have b24 := F24.binds (ps := ["_law_rows", "_law_taken"]) fun _ _ _ _ _ _ us hl => match us, hl with | [_, _], _ => rfl
  have F25 := fun_mk (st := s_law_lines) l25 c25 k25
  have b25 := F25.binds (ps := ["_law_held"]) fun _ _ _ _ _ _ us hl => match us, hl with | [_], _ => rfl
  have F26 := fun_mk (st := s_law_gap) l26 c26 k26
  have b26 := F26.binds (ps := ["_law_plan", "_law_row", "_law_place"]) fun _ _ _ _ _ _ us hl => match us, hl with | [_, _, _], _ => rfl
  have F27 := fun_mk (st := s_law_stands) l27 c27 k27
  have b27 := F27.binds (ps := ["_law_plan", "_law_rows", "_law_held"]) fun _ _ _ _ _ _ us hl => match us, hl with | [_, _, _], _ => rfl
  have F28 := fun_mk (st := s_law) l28 c28 k28
  have b28 := F28.binds (ps := ["_law_script"]) fun _ _ _ _ _ _ us hl => match us, hl with | [_], _ => rfl
  have F29 := fun_mk (st := s_Plan__init) l29 c29 k29
  have b29 := F29.binds (ps := ["self", "rows"]) fun _ _ _ _ _ _ us hl => match us, hl with | [_, _], _ => rfl
  have F30 := fun_mk (st := s_Plan_sit) l30 c30 k30
  have b30 := F30.binds (ps := ["self", "name", "size"]) fun _ _ _ _ _ _ us hl => match us, hl with | [_, _, _], _ => rfl
  have F31 := fun_mk (st := s_Plan_party) l31 c31 k31
  have b31 := F31.binds (ps := ["self", "pairs"]) fun _ _ _ _ _ _ us hl => match us, hl with | [_, _], _ => rfl
  have F32 := fun_mk (st := s_Plan_free) l32 c32 k32
  have b32 := F32.binds (ps := ["self"]) fun _ _ _ _ _ _ us hl => match us, hl with | [_], _ => rfl
  have F33 := fun_mk (st := s_Plan_groups) l33 c33 k33
  have b33 := F33.binds (ps := ["self"]) fun _ _ _ _ _ _ us hl => match us, hl with | [_], _ => rfl
  have F34 := fun_mk (st := s_Plan_seats) l34 c34 k34
  have b34 := F34.binds (ps := ["self", "name"]) fun _ _ _ _ _ _ us hl => match us, hl with | [_, _], _ => rfl
  have F35 := fun_mk (st := s_Plan_who) l35 c35 k35
  have b35 := F35.binds (ps := ["self", "row", "place"]) fun _ _ _ _ _ _ us hl => match us, hl with | [_, _, _], _ => rfl
  have F36 := fun_mk (st := s_Plan_taken) l36 c36 k36
  have b36 := F36.binds (ps := ["self"]) fun _ _ _ _ _ _ us hl => match us, hl with | [_], _ => rfl
  have F37 := fun_mk (st := s_Plan_settle) l37 c37 k37
  have b37 := F37.binds (ps := ["self", "name", "spots"]) fun _ _ _ _ _ _ us hl => match us, hl with | [_, _, _], _ => rfl
  have F38 := fun_mk (st := s_Plan_do) l38 c38 k38
  have b38 := F38.binds (ps := ["self", "at", "gone", "come"]) fun _ _ _ _ _ _ us hl => match us, hl with | [_, _, _, _], _ => rfl
  have F39 := fun_mk (st := s_Plan_need_new) l39 c39 k39
  have b39 := F39.binds (ps := ["self", "pairs"]) fun _ _ _ _ _ _ us hl => match us, hl with | [_, _], _ => rfl
  have F40 := fun_mk (st := s_Plan_need_known) l40 c40 k40
  have b40 := F40.binds (ps := ["self", "name"]) fun _ _ _ _ _ _ us hl => match us, hl with | [_, _], _ => rfl
  have F41 := fun_mk (st := s_Plan_need_seat) l41 c41 k41
  have b41 := F41.binds (ps := ["self", "spot"]) fun _ _ _ _ _ _ us hl => match us, hl with | [_, _], _ => rfl
  let T : Top K mg := ⟨f0, _, F0, b0, (PySem.W.mg_of X G a0), f1, _, F1, b1, (PySem.W.mg_of X G a1), f2, _, F2, b2, (PySem.W.mg_of X G a2), f3, _, F3, b3, (PySem.W.mg_of X G a3), f4, _, F4, b4, (PySem.W.mg_of X G a4), f5, _, F5, b5, (PySem.W.mg_of X G a5), f6, _, F6, b6, (PySem.W.mg_of X G a6), f7, _, F7, b7, (PySem.W.mg_of X G a7), f8, _, F8, b8, (PySem.W.mg_of X G a8), f9, _, F9, b9, (PySem.W.mg_of X G a9), f10, _, F10, b10, (PySem.W.mg_of X G a10), f11, _, F11, b11, (PySem.W.mg_of X G a11), f12, _, F12, b12, (PySem.W.mg_of X G a12), f13, _, F13, b13, (PySem.W.mg_of X G a13), f14, _, F14, b14, (PySem.W.mg_of X G a14), f15, _, F15, b15, (PySem.W.mg_of X G a15), f16, _, F16, b16, (PySem.W.mg_of X G a16), f17, _, F17, b17, (PySem.W.mg_of X G a17), f18, _, F18, b18, (PySem.W.mg_of X G a18), f19, _, F19, b19, (PySem.W.mg_of X G a19), f20, _, F20, b20, (PySem.W.mg_of X G a20), f21, _, F21, b21, (PySem.W.mg_of X G a21), f22, _, F22, b22, (PySem.W.mg_of X G a22), f23, _, F23, b23, (PySem.W.mg_of X G a23), f24, _, F24, b24, (PySem.W.mg_of X G a24), f25, _, F25, b25, (PySem.W.mg_of X G a25), f26, _, F26, b26, (PySem.W.mg_of X G a26), f27, _, F27, b27, (PySem.W.mg_of X G a27), fa, _, F28, b28, (PySem.W.mg_of X G a28), C_Plan, (PySem.W.mg_of X G aC_Plan), ⟨pg_Plan, hd_Plan, po_Plan, sa_Plan⟩, n_Plan_hall, n_Plan__groups, n_Plan__deeds, f29, _, F29, b29, ⟨mk_Plan, a29, i29, kc_Plan⟩, f30, _, F30, b30, ⟨a30, i30, k30⟩, f31, _, F31, b31, ⟨a31, i31, k31⟩, f32, _, F32, b32, ⟨a32, i32, k32⟩, f33, _, F33, b33, ⟨a33, i33, k33⟩, f34, _, F34, b34, ⟨a34, i34, k34⟩, f35, _, F35, b35, ⟨a35, i35, k35⟩, f36, _, F36, b36, ⟨a36, i36, k36⟩, f37, _, F37, b37, ⟨a37, i37, k37⟩, f38, _, F38, b38, ⟨a38, i38, k38⟩, f39, _, F39, b39, ⟨a39, i39, k39⟩, f40, _, F40, b40, ⟨a40, i40, k40⟩, f41, _, F41, b41, ⟨a41, i41, k41⟩, X_BadHall, (PySem.W.mg_of X G aX_BadHall), xX_BadHall, kX_BadHall, bX_BadHall, tX_BadHall, (Dl.exm_me bX_BadHall iX_BadHall tX_BadHall sX_BadHall), X_BadLine, (PySem.W.mg_of X G aX_BadLine), xX_BadLine, kX_BadLine, bX_BadLine, tX_BadLine, (Dl.exm_me bX_BadLine iX_BadLine tX_BadLine sX_BadLine), X_BadName, (PySem.W.mg_of X G aX_BadName), xX_BadName, kX_BadName, bX_BadName, tX_BadName, (Dl.exm_me bX_BadName iX_BadName tX_BadName sX_BadName), X_BadSize, (PySem.W.mg_of X G aX_BadSize), xX_BadSize, kX_BadSize, bX_BadSize, tX_BadSize, (Dl.exm_me bX_BadSize iX_BadSize tX_BadSize sX_BadSize), X_Known, (PySem.W.mg_of X G aX_Known), xX_Known, kX_Known, bX_Known, tX_Known, (Dl.exm_me bX_Known iX_Known tX_Known sX_Known), X_NoRoom, (PySem.W.mg_of X G aX_NoRoom), xX_NoRoom, kX_NoRoom, bX_NoRoom, tX_NoRoom, (Dl.exm_me bX_NoRoom iX_NoRoom tX_NoRoom sX_NoRoom), X_NoSeat, (PySem.W.mg_of X G aX_NoSeat), xX_NoSeat, kX_NoSeat, bX_NoSeat, tX_NoSeat, (Dl.exm_me bX_NoSeat iX_NoSeat tX_NoSeat sX_NoSeat), X_Taken, (PySem.W.mg_of X G aX_Taken), xX_Taken, kX_Taken, bX_Taken, tX_Taken, (Dl.exm_me bX_Taken iX_Taken tX_Taken sX_Taken), X_Unknown, (PySem.W.mg_of X G aX_Unknown), xX_Unknown, kX_Unknown, bX_Unknown, tX_Unknown, (Dl.exm_me bX_Unknown iX_Unknown tX_Unknown sX_Unknown), ⟨⟨pg_Plan, hd_Plan, po_Plan, sa_Plan⟩, ia_Plan, in_Plan, it_Plan, im_Plan⟩, (PySem.W.mg_none_of X G z0), (PySem.W.mg_none_of X G z1), (PySem.W.mg_none_of X G z2), (PySem.W.mg_none_of X G z3), (PySem.W.mg_none_of X G z4), (PySem.W.mg_none_of X G z5), (PySem.W.mg_none_of X G z6), (PySem.W.mg_none_of X G z7), (PySem.W.mg_none_of X G z8), (PySem.W.mg_none_of X G z9), (PySem.W.mg_none_of X G z10), (PySem.W.mg_none_of X G z11), (PySem.W.mg_none_of X G z12), (PySem.W.mg_none_of X G z13), u0, (PySem.W.mg_of X G v0), w0, u1, (PySem.W.mg_of X G v1), w1, u2, (PySem.W.mg_of X G v2), w2, u3, (PySem.W.mg_of X G v3), w3, u4, (PySem.W.mg_of X G v4), w4, u5, (PySem.W.mg_of X G v5), w5, u6, (PySem.W.mg_of X G v6), w6, u7, (PySem.W.mg_of X G v7), w7, u8, (PySem.W.mg_of X G v8), w8, u9, (PySem.W.mg_of X G v9), w9⟩
  exact ⟨PySem.W.fnOf "law" "law" (defArgs s_law) (defBody s_law) (defScope s_law) .none kV28 dc28 pm28 an28 cd28 ct28, fun s v => .of_eq rfl, fun base _ _ => ok_law T⟩
end Lw
open PySem PySem.W PyProof.Rows in
set_option maxRecDepth 100000 in
set_option maxHeartbeats 0 in
theorem PySem.Challenge.cw_seatplan_k05_a_group_sits_holds : PySem.Challenge.rw_seatplan_k05_a_group_sits.Holds := by
  w_on; o_law; k_head; (case hw => w_witness2)
  k_fill
  refine L2.walk_ofB (l := PySem.Challenge.rw_seatplan_k05_a_group_sits) (n := 63) (k := 7) (x := "_law_script") (CX := fun _ => L2.CX0) (sp := fun w => Lw.sp_law _) rfl (by decide) rfl ⟨rfl, by decide, by decide⟩ (fun w h Y => PySem.W.kIn_of Y) ?F (fun _ _ a ns hl hb _ hS => ⟨a, ns, rfl, hS, hl, hb, fun _ => rfl⟩) (fun _ _ _ _ _ h => h)
  case F =>
    intro w mg fa h KX G hmg
    refine' Lw.all_mk KX G hmg ?aC_Plan ?pg_Plan ?hd_Plan ?po_Plan ?sa_Plan ?mk_Plan ?kc_Plan ?n_Plan_hall ?n_Plan__groups ?n_Plan__deeds ?aX_BadHall ?xX_BadHall ?kX_BadHall ?bX_BadHall ?tX_BadHall ?iX_BadHall ?sX_BadHall ?aX_BadLine ?xX_BadLine ?kX_BadLine ?bX_BadLine ?tX_BadLine ?iX_BadLine ?sX_BadLine ?aX_BadName ?xX_BadName ?kX_BadName ?bX_BadName ?tX_BadName ?iX_BadName ?sX_BadName ?aX_BadSize ?xX_BadSize ?kX_BadSize ?bX_BadSize ?tX_BadSize ?iX_BadSize ?sX_BadSize ?aX_Known ?xX_Known ?kX_Known ?bX_Known ?tX_Known ?iX_Known ?sX_Known ?aX_NoRoom ?xX_NoRoom ?kX_NoRoom ?bX_NoRoom ?tX_NoRoom ?iX_NoRoom ?sX_NoRoom ?aX_NoSeat ?xX_NoSeat ?kX_NoSeat ?bX_NoSeat ?tX_NoSeat ?iX_NoSeat ?sX_NoSeat ?aX_Taken ?xX_Taken ?kX_Taken ?bX_Taken ?tX_Taken ?iX_Taken ?sX_Taken ?aX_Unknown ?xX_Unknown ?kX_Unknown ?bX_Unknown ?tX_Unknown ?iX_Unknown ?sX_Unknown ?ia_Plan ?in_Plan ?it_Plan ?im_Plan ?a0 ?l0 ?c0 ?k0 ?a1 ?l1 ?c1 ?k1 ?a2 ?l2 ?c2 ?k2 ?a3 ?l3 ?c3 ?k3 ?a4 ?l4 ?c4 ?k4 ?a5 ?l5 ?c5 ?k5 ?a6 ?l6 ?c6 ?k6 ?a7 ?l7 ?c7 ?k7 ?a8 ?l8 ?c8 ?k8 ?a9 ?l9 ?c9 ?k9 ?a10 ?l10 ?c10 ?k10 ?a11 ?l11 ?c11 ?k11 ?a12 ?l12 ?c12 ?k12 ?a13 ?l13 ?c13 ?k13 ?a14 ?l14 ?c14 ?k14 ?a15 ?l15 ?c15 ?k15 ?a16 ?l16 ?c16 ?k16 ?a17 ?l17 ?c17 ?k17 ?a18 ?l18 ?c18 ?k18 ?a19 ?l19 ?c19 ?k19 ?a20 ?l20 ?c20 ?k20 ?a21 ?l21 ?c21 ?k21 ?a22 ?l22 ?c22 ?k22 ?a23 ?l23 ?c23 ?k23 ?a24 ?l24 ?c24 ?k24 ?a25 ?l25 ?c25 ?k25 ?a26 ?l26 ?c26 ?k26 ?a27 ?l27 ?c27 ?k27 ?a28 ?l28 ?c28 ?k28 ?a29 ?i29 ?l29 ?c29 ?k29 ?a30 ?i30 ?l30 ?c30 ?k30 ?a31 ?i31 ?l31 ?c31 ?k31 ?a32 ?i32 ?l32 ?c32 ?k32 ?a33 ?i33 ?l33 ?c33 ?k33 ?a34 ?i34 ?l34 ?c34 ?k34 ?a35 ?i35 ?l35 ?c35 ?k35 ?a36 ?i36 ?l36 ?c36 ?k36 ?a37 ?i37 ?l37 ?c37 ?k37 ?a38 ?i38 ?l38 ?c38 ?k38 ?a39 ?i39 ?l39 ?c39 ?k39 ?a40 ?i40 ?l40 ?c40 ?k40 ?a41 ?i41 ?l41 ?c41 ?k41 ?z0 ?z1 ?z2 ?z3 ?z4 ?z5 ?z6 ?z7 ?z8 ?z9 ?z10 ?z11 ?z12 ?z13 ?v0 ?w0 ?v1 ?w1 ?v2 ?w2 ?v3 ?w3 ?v4 ?w4 ?v5 ?w5 ?v6 ?w6 ?v7 ?w7 ?v8 ?w8 ?v9 ?w9
    (case aC_Plan => first | k_is | exact ⟨_, rfl⟩ | rfl)
    (case pg_Plan => first | k_is | exact ⟨_, rfl⟩ | rfl)
    (case hd_Plan => first | k_is | exact ⟨_, rfl⟩ | rfl)
    (case po_Plan => first | k_is | exact ⟨_, rfl⟩ | rfl)
    (case sa_Plan => first | k_is | exact ⟨_, rfl⟩ | rfl)
    (case mk_Plan => first | k_is | exact ⟨_, rfl⟩ | rfl)
    (case kc_Plan => first | k_is | exact ⟨_, rfl⟩ | rfl)
    (case n_Plan_hall => first | k_is | exact ⟨_, rfl⟩ | rfl)
    (case n_Plan__groups => first | k_is | exact ⟨_, rfl⟩ | rfl)
    (case n_Plan__deeds => first | k_is | exact ⟨_, rfl⟩ | rfl)
    (case aX_BadHall => first | k_is | exact ⟨_, rfl⟩ | rfl)
    (case xX_BadHall => k_exc)
    (case kX_BadHall => first | k_is | exact ⟨_, rfl⟩ | rfl)
    (case bX_BadHall => first | k_is | exact ⟨_, rfl⟩ | rfl)
    (case tX_BadHall => first | k_is | exact ⟨_, rfl⟩ | rfl)
    (case iX_BadHall => first | k_is | exact ⟨_, rfl⟩ | rfl)
    (case sX_BadHall => first | k_is | exact ⟨_, rfl⟩ | rfl)
    (case aX_BadLine => first | k_is | exact ⟨_, rfl⟩ | rfl)
    (case xX_BadLine => k_exc)
    (case kX_BadLine => first | k_is | exact ⟨_, rfl⟩ | rfl)
    (case bX_BadLine => first | k_is | exact ⟨_, rfl⟩ | rfl)
    (case tX_BadLine => first | k_is | exact ⟨_, rfl⟩ | rfl)
    (case iX_BadLine => first | k_is | exact ⟨_, rfl⟩ | rfl)
    (case sX_BadLine => first | k_is | exact ⟨_, rfl⟩ | rfl)
    (case aX_BadName => first | k_is | exact ⟨_, rfl⟩ | rfl)
    (case xX_BadName => k_exc)
    (case kX_BadName => first | k_is | exact ⟨_, rfl⟩ | rfl)
    (case bX_BadName => first | k_is | exact ⟨_, rfl⟩ | rfl)
    (case tX_BadName => first | k_is | exact ⟨_, rfl⟩ | rfl)
    (case iX_BadName => first | k_is | exact ⟨_, rfl⟩ | rfl)
    (case sX_BadName => first | k_is | exact ⟨_, rfl⟩ | rfl)
    (case aX_BadSize => first | k_is | exact ⟨_, rfl⟩ | rfl)
    (case xX_BadSize => k_exc)
    (case kX_BadSize => first | k_is | exact ⟨_, rfl⟩ | rfl)
    (case bX_BadSize => first | k_is | exact ⟨_, rfl⟩ | rfl)
    (case tX_BadSize => first | k_is | exact ⟨_, rfl⟩ | rfl)
    (case iX_BadSize => first | k_is | exact ⟨_, rfl⟩ | rfl)
    (case sX_BadSize => first | k_is | exact ⟨_, rfl⟩ | rfl)
    (case aX_Known => first | k_is | exact ⟨_, rfl⟩ | rfl)
    (case xX_Known => k_exc)
    (case kX_Known => first | k_is | exact ⟨_, rfl⟩ | rfl)
    (case bX_Known => first | k_is | exact ⟨_, rfl⟩ | rfl)
    (case tX_Known => first | k_is | exact ⟨_, rfl⟩ | rfl)
    (case iX_Known => first | k_is | exact ⟨_, rfl⟩ | rfl)
    (case sX_Known => first | k_is | exact ⟨_, rfl⟩ | rfl)
    (case aX_NoRoom => first | k_is | exact ⟨_, rfl⟩ | rfl)
    (case xX_NoRoom => k_exc)
    (case kX_NoRoom => first | k_is | exact ⟨_, rfl⟩ | rfl)
    (case bX_NoRoom => first | k_is | exact ⟨_, rfl⟩ | rfl)
    (case tX_NoRoom => first | k_is | exact ⟨_, rfl⟩ | rfl)
    (case iX_NoRoom => first | k_is | exact ⟨_, rfl⟩ | rfl)
    (case sX_NoRoom => first | k_is | exact ⟨_, rfl⟩ | rfl)
    (case aX_NoSeat => first | k_is | exact ⟨_, rfl⟩ | rfl)
    (case xX_NoSeat => k_exc)
    (case kX_NoSeat => first | k_is | exact ⟨_, rfl⟩ | rfl)
    (case bX_NoSeat => first | k_is | exact ⟨_, rfl⟩ | rfl)
    (case tX_NoSeat => first | k_is | exact ⟨_, rfl⟩ | rfl)
    (case iX_NoSeat => first | k_is | exact ⟨_, rfl⟩ | rfl)
    (case sX_NoSeat => first | k_is | exact ⟨_, rfl⟩ | rfl)
    (case aX_Taken => first | k_is | exact ⟨_, rfl⟩ | rfl)
    (case xX_Taken => k_exc)
    (case kX_Taken => first | k_is | exact ⟨_, rfl⟩ | rfl)
    (case bX_Taken => first | k_is | exact ⟨_, rfl⟩ | rfl)
    (case tX_Taken => first | k_is | exact ⟨_, rfl⟩ | rfl)
    (case iX_Taken => first | k_is | exact ⟨_, rfl⟩ | rfl)
    (case sX_Taken => first | k_is | exact ⟨_, rfl⟩ | rfl)
    (case aX_Unknown => first | k_is | exact ⟨_, rfl⟩ | rfl)
    (case xX_Unknown => k_exc)
    (case kX_Unknown => first | k_is | exact ⟨_, rfl⟩ | rfl)
    (case bX_Unknown => first | k_is | exact ⟨_, rfl⟩ | rfl)
    (case tX_Unknown => first | k_is | exact ⟨_, rfl⟩ | rfl)
    (case iX_Unknown => first | k_is | exact ⟨_, rfl⟩ | rfl)
    (case sX_Unknown => first | k_is | exact ⟨_, rfl⟩ | rfl)
    (case ia_Plan => first | k_is | exact ⟨_, rfl⟩ | rfl)
    (case in_Plan => first | k_is | exact ⟨_, rfl⟩ | rfl)
    (case it_Plan => first | k_is | exact ⟨_, rfl⟩ | rfl)
    (case im_Plan => first | k_is | exact ⟨_, rfl⟩ | rfl)
    (case a0 => first | k_is | exact ⟨_, rfl⟩ | rfl)
    (case l0 => first | k_is | exact ⟨_, rfl⟩ | rfl)
    (case c0 => first | k_is | exact ⟨_, rfl⟩ | rfl)
    (case k0 => first | k_is | exact ⟨_, rfl⟩ | rfl)
    (case a1 => first | k_is | exact ⟨_, rfl⟩ | rfl)
    (case l1 => first | k_is | exact ⟨_, rfl⟩ | rfl)
    (case c1 => first | k_is | exact ⟨_, rfl⟩ | rfl)
    (case k1 => first | k_is | exact ⟨_, rfl⟩ | rfl)
    (case a2 => first | k_is | exact ⟨_, rfl⟩ | rfl)
    (case l2 => first | k_is | exact ⟨_, rfl⟩ | rfl)
    (case c2 => first | k_is | exact ⟨_, rfl⟩ | rfl)
    (case k2 => first | k_is | exact ⟨_, rfl⟩ | rfl)
    (case a3 => first | k_is | exact ⟨_, rfl⟩ | rfl)
    (case l3 => first | k_is | exact ⟨_, rfl⟩ | rfl)
    (case c3 => first | k_is | exact ⟨_, rfl⟩ | rfl)
    (case k3 => first | k_is | exact ⟨_, rfl⟩ | rfl)
    (case a4 => first | k_is | exact ⟨_, rfl⟩ | rfl)
    (case l4 => first | k_is | exact ⟨_, rfl⟩ | rfl)
    (case c4 => first | k_is | exact ⟨_, rfl⟩ | rfl)
    (case k4 => first | k_is | exact ⟨_, rfl⟩ | rfl)
    (case a5 => first | k_is | exact ⟨_, rfl⟩ | rfl)
    (case l5 => first | k_is | exact ⟨_, rfl⟩ | rfl)
    (case c5 => first | k_is | exact ⟨_, rfl⟩ | rfl)
    (case k5 => first | k_is | exact ⟨_, rfl⟩ | rfl)
    (case a6 => first | k_is | exact ⟨_, rfl⟩ | rfl)
    (case l6 => first | k_is | exact ⟨_, rfl⟩ | rfl)
    (case c6 => first | k_is | exact ⟨_, rfl⟩ | rfl)
    (case k6 => first | k_is | exact ⟨_, rfl⟩ | rfl)
    (case a7 => first | k_is | exact ⟨_, rfl⟩ | rfl)
    (case l7 => first | k_is | exact ⟨_, rfl⟩ | rfl)
    (case c7 => first | k_is | exact ⟨_, rfl⟩ | rfl)
    (case k7 => first | k_is | exact ⟨_, rfl⟩ | rfl)
    (case a8 => first | k_is | exact ⟨_, rfl⟩ | rfl)
    (case l8 => first | k_is | exact ⟨_, rfl⟩ | rfl)
    (case c8 => first | k_is | exact ⟨_, rfl⟩ | rfl)
    (case k8 => first | k_is | exact ⟨_, rfl⟩ | rfl)
    (case a9 => first | k_is | exact ⟨_, rfl⟩ | rfl)
    (case l9 => first | k_is | exact ⟨_, rfl⟩ | rfl)
    (case c9 => first | k_is | exact ⟨_, rfl⟩ | rfl)
    (case k9 => first | k_is | exact ⟨_, rfl⟩ | rfl)
    (case a10 => first | k_is | exact ⟨_, rfl⟩ | rfl)
    (case l10 => first | k_is | exact ⟨_, rfl⟩ | rfl)
    (case c10 => first | k_is | exact ⟨_, rfl⟩ | rfl)
    (case k10 => first | k_is | exact ⟨_, rfl⟩ | rfl)
    (case a11 => first | k_is | exact ⟨_, rfl⟩ | rfl)
    (case l11 => first | k_is | exact ⟨_, rfl⟩ | rfl)
    (case c11 => first | k_is | exact ⟨_, rfl⟩ | rfl)
    (case k11 => first | k_is | exact ⟨_, rfl⟩ | rfl)
    (case a12 => first | k_is | exact ⟨_, rfl⟩ | rfl)
    (case l12 => first | k_is | exact ⟨_, rfl⟩ | rfl)
    (case c12 => first | k_is | exact ⟨_, rfl⟩ | rfl)
    (case k12 => first | k_is | exact ⟨_, rfl⟩ | rfl)
    (case a13 => first | k_is | exact ⟨_, rfl⟩ | rfl)
    (case l13 => first | k_is | exact ⟨_, rfl⟩ | rfl)
    (case c13 => first | k_is | exact ⟨_, rfl⟩ | rfl)
    (case k13 => first | k_is | exact ⟨_, rfl⟩ | rfl)
    (case a14 => first | k_is | exact ⟨_, rfl⟩ | rfl)
    (case l14 => first | k_is | exact ⟨_, rfl⟩ | rfl)
    (case c14 => first | k_is | exact ⟨_, rfl⟩ | rfl)
    (case k14 => first | k_is | exact ⟨_, rfl⟩ | rfl)
    (case a15 => first | k_is | exact ⟨_, rfl⟩ | rfl)
    (case l15 => first | k_is | exact ⟨_, rfl⟩ | rfl)
    (case c15 => first | k_is | exact ⟨_, rfl⟩ | rfl)
    (case k15 => first | k_is | exact ⟨_, rfl⟩ | rfl)
    (case a16 => first | k_is | exact ⟨_, rfl⟩ | rfl)
    (case l16 => first | k_is | exact ⟨_, rfl⟩ | rfl)
    (case c16 => first | k_is | exact ⟨_, rfl⟩ | rfl)
    (case k16 => first | k_is | exact ⟨_, rfl⟩ | rfl)
    (case a17 => first | k_is | exact ⟨_, rfl⟩ | rfl)
    (case l17 => first | k_is | exact ⟨_, rfl⟩ | rfl)
    (case c17 => first | k_is | exact ⟨_, rfl⟩ | rfl)
    (case k17 => first | k_is | exact ⟨_, rfl⟩ | rfl)
    (case a18 => first | k_is | exact ⟨_, rfl⟩ | rfl)
    (case l18 => first | k_is | exact ⟨_, rfl⟩ | rfl)
    (case c18 => first | k_is | exact ⟨_, rfl⟩ | rfl)
    (case k18 => first | k_is | exact ⟨_, rfl⟩ | rfl)
    (case a19 => first | k_is | exact ⟨_, rfl⟩ | rfl)
    (case l19 => first | k_is | exact ⟨_, rfl⟩ | rfl)
    (case c19 => first | k_is | exact ⟨_, rfl⟩ | rfl)
    (case k19 => first | k_is | exact ⟨_, rfl⟩ | rfl)
    (case a20 => first | k_is | exact ⟨_, rfl⟩ | rfl)
    (case l20 => first | k_is | exact ⟨_, rfl⟩ | rfl)
    (case c20 => first | k_is | exact ⟨_, rfl⟩ | rfl)
    (case k20 => first | k_is | exact ⟨_, rfl⟩ | rfl)
    (case a21 => first | k_is | exact ⟨_, rfl⟩ | rfl)
    (case l21 => first | k_is | exact ⟨_, rfl⟩ | rfl)
    (case c21 => first | k_is | exact ⟨_, rfl⟩ | rfl)
    (case k21 => first | k_is | exact ⟨_, rfl⟩ | rfl)
    (case a22 => first | k_is | exact ⟨_, rfl⟩ | rfl)
    (case l22 => first | k_is | exact ⟨_, rfl⟩ | rfl)
    (case c22 => first | k_is | exact ⟨_, rfl⟩ | rfl)
    (case k22 => first | k_is | exact ⟨_, rfl⟩ | rfl)
    (case a23 => first | k_is | exact ⟨_, rfl⟩ | rfl)
    (case l23 => first | k_is | exact ⟨_, rfl⟩ | rfl)
    (case c23 => first | k_is | exact ⟨_, rfl⟩ | rfl)
    (case k23 => first | k_is | exact ⟨_, rfl⟩ | rfl)
    (case a24 => first | k_is | exact ⟨_, rfl⟩ | rfl)
    (case l24 => first | k_is | exact ⟨_, rfl⟩ | rfl)
    (case c24 => first | k_is | exact ⟨_, rfl⟩ | rfl)
    (case k24 => first | k_is | exact ⟨_, rfl⟩ | rfl)
    (case a25 => first | k_is | exact ⟨_, rfl⟩ | rfl)
    (case l25 => first | k_is | exact ⟨_, rfl⟩ | rfl)
    (case c25 => first | k_is | exact ⟨_, rfl⟩ | rfl)
    (case k25 => first | k_is | exact ⟨_, rfl⟩ | rfl)
    (case a26 => first | k_is | exact ⟨_, rfl⟩ | rfl)
    (case l26 => first | k_is | exact ⟨_, rfl⟩ | rfl)
    (case c26 => first | k_is | exact ⟨_, rfl⟩ | rfl)
    (case k26 => first | k_is | exact ⟨_, rfl⟩ | rfl)
    (case a27 => first | k_is | exact ⟨_, rfl⟩ | rfl)
    (case l27 => first | k_is | exact ⟨_, rfl⟩ | rfl)
    (case c27 => first | k_is | exact ⟨_, rfl⟩ | rfl)
    (case k27 => first | k_is | exact ⟨_, rfl⟩ | rfl)
    (case a28 => first | k_is | exact ⟨_, rfl⟩ | rfl)
    (case l28 => first | k_is | exact ⟨_, rfl⟩ | rfl)
    (case c28 => first | k_is | exact ⟨_, rfl⟩ | rfl)
    (case k28 => first | k_is | exact ⟨_, rfl⟩ | rfl)
    (case a29 => first | k_is | exact ⟨_, rfl⟩ | rfl)
    (case i29 => first | k_is | exact ⟨_, rfl⟩ | rfl)
    (case l29 => first | k_is | exact ⟨_, rfl⟩ | rfl)
    (case c29 => first | k_is | exact ⟨_, rfl⟩ | rfl)
    (case k29 => first | k_is | exact ⟨_, rfl⟩ | rfl)
    (case a30 => first | k_is | exact ⟨_, rfl⟩ | rfl)
    (case i30 => first | k_is | exact ⟨_, rfl⟩ | rfl)
    (case l30 => first | k_is | exact ⟨_, rfl⟩ | rfl)
    (case c30 => first | k_is | exact ⟨_, rfl⟩ | rfl)
    (case k30 => first | k_is | exact ⟨_, rfl⟩ | rfl)
    (case a31 => first | k_is | exact ⟨_, rfl⟩ | rfl)
    (case i31 => first | k_is | exact ⟨_, rfl⟩ | rfl)
    (case l31 => first | k_is | exact ⟨_, rfl⟩ | rfl)
    (case c31 => first | k_is | exact ⟨_, rfl⟩ | rfl)
    (case k31 => first | k_is | exact ⟨_, rfl⟩ | rfl)
    (case a32 => first | k_is | exact ⟨_, rfl⟩ | rfl)
    (case i32 => first | k_is | exact ⟨_, rfl⟩ | rfl)
    (case l32 => first | k_is | exact ⟨_, rfl⟩ | rfl)
    (case c32 => first | k_is | exact ⟨_, rfl⟩ | rfl)
    (case k32 => first | k_is | exact ⟨_, rfl⟩ | rfl)
    (case a33 => first | k_is | exact ⟨_, rfl⟩ | rfl)
    (case i33 => first | k_is | exact ⟨_, rfl⟩ | rfl)
    (case l33 => first | k_is | exact ⟨_, rfl⟩ | rfl)
    (case c33 => first | k_is | exact ⟨_, rfl⟩ | rfl)
    (case k33 => first | k_is | exact ⟨_, rfl⟩ | rfl)
    (case a34 => first | k_is | exact ⟨_, rfl⟩ | rfl)
    (case i34 => first | k_is | exact ⟨_, rfl⟩ | rfl)
    (case l34 => first | k_is | exact ⟨_, rfl⟩ | rfl)
    (case c34 => first | k_is | exact ⟨_, rfl⟩ | rfl)
    (case k34 => first | k_is | exact ⟨_, rfl⟩ | rfl)
    (case a35 => first | k_is | exact ⟨_, rfl⟩ | rfl)
    (case i35 => first | k_is | exact ⟨_, rfl⟩ | rfl)
    (case l35 => first | k_is | exact ⟨_, rfl⟩ | rfl)
    (case c35 => first | k_is | exact ⟨_, rfl⟩ | rfl)
    (case k35 => first | k_is | exact ⟨_, rfl⟩ | rfl)
    (case a36 => first | k_is | exact ⟨_, rfl⟩ | rfl)
    (case i36 => first | k_is | exact ⟨_, rfl⟩ | rfl)
    (case l36 => first | k_is | exact ⟨_, rfl⟩ | rfl)
    (case c36 => first | k_is | exact ⟨_, rfl⟩ | rfl)
    (case k36 => first | k_is | exact ⟨_, rfl⟩ | rfl)
    (case a37 => first | k_is | exact ⟨_, rfl⟩ | rfl)
    (case i37 => first | k_is | exact ⟨_, rfl⟩ | rfl)
    (case l37 => first | k_is | exact ⟨_, rfl⟩ | rfl)
    (case c37 => first | k_is | exact ⟨_, rfl⟩ | rfl)
    (case k37 => first | k_is | exact ⟨_, rfl⟩ | rfl)
    (case a38 => first | k_is | exact ⟨_, rfl⟩ | rfl)
    (case i38 => first | k_is | exact ⟨_, rfl⟩ | rfl)
    (case l38 => first | k_is | exact ⟨_, rfl⟩ | rfl)
    (case c38 => first | k_is | exact ⟨_, rfl⟩ | rfl)
    (case k38 => first | k_is | exact ⟨_, rfl⟩ | rfl)
    (case a39 => first | k_is | exact ⟨_, rfl⟩ | rfl)
    (case i39 => first | k_is | exact ⟨_, rfl⟩ | rfl)
    (case l39 => first | k_is | exact ⟨_, rfl⟩ | rfl)
    (case c39 => first | k_is | exact ⟨_, rfl⟩ | rfl)
    (case k39 => first | k_is | exact ⟨_, rfl⟩ | rfl)
    (case a40 => first | k_is | exact ⟨_, rfl⟩ | rfl)
    (case i40 => first | k_is | exact ⟨_, rfl⟩ | rfl)
    (case l40 => first | k_is | exact ⟨_, rfl⟩ | rfl)
    (case c40 => first | k_is | exact ⟨_, rfl⟩ | rfl)
    (case k40 => first | k_is | exact ⟨_, rfl⟩ | rfl)
    (case a41 => first | k_is | exact ⟨_, rfl⟩ | rfl)
    (case i41 => first | k_is | exact ⟨_, rfl⟩ | rfl)
    (case l41 => first | k_is | exact ⟨_, rfl⟩ | rfl)
    (case c41 => first | k_is | exact ⟨_, rfl⟩ | rfl)
    (case k41 => first | k_is | exact ⟨_, rfl⟩ | rfl)
    (case z0 => first | k_is | exact ⟨_, rfl⟩ | rfl)
    (case z1 => first | k_is | exact ⟨_, rfl⟩ | rfl)
    (case z2 => first | k_is | exact ⟨_, rfl⟩ | rfl)
    (case z3 => first | k_is | exact ⟨_, rfl⟩ | rfl)
    (case z4 => first | k_is | exact ⟨_, rfl⟩ | rfl)
    (case z5 => first | k_is | exact ⟨_, rfl⟩ | rfl)
    (case z6 => first | k_is | exact ⟨_, rfl⟩ | rfl)
    (case z7 => first | k_is | exact ⟨_, rfl⟩ | rfl)
    (case z8 => first | k_is | exact ⟨_, rfl⟩ | rfl)
    (case z9 => first | k_is | exact ⟨_, rfl⟩ | rfl)
    (case z10 => first | k_is | exact ⟨_, rfl⟩ | rfl)
    (case z11 => first | k_is | exact ⟨_, rfl⟩ | rfl)
    (case z12 => first | k_is | exact ⟨_, rfl⟩ | rfl)
    (case z13 => first | k_is | exact ⟨_, rfl⟩ | rfl)
    (case v0 => first | k_is | exact ⟨_, rfl⟩ | rfl)
    (case w0 => first | k_is | exact ⟨_, rfl⟩ | rfl)
    (case v1 => first | k_is | exact ⟨_, rfl⟩ | rfl)
    (case w1 => first | k_is | exact ⟨_, rfl⟩ | rfl)
    (case v2 => first | k_is | exact ⟨_, rfl⟩ | rfl)
    (case w2 => first | k_is | exact ⟨_, rfl⟩ | rfl)
    (case v3 => first | k_is | exact ⟨_, rfl⟩ | rfl)
    (case w3 => first | k_is | exact ⟨_, rfl⟩ | rfl)
    (case v4 => first | k_is | exact ⟨_, rfl⟩ | rfl)
    (case w4 => first | k_is | exact ⟨_, rfl⟩ | rfl)
    (case v5 => first | k_is | exact ⟨_, rfl⟩ | rfl)
    (case w5 => first | k_is | exact ⟨_, rfl⟩ | rfl)
    (case v6 => first | k_is | exact ⟨_, rfl⟩ | rfl)
    (case w6 => first | k_is | exact ⟨_, rfl⟩ | rfl)
    (case v7 => first | k_is | exact ⟨_, rfl⟩ | rfl)
    (case w7 => first | k_is | exact ⟨_, rfl⟩ | rfl)
    (case v8 => first | k_is | exact ⟨_, rfl⟩ | rfl)
    (case w8 => first | k_is | exact ⟨_, rfl⟩ | rfl)
    (case v9 => first | k_is | exact ⟨_, rfl⟩ | rfl)
    (case w9 => first | k_is | exact ⟨_, rfl⟩ | rfl)
