import PyProof.Rows.All
import Wide.All
import OpenK.AllK
import Wide.FinOn
import HandS.ForMost
import HandS.Evl
import HandS.Walk
import HandS.IsInst
import HandS.Zip
import HandS.TupAny
import HandS.Flow
import HandS.Style
import HandS.More
import HandS.Conv
import HandS.StrMore
import HandS.Text
import HandS.Wide
import HandS.Star
import PySem.Challenge.RW_keyswithin_k09_counts_by_all_layings
import KE.GoesEnum
import HandS.Exc
import HandS.ExcCtx
import HandS.HotCalls
import HandS.Comp
import HandS.Nested
import HandS.Lambda
import PyProof.ExcBaseAll.ValueError
import HandS.ExcInit
import HandS.ExcField
import HandS.ExcIs
import HandS.FStr
import HandS.CallLocal
import HandS.SetFor
import HandS.SetKeys
import HandS.SortInts
import HandS.Strs
import HandS.SortRule
import HandS.List
import HandS.EndTab
set_option Elab.async false
set_option linter.all false
set_option maxRecDepth 100000
set_option maxHeartbeats 4000000
namespace Kw
open PySem PySem.Spec PyProof.Rows L2 Evl
/-! ### what stays: the tuples -/
def KeepT (H H' : Hp) : Prop := ∀ b xs, Rd H b (.tup xs) → Rd H' b (.tup xs)
theorem KeepT.refl (H : Hp) : KeepT H H := fun _ _ h => h
theorem KeepT.trans {H H1 H2 : Hp} (a : KeepT H H1) (b : KeepT H1 H2) : KeepT H H2 := fun c o h => b c o (a c o h)
theorem KeepT.ex {H H' : Hp} (e : Ex H H') : KeepT H H' := fun b xs h => ex_rd e h
theorem KeepT.lst {H : Hp} {p : Addr} {xs ys : List V} (h : H p = some (.lst xs)) : KeepT H (upd H p (.lst ys)) := fun b zs r => by
  have nb : b ≠ p := by
    rintro rfl
    rcases r with r | ⟨o, r⟩
    · rw [h] at r; cases r
    · rw [h] at r; cases r
  rcases r with r | ⟨o, r⟩
  · exact .inl (by rw [upd_ne nb]; exact r)
  · exact .inr ⟨o, by rw [upd_ne nb]; exact r⟩
theorem keep_t {K : PySem.W.Frag} {H H' : Hp} {a : Addr} {xs : List V} (e : KeepT H H') (h : SqT K H a xs) : SqT K H' a xs := by
  rcases h with h | h
  · exact Or.inl (e _ _ h)
  · exact Or.inr h
/-! ### readings -/
def EvP (te : TE) (σ : L2.St) (H : Hp) (Φ : V → Hp → Prop) : Prop := ∀ H1, Ex H H1 → ∀ Q : VK, (∀ v H2, Ex H1 H2 → Φ v H2 → Q v H2) → te σ H1 Q
def EvW (wi : TI) (σ : L2.St) (H : Hp) (n : Nat) (Y : Nat → Hp → V → Hp → Prop) : Prop :=
  ∀ H1, Ex H H1 → ∀ R : It → Hp → Prop, (∀ (J : It) (G : Hp → Prop) (H2 : Hp), Ex H1 H2 → Walk J n G Y → (∀ H3, Ex H2 H3 → G H3) → R J H2) → wi σ H1 R
section
variable {K : PySem.W.Frag} {σ : L2.St} {H H' : Hp} {ta tb te tl : TE} {t u : TT} {x y z v : V} {r : R2} {Φ : V → Hp → Prop}
theorem EvP.ev (h : Ev te σ H v) : EvP te σ H (fun x _ => x = v) := fun H1 e Q q => h H1 e Q fun H2 e2 => q v H2 e2 rfl
theorem EvP.to (h : EvP te σ H (fun x _ => x = v)) : Ev te σ H v := fun H1 e Q q => h H1 e Q fun x H2 e2 hx => by
  subst hx
  exact q H2 e2
theorem EvP.mono (e : Ex H H') (h : EvP te σ H Φ) : EvP te σ H' Φ := fun H1 a Q q => h H1 (e.trans a) Q q
theorem EvP.imp {Ψ : V → Hp → Prop} (h : EvP te σ H Φ) (i : ∀ v H1, Ex H H1 → Φ v H1 → Ψ v H1) : EvP te σ H Ψ := fun H1 e Q q => h H1 e Q fun v H2 e2 hv => q v H2 e2 (i v H2 (e.trans e2) hv)
theorem ep_var {i : Nat} (h : σ[i]? = some (some v)) (hv : ∀ H1, Ex H H1 → Φ v H1) : EvP (tVar i) σ H Φ := fun H1 e _ q => ⟨v, h, q v H1 (Ex.refl H1) (hv H1 e)⟩
theorem ew_tup {a : Addr} {xs : List V} (h : Ev tl σ H (.ref a)) (hx : SqT K H a xs) : EvW (iTup K tl) σ H xs.length (YAt xs) := fun H1 e R r => h H1 e _ fun H2 e2 => ⟨a, rfl, ⟨xs, ex_t (e.trans e2) hx⟩, r _ _ H2 e2 walk_tup fun H3 e3 => ex_t ((e.trans e2).trans e3) hx⟩
theorem ew_list {a : Addr} {xs : List V} (h : Ev tl σ H (.ref a)) (hx : SqL K H a xs) : EvW (iList K tl) σ H xs.length (YAt xs) := fun H1 e R r => h H1 e _ fun H2 e2 => ⟨a, rfl, ⟨xs, ex_l (e.trans e2) hx⟩, r _ _ H2 e2 walk_list fun H3 e3 => ex_l ((e.trans e2).trans e3) hx⟩
theorem ew_listN {xs : List V} (h : EvL tl σ H xs) : EvW (iList K tl) σ H xs.length (YAt xs) := fun H1 e R r => h H1 e _ fun a H2 _ e2 hx => ⟨a, rfl, ⟨xs, sq_of hx⟩, r _ _ H2 e2 walk_list fun H3 e3 => sq_of (e3 _ _ hx)⟩
theorem walk_rng0 {n : Nat} : Walk (Itr 0 n) n (fun _ => True) (YFn fun (i : Nat) => .int (i : Int)) := by
  have e : (fun i : Nat => V.int ((0 : Int) + (i : Int))) = fun (i : Nat) => V.int (i : Int) := by
    funext i
    rw [Int.zero_add]
  rw [← e]
  exact walk_range
theorem ew_rng1 {ta : TA} {n : Nat} (h : EvA ta σ H [.int n]) (hn : n ≤ 100000) : EvW (iRng1 ta) σ H n (YFn fun (i : Nat) => .int (i : Int)) := fun H1 e R r => h H1 e _ fun H2 e2 => ⟨n, rfl, by omega, by omega, r _ _ H2 e2 (by rw [Int.toNat_natCast]; exact walk_rng0) fun _ _ => trivial⟩
theorem ew_str {z : Str} (h : Ev te σ H (.str z)) : EvW (iStr te) σ H z.cps.size (fun i H v H' => H' = H ∧ ∃ c, z.cps[i]? = some c ∧ v = .str ⟨#[c]⟩) := fun H1 e R r => h H1 e _ fun H2 e2 => ⟨z, rfl, r _ _ H2 e2 walk_str fun _ _ => trivial⟩
theorem cw_none {D : Addr} {y : V} {ys : List V} (e : Ex H H') (hD : H D = none) : Ex H (upd H' D (.lst ys)) := Ex.mut e hD
/-- a comprehension: which turns give, and what is true of what they give -/
def EvC (te : TE) (σ : L2.St) (H : Hp) (n : Nat) (f : Nat → Bool) (Φ : Nat → V → Hp → Prop) : Prop :=
  ∀ H1, Ex H H1 → ∀ Q : VK, (∀ p ys H2, H1 p = none → Ex H1 H2 → H2 p = some (.lst ys) → Paired (fun i y => Φ i y H2) ((List.range n).filter f) ys → Q (.ref p) H2) → te σ H1 Q
theorem paired_imp {α β : Type} {F G : α → β → Prop} {xs : List α} {ys : List β} (h : Paired F xs ys) (i : ∀ a b, F a b → G a b) : Paired G xs ys := Paired.mapP h i
theorem paired_app {α β : Type} {F : α → β → Prop} : ∀ {xs : List α} {ys : List β} {a : α} {b : β}, Paired F xs ys → F a b → Paired F (xs ++ [a]) (ys ++ [b])
  | _, _, _, _, .nil, h => .cons h .nil
  | _, _, _, _, .cons r t, h => .cons r (paired_app t h)
theorem lc_gen {wi : TI} {g : TG} {vs : List Nat} {n : Nat} {Y : Nat → Hp → V → Hp → Prop} (hi : EvW wi σ H n Y) (hn : n ≤ 100000) (f : Nat → Bool) (Φ : Nat → V → Hp → Prop)
    (st : ∀ i y H H', KeepT H H' → Φ i y H → Φ i y H')
    (turn : ∀ i x H1 H2 (Q : L2.St → Hp → Prop), Ex H H1 → i < n → Y i H1 x H2 → (∀ σ2 H3, Ex H1 H3 → wipe σ2 vs = wipe σ vs → EvT t σ2 H3 (f i) → (f i = true → EvP te σ2 H3 (Φ i)) → Q σ2 H3) → g x (wipe σ vs) H2 Q) :
    EvC (tLc wi g t te vs) σ H n f Φ := by
  intro H0 e Q q
  refine hi H0 e _ fun J G H1 e1 w hG => ?_
  intro D hD
  refine lc_it w (Pv := fun i H' => Ex H1 H' ∧ ∃ ys, H' D = some (.lst ys) ∧ Paired (fun i y => Φ i y H') ((List.range i).filter f) ys) ⟨Ex.new hD, [], upd_same, .nil⟩
    (fun i H' _ p => hG H' p.1) (fun i x H' H2 hi' p y => ?_) (fun H' p => ?_)
  · obtain ⟨p1, ys, p2, p3⟩ := p
    refine turn i x H' H2 _ ((e.trans e1).trans p1) hi' y fun σ2 H3 e3 hw ht he => ⟨hw, ?_⟩
    refine ht H3 (Ex.refl H3) _ fun H4 e4 => ?_
    have hlen : ys.length ≤ i := by
      rw [← Paired.length p3]
      have := List.length_filter_le f (List.range i)
      rw [List.length_range] at this
      exact this
    have eD : H4 D = some (.lst ys) := e4 _ _ (e3 _ _ p2)
    cases hf : f i with
    | false =>
      show Ex H1 H4 ∧ _
      refine ⟨(p1.trans e3).trans e4, ys, eD, ?_⟩
      rw [List.range_succ, List.filter_append, List.filter_cons, if_neg (by rw [hf]; decide), List.filter_nil, List.append_nil]
      exact paired_imp p3 fun a b h => st a b _ _ (KeepT.ex (e3.trans e4)) h
    | true =>
      show te σ2 H4 _
      refine (he hf) H4 e4 _ fun y H5 e5 hy => ?_
      have eD5 : H5 D = some (.lst ys) := e5 _ _ eD
      refine ⟨ys, eD5, sz_lt (by omega), Ex.mut (((p1.trans e3).trans e4).trans e5) hD, ys ++ [y], upd_same, ?_⟩
      rw [List.range_succ, List.filter_append, List.filter_cons, if_pos hf, List.filter_nil]
      exact paired_app (paired_imp p3 fun a b h => st a b _ _ ((KeepT.ex ((e3.trans e4).trans e5)).trans (KeepT.lst eD5)) h) (st _ _ _ _ (KeepT.lst eD5) hy)
  · obtain ⟨p1, ys, p2, p3⟩ := p
    exact q D ys H' (fresh_back e1 hD) (e1.trans p1) p2 p3
theorem paired_map {α β : Type} {v : α → β} : ∀ {xs : List α} {ys : List β}, Paired (fun i y => y = v i) xs ys → ys = xs.map v
  | _, _, .nil => rfl
  | _, _, .cons r t => by rw [r, List.map_cons, paired_map t]
theorem EvC.val {n : Nat} {f : Nat → Bool} {v : Nat → V} (h : EvC te σ H n f (fun i y _ => y = v i)) : EvL te σ H (((List.range n).filter f).map v) := fun H1 e Q q =>
  h H1 e Q fun p ys H2 hp e2 h2 pr => q p H2 hp e2 (by rw [h2, paired_map pr])
theorem el_lc {wi : TI} {g : TG} {vs : List Nat} {n : Nat} {Y : Nat → Hp → V → Hp → Prop} (hi : EvW wi σ H n Y) (hn : n ≤ 100000) (f : Nat → Bool) (v : Nat → V) {xs : List V} (hx : ((List.range n).filter f).map v = xs)
    (turn : ∀ i x H1 H2 (Q : L2.St → Hp → Prop), Ex H H1 → i < n → Y i H1 x H2 → (∀ σ2 H3, Ex H1 H3 → wipe σ2 vs = wipe σ vs → EvT t σ2 H3 (f i) → (f i = true → Ev te σ2 H3 (v i)) → Q σ2 H3) → g x (wipe σ vs) H2 Q) :
    EvL (tLc wi g t te vs) σ H xs := by
  subst hx
  exact EvC.val (lc_gen hi hn f (fun i y _ => y = v i) (fun _ _ _ _ _ h => h) fun i x H1 H2 Q e hi' y k => turn i x H1 H2 Q e hi' y fun σ2 H3 e3 hw ht he => k σ2 H3 e3 hw ht fun hf => EvP.ev (he hf))
end
/-- the built-in names are what they were -/
structure Bu (mg : Str → Option Value) : Prop where
  isi : mg "isinstance" = none
  tup : mg "tuple" = none
  lst : mg "list" = none
  str : mg "str" = none
  len : mg "len" = none
  all : mg "all" = none
  zip : mg "zip" = none
  rng : mg "range" = none
  int : mg "int" = none
  max : mg "max" = none
  min : mg "min" = none
  srt : mg "sorted" = none
  enu : mg "enumerate" = none
  sum : mg "sum" = none
  abs : mg "abs" = none
  rpr : mg "repr" = none
  set : mg "set" = none
  bool : mg "bool" = none
  ver : mg "ValueError" = none
  any : mg "any" = none
section
variable {K : PySem.W.Frag} {σ : L2.St} {H H' : Hp} {ta tb tc te tl : TE} {t u : TT} {x y z v : V} {r r' : R2}
theorem ty_tup {K : PySem.W.Frag} {H : Hp} {a : Addr} {xs : List V} (h : SqT K H a xs) : TyX K H (.ref a) (.type "tuple") := by
  rcases h with (h | ⟨o, h⟩) | ⟨o, its, n, h1, h2, _⟩
  · exact .base (.tup h)
  · exact .fTuple h
  · exact .kTuple h1 h2
def IsT (K : PySem.W.Frag) (xs : List V) : V → Hp → Prop := fun v H => ∃ p, v = .ref p ∧ SqT K H p xs
theorem ep_slT {tl th : TO} {a : Addr} {xs : List V} {lo hi : Option Int} (h : Ev te σ H (.ref a)) (h1 : EvO tl σ H lo) (h2 : EvO th σ H hi) (hs : SqT K H a xs) : EvP (tSl (rSlA K) te tl th) σ H (IsT K (cutV xs lo hi)) := fun H1 e Q q =>
  h H1 e _ fun H2 e2 => h1 H2 (e.trans e2) _ fun H3 e3 => h2 H3 ((e.trans e2).trans e3) _ fun H4 e4 =>
    ⟨a, xs, rfl, ex_t (((e.trans e2).trans e3).trans e4) hs, fun hf => q _ H4 ((e2.trans e3).trans e4) ⟨a, rfl, by
      have : cutV xs lo hi = xs := by
        unfold cutV
        rw [hf.1, hf.2]
        simp
      rw [this]
      exact ex_t (((e.trans e2).trans e3).trans e4) hs⟩, fun hf p hp => q _ _ (((e2.trans e3).trans e4).trans (Ex.new hp)) ⟨p, rfl, st_of upd_same⟩⟩
theorem cut1 (xs : List V) : cutV xs (some 1) none = xs.drop 1 := by
  unfold cutV
  rw [show HT.sIx xs.length 0 (some 1) = min 1 xs.length from HT.sIx_nat xs.length 0 1, HT.sIx_none]
  cases xs with
  | nil => rfl
  | cons x r =>
    rw [show min 1 (x :: r).length = 1 by
      rw [List.length_cons]
      omega]
    show (List.take ((x :: r).length - 1) r) = r
    rw [List.length_cons, Nat.add_sub_cancel]
    exact List.take_length
theorem walk_zipT {a b : Addr} {xs ys : List V} {n : Nat} (hn : n = min xs.length ys.length) : Walk (RZ.ItzT K a b) n (fun H => SqT K H a xs ∧ SqT K H b ys) (YPair (fun i => xs[i]?) (fun i => ys[i]?)) := by
  subst hn
  refine ⟨fun i _ hi q => ?_, fun _ q => ⟨xs, ys, q.1, q.2, by omega⟩, fun i H v H' _ q y => ?_⟩
  · have h1 : i < xs.length := by omega
    have h2 : i < ys.length := by omega
    exact ⟨xs, ys, xs[i], ys[i], q.1, q.2, by simp [h1], by simp [h2]⟩
  · obtain ⟨T, x, z, h1, h2, h3, h4, h5⟩ := y
    exact ⟨T, x, z, h1, h2, h3, h4 xs q.1, h5 ys q.2⟩
theorem ew_zipT {a : Addr} {xs ys : List V} {n : Nat} (hn : n = min xs.length ys.length) (h : Ev ta σ H (.ref a)) (hx : SqT K H a xs) (hb : EvP tb σ H (IsT K ys)) : EvW (RZ.iZipA K (tCons ta (tCons tb tNil))) σ H n (YPair (fun i => xs[i]?) (fun i => ys[i]?)) := fun H1 e R r =>
  h H1 e _ fun H2 e2 => hb H2 (e.trans e2) _ fun v H3 e3 ⟨p, hv, hp⟩ => by
    subst hv
    exact ⟨a, p, xs, ys, rfl, .inr ⟨ex_t ((e.trans e2).trans e3) hx, hp, r _ _ H3 (e2.trans e3) (walk_zipT hn) fun H4 e4 => ⟨ex_t (((e.trans e2).trans e3).trans e4) hx, ex_t e4 hp⟩⟩⟩
theorem ev_all {bs : List Bool} (h : EvL te σ H (bs.map V.bl)) : Ev (tCB (rAll K) (tCons te tNil)) σ H (.bl (bs.all id)) := fun H1 e Q q =>
  h H1 e _ fun p H2 _ e2 hp => ⟨p, bs, rfl, sq_of hp, q H2 e2⟩
/-- a comprehension without a test -/
theorem filter_true {n : Nat} : (List.range n).filter (fun _ => true) = List.range n := List.filter_eq_self.mpr (fun _ _ => rfl)
theorem et_yes {σ : L2.St} {H : Hp} : EvT tYes σ H true := fun H1 _ Q q => q H1 (Ex.refl H1)
/-- a def of the text: where it stands, how it binds -/
structure Df (K : PySem.W.Frag) (mg : Str → Option Value) (x : Str) (st : Stmt) (ps : List Str) (f : Addr) (fd : FuncData) : Prop where
  F : Fun K x x st f fd
  g : mg x = some (.ref f)
  b : Binds K fd ps []
theorem pcall {X : Cx} {k : Nat} {f : Addr} {fd : FuncData} {ps : List Str} {sp : Sp} {x : Str} {st : Stmt} {p pos : Pos} {e : Expr} {es : List Expr} {t : TA} (D : Df X.K X.mg x st ps f fd) (G : FnOk X.prog X.w X.K X.mg X.base CX0 k f fd ps sp) (hr : Room k X.A) (ha : PA X (e :: es) t) (hg : Gl X x := by rfl)
    (h1 : (x == ("__debug__" : Str)) = false := by decide) (h2 : starEach (e :: es) X.env = (false, eval e X.env) :: starEach es X.env := by rfl) (h3 : (backTo pos (starEach es X.env)).any (·.1) = false := by rfl) :
    PE X (.Call (.Name x p) (e :: es) [] pos) (tCall sp [] E0 t) := pe_call G hr hg D.g D.F.kp D.b .nil pass0 ha h1 h2 h3
theorem SpV.of {sp : Sp} {vs : List V} {H : Hp} {z : V} (h : ∀ H1, Ex H H1 → ∀ Q : VK, RetV z H1 Q → ∀ E, sp vs H1 Q E) : SpV sp (vs ++ []) H z := by
  rw [List.append_nil]
  exact fun H1 e Q q E => h H1 e Q q E
theorem ev_chain {k l : Bool} (ha : Ev ta σ H x) (hb : Ev tb σ H y) (hc : Ev tc σ H z) (h1 : RV r x y H (.bl k)) (h2 : RV r' y z H (.bl l)) : Ev (tChain r r' ta tb tc) σ H (.bl (k && l)) := fun H1 e Q q =>
  ha H1 e _ fun H2 e2 => hb H2 (e.trans e2) _ fun H3 e3 => h1 H3 ((e.trans e2).trans e3) _ fun H4 e4 => ⟨k, rfl, by
    cases k with
    | true =>
      show tc σ H4 _
      exact hc H4 (((e.trans e2).trans e3).trans e4) _ fun H5 e5 => h2 H5 ((((e.trans e2).trans e3).trans e4).trans e5) Q fun H6 e6 => q H6 ((((e2.trans e3).trans e4).trans e5).trans e6)
    | false =>
      show Q (.bl false) H4
      exact q H4 ((e2.trans e3).trans e4)⟩
theorem ev_isi {T U : String} {b : Bool} (ha : Ev ta σ H x) (hb : Ev tb σ H (.ty U)) (ht : ∀ H1, Ex H H1 → TyX K H1 x (.type T)) (hk : kitB T U = some b) : Ev (tCB (rIsi K) (tCons ta (tCons tb tNil))) σ H (.bl b) := fun H1 e Q q =>
  ha H1 e _ fun H2 e2 => hb H2 (e.trans e2) _ fun H3 e3 => ⟨x, .ty U, _, _, b, rfl, .ty _, ht H3 ((e.trans e2).trans e3), kit_ty hk, q H3 (e2.trans e3)⟩
theorem rv_le {i j : Int} : RV (rI0 fun i j => .bl (decide (i ≤ j))) (.int i) (.int j) H (.bl (decide (i ≤ j))) := rv_I0
theorem range_map_get {α β : Type} (l : List α) (d : α) (g : α → β) : (List.range l.length).map (fun i => g (l.getD i d)) = l.map g := by
  apply List.ext_getElem
  · simp
  · intro i h1 h2
    simp only [List.getElem_map, List.getElem_range]
    congr 1
    rw [List.getD_eq_getElem?_getD, List.getElem?_eq_getElem (by simpa using h2)]
    rfl
theorem paired_get {α β : Type} {F : α → β → Prop} : ∀ {xs : List α} {ys : List β} {i : Nat} {x : α}, Paired F xs ys → xs[i]? = some x → ∃ y, ys[i]? = some y ∧ F x y
  | _, _, _, _, .nil, e => by simp at e
  | _, _, 0, _, .cons r _, e => by simp at e; subst e; exact ⟨_, rfl, r⟩
  | _, _, i + 1, x, .cons _ t, e => by
    obtain ⟨u, h1, h2⟩ := paired_get (i := i) (x := x) t (by simpa using e)
    exact ⟨u, by simpa using h1, h2⟩
theorem paired_len {α β : Type} {F : α → β → Prop} {xs : List α} {ys : List β} (h : Paired F xs ys) : xs.length = ys.length := Paired.length h
/-- all([f(x) for x in t]) where each is so -/
theorem ev_allT {vs : List Nat} {wi : TI} {n : Nat} {Y : Nat → Hp → V → Hp → Prop} {g : TG} (hi : EvW wi σ H n Y) (hn : n ≤ 100000)
    (turn : ∀ i x H1 H2 (Q : L2.St → Hp → Prop), Ex H H1 → i < n → Y i H1 x H2 → (∀ σ2 H3, Ex H1 H3 → wipe σ2 vs = wipe σ vs → Ev te σ2 H3 (.bl true) → Q σ2 H3) → g x (wipe σ vs) H2 Q) :
    Ev (tCB (rAll K) (tCons (tLc wi g tYes te vs) tNil)) σ H (.bl true) := by
  refine ev_is (ev_all (K := K) (bs := List.replicate n true) ?_) (by rw [List.all_replicate]; simp)
  refine el_lc hi hn (fun _ => true) (fun i => .bl true) (by rw [filter_true, List.map_replicate, List.map_const', List.length_range]) (fun i x H1 H2 Q e hi hy k => ?_)
  exact turn i x H1 H2 Q e hi hy fun σ2 H3 e3 hw he => k σ2 H3 e3 hw et_yes fun _ => he
theorem ev_lenT {p : Addr} {xs : List V} (ha : Ev ta σ H (.ref p)) (h : SqT K H p xs) : Ev (tCB (rLenS K) (tCons ta tNil)) σ H (.int (xs.length : Int)) := fun H1 e Q q =>
  ha H1 e _ fun H2 e2 => ⟨p, xs, rfl, Or.inr (ex_t (e.trans e2) h), q H2 e2⟩
theorem rv_gt {i j : Int} : RV (rI0 fun i j => .bl (decide (j < i))) (.int i) (.int j) H (.bl (decide (j < i))) := rv_I0
theorem at0 {x y : V} : atI [x, y] 0 = some x := atI_nat (j := 0) rfl
theorem at1 {x y : V} : atI [x, y] 1 = some y := atI_nat (j := 1) rfl
theorem yes_do {σ : L2.St} {H : Hp} {A B : Hp → Prop} (h : A H) : tYes σ H (fun b H => if b = true then A H else B H) := iteT (A := A H) (B := B H) h
/-- [y for x in .. for y in t], t a tuple -/
theorem el_lc2 {wi : TI} {g : TG} {vs vs1 : List Nat} {n j : Nat} {Y : Nat → Hp → V → Hp → Prop} (hi : EvW wi σ H n Y) (L : Nat → List V) (hn : ∀ i ≤ n, ((List.range i).flatMap L).length ≤ 100000) {xs : List V} (hx : (List.range n).flatMap L = xs)
    (turn : ∀ i x H1 H2 (Q : L2.St → Hp → Prop), Ex H H1 → i < n → Y i H1 x H2 → (∀ σ2 H3 a, Ex H1 H3 → wipe σ2 vs = wipe σ vs → Ev tl σ2 H3 (.ref a) → SqT K H3 a (L i) → (∀ y, wipe ((wipe σ2 vs1).set j (some y)) vs1 = wipe σ2 vs1 ∧ ((wipe σ2 vs1).set j (some y))[j]? = some (some y)) → Q σ2 H3) → g x (wipe σ vs) H2 Q) :
    EvL (tLc2 wi g tYes (iTup K tl) (gName j) tYes (tVar j) vs vs1) σ H xs := by
  subst hx
  intro H0 e Q q
  refine hi H0 e _ fun J G H1 e1 w hG => ?_
  intro D hD
  refine ⟨fun i m H' => m = n - i ∧ i ≤ n ∧ Ex H1 H' ∧ H' D = some (.lst ((List.range i).flatMap L)), ⟨n, by simp, Nat.zero_le _, Ex.new hD, upd_same⟩, ?_⟩
  rintro i m H' ⟨rfl, hi', p1, p2⟩
  by_cases hlt : i < n
  · refine .inr ⟨w.goes i H' hlt (hG H' p1), fun H'' => Ex H1 H'' ∧ H'' D = some (.lst ((List.range (i + 1)).flatMap L)), fun H'' p' => ⟨n - (i + 1), by omega, rfl, hlt, p'⟩, fun x H2 hy => ?_⟩
    refine turn i x H' H2 _ ((e.trans e1).trans p1) hlt (w.yields i H' x H2 hlt (hG H' p1) hy) fun σ2 H3 a e3 hw htl hL hset => ⟨hw, ?_⟩
    refine yes_do ?_
    refine htl H3 (Ex.refl H3) _ fun H4 e4 => ⟨a, rfl, ⟨_, ex_t e4 hL⟩, ?_⟩
    refine ⟨fun c m H5 => m = (L i).length - c ∧ c ≤ (L i).length ∧ SqT K H5 a (L i) ∧ Ex H1 H5 ∧ H5 D = some (.lst ((List.range i).flatMap L ++ (L i).take c)), ⟨_, rfl, Nat.zero_le _, ex_t e4 hL, (p1.trans e3).trans e4, by rw [List.take_zero, List.append_nil]; exact e4 _ _ (e3 _ _ p2)⟩, ?_⟩
    rintro c m H5 ⟨rfl, hc, g1, g2, g3⟩
    have hsum : (List.range (i + 1)).flatMap L = (List.range i).flatMap L ++ L i := by
      rw [List.range_succ, List.flatMap_append]
      simp
    by_cases hcl : c < (L i).length
    · refine .inr ⟨⟨_, _, g1, List.getElem?_eq_getElem hcl⟩, fun H6 => SqT K H6 a (L i) ∧ Ex H1 H6 ∧ H6 D = some (.lst ((List.range i).flatMap L ++ (L i).take (c + 1))), fun H6 ⟨r1, r2, r3⟩ => ⟨_, by omega, rfl, hcl, r1, r2, r3⟩, fun y H6 ⟨eH, hy2⟩ => ?_⟩
      subst eH
      have hy' : (L i)[c]? = some y := hy2 _ g1
      refine ⟨(hset y).1, ?_⟩
      refine yes_do ?_
      refine ⟨y, (hset y).2, _, g3, ?_, keep_t (KeepT.lst g3) g1, Ex.mut g2 hD, ?_⟩
      · refine sz_lt ?_
        have h1 := hn (i + 1) hlt
        rw [hsum, List.length_append] at h1
        rw [List.length_append, List.length_take]
        omega
      · rw [upd_same, List.append_assoc, List.take_add_one, hy']
        rfl
    · refine .inl ⟨⟨_, g1, by omega⟩, g2, ?_⟩
      rw [g3, hsum, List.take_of_length_le (by omega)]
  · have e' : i = n := by omega
    subst e'
    exact .inl ⟨w.stops H' (hG H' p1), q D H' (fresh_back e1 hD) (e1.trans p1) p2⟩
theorem str_beq (a b : Str) : (a == b) = decide (a = b) := by
  by_cases h : a = b
  · subst h
    simp
  · rw [decide_eq_false h]
    exact beq_eq_false_iff_ne.mpr h
theorem inV_str (c : Str) (hs : List Str) : inV (.str c) (hs.map V.str) = decide (c ∈ hs) := by
  induction hs with
  | nil => rfl
  | cons a r ih =>
    show (eqV (.str a) (.str c) || inV (.str c) (r.map V.str)) = _
    rw [ih]
    show ((a == c) || _) = _
    rw [str_beq]
    by_cases h : a = c
    · subst h
      simp
    · have h' : ¬ c = a := fun z => h z.symm
      simp [h, h']
theorem inV_int (c : Int) (hs : List Int) : inV (.int c) (hs.map V.int) = decide (c ∈ hs) := by
  induction hs with
  | nil => rfl
  | cons a r ih =>
    show (eqV (.int a) (.int c) || inV (.int c) (r.map V.int)) = _
    rw [ih]
    show ((a == c) || _) = _
    by_cases h : a = c
    · subst h
      simp
    · have h' : ¬ c = a := fun z => h z.symm
      simp [h, h']
theorem flat_strs (hs : List Str) : (hs.map V.str).all flatV = true := by
  rw [List.all_map]
  exact List.all_eq_true.mpr fun _ _ => rfl
abbrev vN (i : Nat) : V := .int (i : Int)
theorem flat_nats (hs : List Nat) : (hs.map vN).all flatV = true := by
  rw [List.all_map]
  exact List.all_eq_true.mpr fun _ _ => rfl
theorem inV_nat (c : Nat) (hs : List Nat) : inV (vN c) (hs.map vN) = decide (c ∈ hs) := by
  have e : hs.map vN = (hs.map fun (i : Nat) => (i : Int)).map V.int := by rw [List.map_map]; rfl
  rw [e]
  show inV (.int (c : Int)) _ = _
  rw [inV_int]
  congr 1
  rw [List.mem_map]
  apply propext
  constructor
  · rintro ⟨a, h1, h2⟩
    have : a = c := by omega
    subst this
    exact h1
  · exact fun h => ⟨c, h, rfl⟩
theorem rIx_seq {p : Addr} {xs : List V} {i : Int} (h : SqL K H p xs ∨ SqT K H p xs) (ha : atI xs i = some v) : RV (rIx K) (.ref p) (.int i) H v := fun H1 e Q q =>
  h.elim (fun h => .inl ⟨p, xs, i, v, rfl, rfl, ex_l e h, ha, q H1 (Ex.refl H1)⟩) (fun h => .inr (.inl ⟨p, xs, i, v, rfl, rfl, ex_t e h, ha, q H1 (Ex.refl H1)⟩))
theorem paired_get2 {α β : Type} {F : α → β → Prop} : ∀ {xs : List α} {ys : List β} {i : Nat} {y : β}, Paired F xs ys → ys[i]? = some y → ∃ x, xs[i]? = some x ∧ F x y
  | _, _, _, _, .nil, e => by simp at e
  | _, _, 0, _, .cons r _, e => by simp at e; subst e; exact ⟨_, rfl, r⟩
  | _, _, i + 1, x, .cons _ t, e => by
    obtain ⟨u, h1, h2⟩ := paired_get2 (i := i) (y := x) t (by simpa using e)
    exact ⟨u, by simpa using h1, h2⟩
theorem flatMap_range {α β : Type} (l : List α) (d : α) (g : α → List β) : (List.range l.length).flatMap (fun i => g (l.getD i d)) = l.flatMap g := by
  rw [List.flatMap_def, List.flatMap_def, range_map_get l d g]
theorem flatMap_take {α β : Type} (l : List α) (d : α) (g : α → List β) (i : Nat) (hi : i ≤ l.length) : (List.range i).flatMap (fun i => g (l.getD i d)) = (l.take i).flatMap g := by
  have h := flatMap_range (l.take i) d g
  rw [List.length_take, Nat.min_eq_left hi] at h
  rw [← h]
  rw [List.flatMap_def, List.flatMap_def]
  congr 1
  apply List.map_congr_left
  intro j hj
  have := List.mem_range.mp hj
  congr 1
  rw [List.getD_eq_getElem?_getD, List.getD_eq_getElem?_getD, List.getElem?_take_of_lt this]
theorem map_flatMap' {α β γ : Type} (l : List α) (f : β → γ) (g : α → List β) : l.flatMap (fun i => (g i).map f) = (l.flatMap g).map f := by
  induction l with
  | nil => rfl
  | cons a r ih => rw [List.flatMap_cons, List.flatMap_cons, List.map_append, ih]
def rTupOf (K : PySem.W.Frag) : List V → Hp → VK → Prop := fun xs H Q => ∃ p ys, xs = [.ref p] ∧ ((SqL K H p ys ∧ ∀ l, H l = none → Q (.ref l) (upd H l (.tup ys))) ∨ (SqT K H p ys ∧ Q (.ref p) H))
theorem call_tupOf {X : Cx} : CallR X (.type "tuple") (rTupOf X.K) := call_tuple_of
theorem eu_tupL {p : Addr} {xs : List V} (ha : Ev ta σ H (.ref p)) (h : SqL K H p xs) : EvU (tCB (rTupOf K) (tCons ta tNil)) σ H xs := fun H1 e Q q =>
  ha H1 e _ fun H2 e2 => ⟨p, xs, rfl, .inl ⟨ex_l (e.trans e2) h, fun l hl => q l _ (fresh_back e2 hl) (e2.trans (Ex.new hl)) upd_same⟩⟩
theorem eu_tupN {xs : List V} (ha : EvL ta σ H xs) : EvU (tCB (rTupOf K) (tCons ta tNil)) σ H xs := fun H1 e Q q =>
  ha H1 e _ fun p H2 _ e2 hp => ⟨p, xs, rfl, .inl ⟨sq_of hp, fun l hl => q l _ (fresh_back e2 hl) (e2.trans (Ex.new hl)) upd_same⟩⟩
theorem el_listT {p : Addr} {xs : List V} (ha : Ev ta σ H (.ref p)) (h : SqT K H p xs) : EvL (tCB (rListS K) (tCons ta tNil)) σ H xs := fun H1 e Q q =>
  ha H1 e _ fun H2 e2 => ⟨p, xs, rfl, Or.inr (ex_t (e.trans e2) h), fun l hl => q l _ (fresh_back e2 hl) (e2.trans (Ex.new hl)) upd_same⟩
theorem el_cat {l : Addr} {xs zs : List V} (ha : Ev ta σ H (.ref l)) (hl : H l = some (.lst xs)) (hb : EvL tb σ H zs) (hn : xs.length + zs.length ≤ 100000) : EvL (tOp rCat ta tb) σ H (xs ++ zs) := fun H1 e Q q =>
  ha H1 e _ fun H2 e2 => hb H2 (e.trans e2) _ fun b H3 _ e3 hb' => ⟨l, b, xs, zs, rfl, rfl, e3 _ _ (e2 _ _ (e _ _ hl)), hb', sz_of hn, fun p hp => q p _ (fresh_back (e2.trans e3) hp) ((e2.trans e3).trans (Ex.new hp)) upd_same⟩
theorem el_catN {xs zs : List V} (ha : EvL ta σ H xs) (hb : EvL tb σ H zs) (hn : xs.length + zs.length ≤ 100000) : EvL (tOp rCat ta tb) σ H (xs ++ zs) := fun H1 e Q q =>
  ha H1 e _ fun l H2 _ e2 hl => hb H2 (e.trans e2) _ fun b H3 _ e3 hb' => ⟨l, b, xs, zs, rfl, rfl, e3 _ _ hl, hb', sz_of hn, fun p hp => q p _ (fresh_back (e2.trans e3) hp) ((e2.trans e3).trans (Ex.new hp)) upd_same⟩
theorem et_truL {p : Addr} {xs : List V} (ha : Ev ta σ H (.ref p)) (h : SqL K H p xs) : EvT (fun σ H Q => ta σ H fun x H' => ∃ k, TruV K x H' k ∧ Q k H') σ H (!xs.isEmpty) := fun H1 e Q q =>
  ha H1 e _ fun H2 e2 => ⟨_, .inl ⟨xs, ex_l (e.trans e2) h, rfl⟩, q H2 e2⟩
theorem SpL.of {sp : Sp} {vs : List V} {H : Hp} {xs : List V} (h : ∀ H1, Ex H H1 → ∀ Q : VK, RetL xs H1 Q → ∀ E, sp vs H1 Q E) : SpL sp (vs ++ []) H xs := by
  rw [List.append_nil]
  exact fun H1 e Q q E => h H1 e Q q E
theorem filter_range_map {α β : Type} (l : List α) (d : α) (p : α → Bool) (g : α → β) : ((List.range l.length).filter (fun i => p (l.getD i d))).map (fun i => g (l.getD i d)) = (l.filter p).map g := by
  have e : (List.range l.length).map (fun i => l.getD i d) = l := by
    have := range_map_get l d id
    simpa using this
  conv => rhs; rw [← e, List.filter_map, List.map_map]
  rfl
theorem filter_both {α : Type} (l : List α) (p : α → Bool) : (l.filter p).length + (l.filter fun i => !p i).length = l.length := by
  induction l with
  | nil => rfl
  | cons a r ih =>
    cases h : p a with
    | true =>
      rw [List.filter_cons_of_pos h, List.filter_cons_of_neg (by rw [h]; decide), List.length_cons, List.length_cons]
      omega
    | false =>
      rw [List.filter_cons_of_neg (by rw [h]; decide), List.filter_cons_of_pos (by rw [h]; rfl), List.length_cons, List.length_cons]
      omega
/-- a list of tuples of box numbers -/
def TupsAt (K : PySem.W.Frag) (H : Hp) (ys : List V) (rs : List (List Nat)) : Prop := Paired (fun y r => ∃ a, y = .ref a ∧ SqT K H a (r.map vN)) ys rs
theorem TupsAt.keep {K : PySem.W.Frag} {H H' : Hp} {ys : List V} {rs : List (List Nat)} (e : KeepT H H') (h : TupsAt K H ys rs) : TupsAt K H' ys rs := paired_imp h fun _ _ ⟨a, h1, h2⟩ => ⟨a, h1, keep_t e h2⟩
def YTup (K : PySem.W.Frag) (rs : List (List Nat)) : Nat → Hp → V → Hp → Prop := fun i H x H' => H' = H ∧ ∃ a r, rs[i]? = some r ∧ x = .ref a ∧ SqT K H a (r.map vN)
/-- a new list of tuples of numbers -/
def EvR (K : PySem.W.Frag) (te : TE) (σ : L2.St) (H : Hp) (rs : List (List Nat)) : Prop := ∀ H1, Ex H H1 → ∀ Q : VK, (∀ p ys H2, H1 p = none → Ex H1 H2 → H2 p = some (.lst ys) → TupsAt K H2 ys rs → Q (.ref p) H2) → te σ H1 Q
theorem ew_tups {rs : List (List Nat)} (h : EvR K tl σ H rs) : EvW (iList K tl) σ H rs.length (YTup K rs) := fun H1 e R r => h H1 e _ fun p ys H2 hp e2 h2 hT => by
  refine ⟨p, rfl, ⟨ys, sq_of h2⟩, r _ (fun H => SqL K H p ys ∧ TupsAt K H ys rs) H2 e2 ?_ fun H3 e3 => ⟨sq_of (e3 _ _ h2), hT.keep (KeepT.ex e3)⟩⟩
  have w : Walk (Itl K p) ys.length (fun H => SqL K H p ys) (YAt ys) := walk_list
  rw [show ys.length = rs.length from paired_len hT] at w
  refine w.mono (fun H h => h.1) fun i H x H' hi hg hy => ?_
  obtain ⟨rfl, hx⟩ := hy
  obtain ⟨r, hr, a, rfl, ha⟩ := paired_get hg.2 hx
  exact ⟨rfl, a, r, hr, rfl, ha⟩
theorem flatten_take_le {α : Type} : ∀ (l : List (List α)) (i : Nat), (l.take i).flatten.length ≤ l.flatten.length
  | [], i => by simp
  | a :: r, 0 => by simp
  | a :: r, i + 1 => by
    have := flatten_take_le r i
    rw [List.take_succ_cons, List.flatten_cons, List.flatten_cons, List.length_append, List.length_append]
    omega
/-- a new tuple -/
def RetU (xs : List V) (H : Hp) (Q : VK) : Prop := ∀ p H2, H p = none → Ex H H2 → H2 p = some (.tup xs) → Q (.ref p) H2
def SpU (sp : Sp) (vs : List V) (H : Hp) (xs : List V) : Prop := ∀ H1, Ex H H1 → ∀ Q : VK, (∀ p H2, H1 p = none → Ex H1 H2 → H2 p = some (.tup xs) → Q (.ref p) H2) → ∀ E : XK, sp vs H1 Q E
theorem eu_call {σ : L2.St} {H : Hp} {sp : Sp} {vs xs : List V} {E : XK} {ta : TA} (h : EvA ta σ H vs) (hs : ∀ H1, Ex H H1 → ∀ Q : VK, RetU xs H1 Q → ∀ E, sp vs H1 Q E) : EvU (tCall sp [] E ta) σ H xs := fun H1 e Q q =>
  h H1 e _ fun H2 e2 => by
    rw [List.append_nil]
    exact hs H2 (e.trans e2) Q (fun p H3 hp e3 h3 => q p H3 (fresh_back e2 hp) (e2.trans e3) h3) E
theorem er_call {σ : L2.St} {H : Hp} {sp : Sp} {vs : List V} {rs : List (List Nat)} {E : XK} {ta : TA} (h : EvA ta σ H vs) (hs : ∀ H1, Ex H H1 → ∀ Q : VK, (∀ p ys H2, H1 p = none → Ex H1 H2 → H2 p = some (.lst ys) → TupsAt K H2 ys rs → Q (.ref p) H2) → ∀ E, sp vs H1 Q E) : EvR K (tCall sp [] E ta) σ H rs := fun H1 e Q q =>
  h H1 e _ fun H2 e2 => by
    rw [List.append_nil]
    exact hs H2 (e.trans e2) Q (fun p ys H3 hp e3 h3 hT => q p ys H3 (fresh_back e2 hp) (e2.trans e3) h3 hT) E
theorem rgV_nat (n : Nat) : rgV 0 (n : Int) = (List.range n).map vN := by
  unfold rgV
  rw [Int.sub_zero, Int.toNat_natCast]
  apply List.map_congr_left
  intro i _
  rw [Int.zero_add]
theorem el_listR {n : Nat} (ha : Ev ta σ H (.int n)) (hn : n ≤ 100000) : EvL (tLstRg (tRg1 ta)) σ H ((List.range n).map vN) := fun H1 e Q q =>
  ha H1 e _ fun H2 e2 => ⟨n, rfl, RgOk.of_le (by omega) (by omega) (by omega) (by omega), fun p hp => q p _ (fresh_back e2 hp) (e2.trans (Ex.new hp)) (by rw [rgV_nat]; exact upd_same)⟩
theorem paired_flip {α β γ : Type} {F : β → γ → Prop} {g : α → γ} : ∀ {xs : List α} {ys : List β}, Paired (fun i y => F y (g i)) xs ys → Paired F ys (xs.map g)
  | _, _, .nil => .nil
  | _, _, .cons r t => .cons r (paired_flip t)
theorem q_asgC {te : TE} {σ : L2.St} {H : Hp} {D : Ends} {tz : TS} {i n : Nat} {f : Nat → Bool} {Φ : Nat → V → Hp → Prop} (h : EvC te σ H n f Φ) (k : ∀ p ys H1, H p = none → Ex H H1 → H1 p = some (.lst ys) → Paired (fun i y => Φ i y H1) ((List.range n).filter f) ys → tz D (σ.set i (some (.ref p))) H1) :
    tSeq (tAsg te (gName i)) tz D σ H := h H (Ex.refl H) _ k
end
end Kw
set_option Elab.async false
set_option linter.all false
set_option maxRecDepth 100000
set_option maxHeartbeats 4000000
namespace Kw
open PySem PySem.Spec PyProof.Rows L2 Evl
section
variable {K : PySem.W.Frag} {σ : L2.St} {H H' : Hp} {ta tb tc te tl : TE} {t u : TT} {x y z v : V} {r r' : R2}
theorem ew_zipL {a b : Addr} {xs ys : List V} {n : Nat} (hn : n = min xs.length ys.length) (h : Ev ta σ H (.ref a)) (hb : Ev tb σ H (.ref b)) (hx : SqL K H a xs) (hy : SqL K H b ys) : EvW (iZip K (tCons ta (tCons tb tNil))) σ H n (YPair (fun i => xs[i]?) (fun i => ys[i]?)) := fun H1 e R r =>
  h H1 e _ fun H2 e2 => hb H2 (e.trans e2) _ fun H3 e3 => ⟨a, b, xs, ys, rfl, ex_l ((e.trans e2).trans e3) hx, ex_l ((e.trans e2).trans e3) hy, r _ _ H3 (e2.trans e3) (walk_zip hn) fun H4 e4 => ⟨ex_l (((e.trans e2).trans e3).trans e4) hx, ex_l (((e.trans e2).trans e3).trans e4) hy⟩⟩
theorem ew_enumL {a : Addr} {xs : List V} (h : Ev ta σ H (.ref a)) (hx : SqL K H a xs) : EvW (iEnum K (tCons ta tNil)) σ H xs.length (YPair (fun i => some (.int (i : Nat))) (fun i => xs[i]?)) := fun H1 e R r =>
  h H1 e _ fun H2 e2 => ⟨a, xs, rfl, ex_l (e.trans e2) hx, r _ _ H2 e2 walk_enum fun H3 e3 => ex_l ((e.trans e2).trans e3) hx⟩
/-- [x, *xs] -/
theorem el_star1 {p : Addr} {xs : List V} (ha : Ev ta σ H x) (hb : Ev tb σ H (.ref p)) (h : SqL K H p xs ∨ SqT K H p xs) (hn : xs.length < 100000) : EvL (tLst (tCons ta (StX.tStar K tb tNil))) σ H (x :: xs) := fun H1 e Q q =>
  ha H1 e _ fun H2 e2 => hb H2 (e.trans e2) _ fun H3 e3 => ⟨p, xs, rfl, h.elim (fun h => .inr (ex_l ((e.trans e2).trans e3) h)) (fun h => .inl (ex_t ((e.trans e2).trans e3) h)), by
    show (x :: (xs ++ [])).length ≤ sizeLine ∧ ∀ p, H3 p = none → Q (.ref p) (upd H3 p (.lst (x :: (xs ++ []))))
    rw [List.append_nil]
    exact ⟨sz_of (by rw [List.length_cons]; omega), fun l hl => q l _ (fresh_back (e2.trans e3) hl) ((e2.trans e3).trans (Ex.new hl)) upd_same⟩⟩
theorem ev_sum {ns : List Int} (ha : EvL ta σ H (ns.map V.int)) : Ev (tCB (rSum K) (tCons ta tNil)) σ H (.int ns.sum) := fun H1 e Q q =>
  ha H1 e _ fun p H2 _ e2 h2 => ⟨p, ns, rfl, sq_of h2, q H2 e2⟩
theorem ev_sumV {p : Addr} {ns : List Int} (ha : Ev ta σ H (.ref p)) (h : SqL K H p (ns.map V.int)) : Ev (tCB (rSum K) (tCons ta tNil)) σ H (.int ns.sum) := fun H1 e Q q =>
  ha H1 e _ fun H2 e2 => ⟨p, ns, rfl, ex_l (e.trans e2) h, q H2 e2⟩
theorem nats_int (ns : List Nat) : ns.map vN = (ns.map fun (i : Nat) => (i : Int)).map V.int := by rw [List.map_map]; rfl
theorem sum_nats (ns : List Nat) : (ns.map fun (i : Nat) => (i : Int)).sum = (ns.sum : Nat) := by
  induction ns with
  | nil => rfl
  | cons a r ih => rw [List.map_cons, List.sum_cons, List.sum_cons, ih, Int.natCast_add]
/-- xs[i] of a new list -/
theorem ev_ixN {xs : List V} {i : Int} (ha : EvL ta σ H xs) (hb : Ev tb σ H (.int i)) (hv : atI xs i = some v) : Ev (tOp (rIxL K) ta tb) σ H v :=
  ev_opL1 ha (fun H1 e1 => hb.mono e1) fun p H1 hp _ => rv_ixL (sq_of hp) hv
theorem ew_rng2 {ta : TA} {a n : Nat} (h : EvA ta σ H [.int a, .int (n + a : Nat)]) (hn : n + a ≤ 100000) : EvW (iRng2 ta) σ H n (YFn fun (i : Nat) => .int ((a + i : Nat) : Int)) := fun H1 e R r => h H1 e _ fun H2 e2 => ⟨a, (n + a : Nat), rfl, ⟨by omega, by omega, by omega, by omega⟩, r _ _ H2 e2 (by
  have e : (fun i : Nat => V.int (((a : Nat) : Int) + (i : Int))) = fun (i : Nat) => V.int ((a + i : Nat) : Int) := by
    funext i
    rw [Int.natCast_add]
  rw [← e, show (((n + a : Nat) : Int) - (a : Int)).toNat = n by omega]
  exact walk_range) fun _ _ => trivial⟩
end
theorem getD_eq {α : Type} {l : List α} {i : Nat} {d x : α} (h : l[i]? = some x) : l.getD i d = x := by
  rw [List.getD_eq_getElem?_getD, h]
  rfl
theorem get_map {α : Type} {l : List α} {f : α → V} {i : Nat} {x : V} (d : α) (h : (l.map f)[i]? = some x) : x = f (l.getD i d) ∧ i < l.length ∧ l[i]? = some (l.getD i d) := by
  rw [List.getElem?_map] at h
  cases e : l[i]? with
  | none => rw [e] at h; cases h
  | some a =>
    rw [e] at h
    have hl : i < l.length := (List.getElem?_eq_some_iff.mp e).1
    rw [getD_eq e]
    exact ⟨(Option.some.inj h).symm, hl, rfl⟩
end Kw
set_option Elab.async false
set_option linter.all false
set_option maxRecDepth 100000
set_option maxHeartbeats 4000000
namespace Kw
/-! ### layings: the mathematics -/
theorem len_le_of_sub {α : Type} [DecidableEq α] : ∀ {l m : List α}, l.Nodup → (∀ x ∈ l, x ∈ m) → l.length ≤ m.length
  | [], _, _, _ => Nat.zero_le _
  | a :: r, m, nd, h => by
    have ha := h a (List.mem_cons_self ..)
    have nd' := List.nodup_cons.mp nd
    have h1 : ∀ x ∈ r, x ∈ m.erase a := fun x hx => (List.mem_erase_of_ne (by rintro rfl; exact nd'.1 hx)).mpr (h x (List.mem_cons_of_mem _ hx))
    have h2 := len_le_of_sub nd'.2 h1
    rw [List.length_erase_of_mem ha] at h2
    have := List.length_pos_of_mem ha
    rw [List.length_cons]
    omega
theorem mem_of_full {α : Type} [DecidableEq α] {l m : List α} (nd : l.Nodup) (h : ∀ x ∈ l, x ∈ m) (hl : m.length ≤ l.length) : ∀ x ∈ m, x ∈ l := fun x hx => by
  by_cases z : x ∈ l
  · exact z
  · exfalso
    have := len_le_of_sub (l := x :: l) (m := m) (List.nodup_cons.mpr ⟨z, nd⟩) fun y hy => by
      rcases List.mem_cons.mp hy with rfl | hy
      · exact hx
      · exact h y hy
    rw [List.length_cons] at this
    omega
theorem perm_of_full {α : Type} [DecidableEq α] {l m : List α} (nd : l.Nodup) (nm : m.Nodup) (h : ∀ x ∈ l, x ∈ m) (hl : m.length ≤ l.length) : l.Perm m :=
  (List.perm_ext_iff_of_nodup nd nm).mpr fun a => ⟨h a, mem_of_full nd h hl a⟩
theorem nodup_of_count {α : Type} [DecidableEq α] : ∀ {m l : List α}, m.Nodup → (∀ x ∈ m, x ∈ l) → l.length ≤ m.length → l.Nodup
  | [], l, _, _, hl => by
    have : l = [] := List.eq_nil_of_length_eq_zero (by simpa using hl)
    subst this
    exact List.nodup_nil
  | a :: r, l, nd, h, hl => by
    have nd' := List.nodup_cons.mp nd
    have ha := h a (List.mem_cons_self ..)
    have h1 : ∀ x ∈ r, x ∈ l.erase a := fun x hx => (List.mem_erase_of_ne (by rintro rfl; exact nd'.1 hx)).mpr (h x (List.mem_cons_of_mem _ hx))
    have h2 : (l.erase a).length ≤ r.length := by
      rw [List.length_erase_of_mem ha]
      rw [List.length_cons] at hl
      omega
    refine (List.perm_cons_erase ha).nodup_iff.mpr (List.nodup_cons.mpr ⟨fun z => ?_, nodup_of_count nd'.2 h1 h2⟩)
    have := len_le_of_sub (m := l.erase a) nd fun x hx => by
      rcases List.mem_cons.mp hx with rfl | hx
      · exact z
      · exact h1 x hx
    rw [List.length_cons] at this
    omega
abbrev IsLay (lay : List Nat) : Prop := lay.Perm (List.range lay.length)
def nx (lay : List Nat) (i : Nat) : Nat := lay.getD i 0
def it (lay : List Nat) : Nat → Nat → Nat
  | 0, i => i
  | k + 1, i => nx lay (it lay k i)
section
variable {lay : List Nat} {i j k m n : Nat}
theorem nx_get (h : i < lay.length) : lay[i]? = some (nx lay i) := by
  unfold nx
  rw [List.getD_eq_getElem?_getD, List.getElem?_eq_getElem h]
  rfl
theorem IsLay.nodup (h : IsLay lay) : lay.Nodup := h.nodup_iff.mpr List.nodup_range
theorem IsLay.lt (h : IsLay lay) (hi : i < lay.length) : nx lay i < lay.length := List.mem_range.mp (h.mem_iff.mp (List.mem_of_getElem? (nx_get hi)))
theorem IsLay.inj (h : IsLay lay) (hi : i < lay.length) (hj : j < lay.length) (e : nx lay i = nx lay j) : i = j := by
  have h1 := nx_get hi
  rw [e] at h1
  exact (List.getElem?_inj hi h.nodup).mp (h1.trans (nx_get hj).symm)
theorem IsLay.it_lt (h : IsLay lay) (hi : i < lay.length) : ∀ k, it lay k i < lay.length
  | 0 => hi
  | k + 1 => h.lt (h.it_lt hi k)
theorem it_add (lay : List Nat) (k m i : Nat) : it lay (k + m) i = it lay k (it lay m i) := by
  induction k with
  | zero => rw [Nat.zero_add]; rfl
  | succ k ih => rw [Nat.succ_add]; show nx lay _ = nx lay _; rw [ih]
theorem IsLay.it_inj (h : IsLay lay) (hi : i < lay.length) (hj : j < lay.length) : ∀ k, it lay k i = it lay k j → i = j
  | 0, e => e
  | k + 1, e => h.it_inj hi hj k (h.inj (h.it_lt hi k) (h.it_lt hj k) e)
/-- it comes back -/
theorem nodup_map_range {f : Nat → Nat} : ∀ {n : Nat}, (∀ a b, a < b → b < n → f a ≠ f b) → ((List.range n).map f).Nodup := fun {n} h => by
  rw [List.nodup_iff_pairwise_ne, List.pairwise_map]
  refine List.Pairwise.imp_of_mem ?_ (List.pairwise_lt_range (n := n))
  intro a b _ hb hab
  exact h a b hab (List.mem_range.mp hb)
theorem IsLay.back (h : IsLay lay) (hi : i < lay.length) : ∃ k, k < lay.length ∧ it lay (k + 1) i = i := by
  by_cases z : ∃ k, k < lay.length ∧ it lay (k + 1) i = i
  · exact z
  · exfalso
    have nd : ((List.range (lay.length + 1)).map fun k => it lay k i).Nodup := nodup_map_range fun a b hab hb e => by
      obtain ⟨c, rfl⟩ := Nat.exists_eq_add_of_lt hab
      have e2 : it lay a (it lay (c + 1) i) = it lay a i := by
        rw [← it_add, ← Nat.add_assoc]
        exact e.symm
      exact z ⟨c, by omega, h.it_inj (h.it_lt hi _) hi a e2⟩
    have := len_le_of_sub (m := List.range lay.length) nd fun x hx => by
      obtain ⟨k, _, rfl⟩ := List.mem_map.mp hx
      exact List.mem_range.mpr (h.it_lt hi k)
    rw [List.length_map, List.length_range, List.length_range] at this
    omega
def per (lay : List Nat) (i : Nat) : Nat := ((List.range lay.length).find? fun k => decide (it lay (k + 1) i = i)).getD 0 + 1
theorem find_range {p : Nat → Bool} : ∀ {n : Nat}, (∃ k, k < n ∧ p k = true) → ∃ k, (List.range n).find? p = some k ∧ k < n ∧ p k = true ∧ ∀ j, j < k → p j = false := fun {n} => by
  induction n with
  | zero => rintro ⟨k, h, _⟩; exact absurd h (Nat.not_lt_zero _)
  | succ n ih =>
    rintro ⟨k, h1, h2⟩
    rw [List.range_succ, List.find?_append]
    by_cases z : ∃ k, k < n ∧ p k = true
    · obtain ⟨k, a, b, c, d⟩ := ih z
      exact ⟨k, by rw [a]; rfl, by omega, c, d⟩
    · have hn : (List.range n).find? p = none := List.find?_eq_none.mpr fun x hx hp => z ⟨x, List.mem_range.mp hx, hp⟩
      have hk : k = n := by
        by_cases y : k < n
        · exact absurd ⟨k, y, h2⟩ z
        · omega
      subst hk
      refine ⟨k, by rw [hn]; simp [h2], by omega, h2, fun j hj => ?_⟩
      cases hp : p j with
      | false => rfl
      | true => exact absurd ⟨j, hj, hp⟩ z
theorem IsLay.per (h : IsLay lay) (hi : i < lay.length) : 1 ≤ per lay i ∧ per lay i ≤ lay.length ∧ it lay (per lay i) i = i ∧ ∀ q, 1 ≤ q → q < per lay i → it lay q i ≠ i := by
  obtain ⟨k, h1, h2, h3, h4⟩ := find_range (p := fun k => decide (it lay (k + 1) i = i)) (n := lay.length) (by
    obtain ⟨k, a, b⟩ := h.back hi
    exact ⟨k, a, decide_eq_true b⟩)
  have e : Kw.per lay i = k + 1 := by
    unfold Kw.per
    rw [h1]
    rfl
  rw [e]
  refine ⟨by omega, by omega, of_decide_eq_true h3, fun q q1 q2 => ?_⟩
  have := of_decide_eq_false (h4 (q - 1) (by omega))
  rwa [show q - 1 + 1 = q by omega] at this
def orb (lay : List Nat) (i : Nat) : List Nat := (List.range (per lay i)).map fun k => it lay k i
theorem IsLay.it_ne (h : IsLay lay) (hi : i < lay.length) {a b : Nat} (hab : a < b) (hb : b < Kw.per lay i) : it lay a i ≠ it lay b i := fun e => by
  obtain ⟨c, rfl⟩ := Nat.exists_eq_add_of_lt hab
  have e2 : it lay a (it lay (c + 1) i) = it lay a i := by
    rw [← it_add, ← Nat.add_assoc]
    exact e.symm
  exact (h.per hi).2.2.2 (c + 1) (by omega) (by omega) (h.it_inj (h.it_lt hi _) hi a e2)
theorem IsLay.orb_nodup (h : IsLay lay) (hi : i < lay.length) : (orb lay i).Nodup := nodup_map_range fun _ _ hab hb => h.it_ne hi hab hb
theorem IsLay.it_mod (h : IsLay lay) (hi : i < lay.length) : ∀ k, it lay (k + Kw.per lay i) i = it lay k i := fun k => by rw [it_add, (h.per hi).2.2.1]
theorem IsLay.it_mul (h : IsLay lay) (hi : i < lay.length) : ∀ m k, it lay (k + m * Kw.per lay i) i = it lay k i
  | 0, k => by rw [Nat.zero_mul, Nat.add_zero]
  | m + 1, k => by rw [Nat.succ_mul, ← Nat.add_assoc, h.it_mod hi, h.it_mul hi m]
theorem IsLay.mem_orb (h : IsLay lay) (hi : i < lay.length) {y : Nat} : y ∈ orb lay i ↔ ∃ k, y = it lay k i := by
  constructor
  · intro hy
    obtain ⟨k, _, rfl⟩ := List.mem_map.mp hy
    exact ⟨k, rfl⟩
  · rintro ⟨k, rfl⟩
    have p1 := (h.per hi).1
    refine List.mem_map.mpr ⟨k % Kw.per lay i, List.mem_range.mpr (Nat.mod_lt _ (by omega)), ?_⟩
    show it lay (k % Kw.per lay i) i = it lay k i
    conv => rhs; rw [← Nat.mod_add_div k (Kw.per lay i), Nat.mul_comm, h.it_mul hi]
theorem IsLay.orb_self (h : IsLay lay) (hi : i < lay.length) : i ∈ orb lay i := (h.mem_orb hi).mpr ⟨0, rfl⟩
theorem IsLay.orb_lt (h : IsLay lay) (hi : i < lay.length) {y : Nat} (hy : y ∈ orb lay i) : y < lay.length := by
  obtain ⟨k, rfl⟩ := (h.mem_orb hi).mp hy
  exact h.it_lt hi k
/-- from any of it one comes back -/
theorem IsLay.orb_back (h : IsLay lay) (hi : i < lay.length) (k : Nat) : ∃ t, it lay t (it lay k i) = i := by
  have p1 := (h.per hi).1
  refine ⟨k * Kw.per lay i - k, ?_⟩
  rw [← it_add]
  have : k ≤ k * Kw.per lay i := Nat.le_mul_of_pos_right k (by omega)
  rw [show k * Kw.per lay i - k + k = 0 + k * Kw.per lay i by omega, h.it_mul hi]
  rfl
theorem IsLay.orb_symm (h : IsLay lay) (hi : i < lay.length) (hj : j < lay.length) (hm : j ∈ orb lay i) : i ∈ orb lay j := by
  obtain ⟨k, rfl⟩ := (h.mem_orb hi).mp hm
  obtain ⟨t, ht⟩ := h.orb_back hi k
  exact (h.mem_orb hj).mpr ⟨t, ht.symm⟩
theorem IsLay.orb_trans (h : IsLay lay) (hi : i < lay.length) (hj : j < lay.length) (hm : j ∈ orb lay i) {y : Nat} (hy : y ∈ orb lay j) : y ∈ orb lay i := by
  obtain ⟨k, rfl⟩ := (h.mem_orb hi).mp hm
  obtain ⟨t, rfl⟩ := (h.mem_orb hj).mp hy
  exact (h.mem_orb hi).mpr ⟨t + k, (it_add ..).symm⟩
/-- the least of its round -/
def inB (lay : List Nat) (n y : Nat) : Bool := (List.range n).any fun j => decide (y ∈ orb lay j)
def cycs (lay : List Nat) (n : Nat) : List (List Nat) := ((List.range n).filter fun i => !inB lay i i).map (orb lay)
def cycles (lay : List Nat) : List (List Nat) := cycs lay lay.length
theorem inB_succ (lay : List Nat) (n y : Nat) : inB lay (n + 1) y = (inB lay n y || decide (y ∈ orb lay n)) := by
  unfold inB
  rw [List.range_succ, List.any_append]
  simp
theorem inB_iff {lay : List Nat} {n y : Nat} : inB lay n y = true ↔ ∃ j, j < n ∧ y ∈ orb lay j := by
  unfold inB
  rw [List.any_eq_true]
  exact ⟨fun ⟨j, h1, h2⟩ => ⟨j, List.mem_range.mp h1, of_decide_eq_true h2⟩, fun ⟨j, h1, h2⟩ => ⟨j, List.mem_range.mpr h1, decide_eq_true h2⟩⟩
theorem cycs_succ (lay : List Nat) (n : Nat) : cycs lay (n + 1) = if inB lay n n then cycs lay n else cycs lay n ++ [orb lay n] := by
  unfold cycs
  rw [List.range_succ, List.filter_append, List.map_append]
  cases h : inB lay n n <;> simp [h]
/-- a box that was come to brings nothing new -/
theorem IsLay.old (h : IsLay lay) (hn : n < lay.length) (hb : inB lay n n = true) (y : Nat) : inB lay (n + 1) y = inB lay n y := by
  rw [inB_succ]
  cases hy : inB lay n y with
  | true => rfl
  | false =>
    rw [Bool.false_or]
    refine decide_eq_false fun z => ?_
    obtain ⟨j, h1, h2⟩ := inB_iff.mp hb
    have : inB lay n y = true := inB_iff.mpr ⟨j, h1, h.orb_trans (by omega) hn h2 z⟩
    rw [hy] at this
    cases this
/-- a new one's round is new whole -/
theorem IsLay.new (h : IsLay lay) (hn : n < lay.length) (hb : inB lay n n = false) (k : Nat) : inB lay n (it lay k n) = false := by
  cases hy : inB lay n (it lay k n) with
  | false => rfl
  | true =>
    obtain ⟨j, h1, h2⟩ := inB_iff.mp hy
    obtain ⟨t, ht⟩ := h.orb_back hn k
    have hj : j < lay.length := by omega
    have : n ∈ orb lay j := h.orb_trans hj (h.it_lt hn k) h2 ((h.mem_orb (h.it_lt hn k)).mpr ⟨t, ht.symm⟩)
    have : inB lay n n = true := inB_iff.mpr ⟨j, h1, this⟩
    rw [hb] at this
    cases this
end
end Kw
set_option Elab.async false
set_option linter.all false
set_option maxRecDepth 100000
set_option maxHeartbeats 4000000
namespace Kw
/-! ### an exchange makes one round more or one fewer -/
def swp (lay : List Nat) (a b : Nat) : List Nat := (lay.set a (nx lay b)).set b (nx lay a)
section
variable {lay : List Nat} {a b i j n x y : Nat}
theorem swp_len (lay : List Nat) (a b : Nat) : (swp lay a b).length = lay.length := by
  unfold swp
  rw [List.length_set, List.length_set]
theorem nx_set {v : Nat} (h : a < lay.length) : nx (lay.set a v) x = if x = a then v else nx lay x := by
  unfold nx
  rw [List.getD_eq_getElem?_getD, List.getD_eq_getElem?_getD, List.getElem?_set]
  by_cases e : a = x
  · subst e
    rw [if_pos rfl, if_pos rfl, if_pos h]
    rfl
  · rw [if_neg e, if_neg (fun z => e z.symm)]
theorem nx_swp (ha : a < lay.length) (hb : b < lay.length) (x : Nat) : nx (swp lay a b) x = if x = b then nx lay a else if x = a then nx lay b else nx lay x := by
  unfold swp
  rw [nx_set (by rw [List.length_set]; exact hb), nx_set ha]
theorem swp_swp (ha : a < lay.length) (hb : b < lay.length) : swp (swp lay a b) a b = lay := by
  apply List.ext_getElem?
  intro i
  have h1 : a < (swp lay a b).length := by rw [swp_len]; exact ha
  have h2 : b < (swp lay a b).length := by rw [swp_len]; exact hb
  by_cases hi : i < lay.length
  · rw [nx_get (lay := swp (swp lay a b) a b) (by rw [swp_len, swp_len]; exact hi), nx_get hi, nx_swp h1 h2]
    congr 1
    by_cases e1 : i = b
    · subst e1
      rw [if_pos rfl, nx_swp ha hb]
      by_cases e2 : a = i
      · subst e2
        rw [if_pos rfl]
      · rw [if_neg e2, if_pos rfl]
    · rw [if_neg e1]
      by_cases e2 : i = a
      · subst e2
        rw [if_pos rfl, nx_swp ha hb, if_pos rfl]
      · rw [if_neg e2, nx_swp ha hb, if_neg e1, if_neg e2]
  · rw [List.getElem?_eq_none (by rw [swp_len, swp_len]; omega), List.getElem?_eq_none (by omega)]
/-- a list whose numbers are below its length, none twice -/
theorem lay_of_inj (h1 : ∀ i, i < lay.length → nx lay i < lay.length) (h2 : ∀ i j, i < lay.length → j < lay.length → nx lay i = nx lay j → i = j) : IsLay lay := by
  have e : lay = (List.range lay.length).map (nx lay) := by
    apply List.ext_getElem?
    intro i
    by_cases hi : i < lay.length
    · rw [nx_get hi, List.getElem?_map, List.getElem?_range hi]
      rfl
    · rw [List.getElem?_eq_none (by omega), List.getElem?_eq_none (by rw [List.length_map, List.length_range]; omega)]
  have nd : lay.Nodup := by
    rw [e]
    exact nodup_map_range fun a b hab hb z => by
      have := h2 a b (by omega) hb z
      omega
  refine perm_of_full nd List.nodup_range (fun x hx => ?_) (by rw [List.length_range]; exact Nat.le_refl _)
  obtain ⟨i, hi, rfl⟩ := List.getElem_of_mem hx
  have := h1 i hi
  have h3 := nx_get hi
  rw [List.getElem?_eq_getElem hi] at h3
  rw [Option.some.inj h3]
  exact List.mem_range.mpr this
theorem IsLay.swp (h : IsLay lay) (ha : a < lay.length) (hb : b < lay.length) : IsLay (swp lay a b) := by
  refine lay_of_inj (fun i hi => ?_) (fun i j hi hj e => ?_)
  · rw [swp_len] at hi ⊢
    rw [nx_swp ha hb]
    split
    · exact h.lt ha
    · split
      · exact h.lt hb
      · exact h.lt hi
  · rw [swp_len] at hi hj
    rw [nx_swp ha hb, nx_swp ha hb] at e
    by_cases i1 : i = b
    · rw [if_pos i1] at e
      by_cases j1 : j = b
      · omega
      · rw [if_neg j1] at e
        by_cases j2 : j = a
        · rw [if_pos j2] at e
          have := h.inj ha hb e
          omega
        · rw [if_neg j2] at e
          have := h.inj ha hj e
          omega
    · rw [if_neg i1] at e
      by_cases i2 : i = a
      · rw [if_pos i2] at e
        by_cases j1 : j = b
        · rw [if_pos j1] at e
          have := h.inj hb ha e
          omega
        · rw [if_neg j1] at e
          by_cases j2 : j = a
          · omega
          · rw [if_neg j2] at e
            have := h.inj hb hj e
            omega
      · rw [if_neg i2] at e
        by_cases j1 : j = b
        · rw [if_pos j1] at e
          have := h.inj hi ha e
          omega
        · rw [if_neg j1] at e
          by_cases j2 : j = a
          · rw [if_pos j2] at e
            have := h.inj hi hb e
            omega
          · rw [if_neg j2] at e
            exact h.inj hi hj e
/-- a set that each step stays in -/
theorem it_closed {S : Nat → Prop} (hS : ∀ x, S x → S (nx lay x)) {i : Nat} (hi : S i) : ∀ k, S (it lay k i)
  | 0 => hi
  | k + 1 => hS _ (it_closed hS hi k)
theorem IsLay.orb_step (h : IsLay lay) (hi : i < lay.length) (hx : x ∈ orb lay i) : nx lay x ∈ orb lay i := by
  obtain ⟨k, rfl⟩ := (h.mem_orb hi).mp hx
  exact (h.mem_orb hi).mpr ⟨k + 1, rfl⟩
/-- one behind the other, ahead of a return -/
theorem IsLay.walk (h : IsLay lay) (ha : a < lay.length) (hb : b < lay.length) (hab : a ∉ orb lay b) : ∀ j, j + 1 ≤ Kw.per lay b → it (Kw.swp lay a b) (j + 1) a = it lay (j + 1) b
  | 0, _ => by
    show nx (Kw.swp lay a b) a = nx lay b
    rw [nx_swp ha hb]
    by_cases e : a = b
    · exact absurd (show a ∈ orb lay b by rw [e]; exact h.orb_self hb) hab
    · rw [if_neg e, if_pos rfl]
  | j + 1, hj => by
    have ih := h.walk ha hb hab j (by omega)
    show nx (Kw.swp lay a b) (it (Kw.swp lay a b) (j + 1) a) = nx lay (it lay (j + 1) b)
    rw [ih, nx_swp ha hb]
    have n1 : it lay (j + 1) b ≠ b := (h.per hb).2.2.2 (j + 1) (by omega) (by omega)
    have n2 : it lay (j + 1) b ≠ a := fun z => hab ((h.mem_orb hb).mpr ⟨_, z.symm⟩)
    rw [if_neg n1, if_neg n2]
theorem swp_comm (ha : a < lay.length) (hb : b < lay.length) (x : Nat) : nx (swp lay a b) x = nx (swp lay b a) x := by
  rw [nx_swp ha hb, nx_swp hb ha]
  by_cases e1 : x = b
  · by_cases e2 : x = a
    · rw [if_pos e1, if_pos e2, ← e1, ← e2]
    · rw [if_pos e1, if_neg e2, if_pos e1]
  · rw [if_neg e1, if_neg e1]
theorem swp_eq (ha : a < lay.length) (hb : b < lay.length) : swp lay a b = swp lay b a := by
  apply List.ext_getElem?
  intro i
  by_cases hi : i < lay.length
  · rw [nx_get (lay := swp lay a b) (by rw [swp_len]; exact hi), nx_get (lay := swp lay b a) (by rw [swp_len]; exact hi), swp_comm ha hb]
  · rw [List.getElem?_eq_none (by rw [swp_len]; omega), List.getElem?_eq_none (by rw [swp_len]; omega)]
theorem IsLay.sub_swp (h : IsLay lay) (ha : a < lay.length) (hb : b < lay.length) (hab : a ∉ orb lay b) (hx : x ∈ orb lay b) : x ∈ orb (Kw.swp lay a b) a := by
  have h' := h.swp ha hb
  have ha' : a < (Kw.swp lay a b).length := by rw [swp_len]; exact ha
  obtain ⟨k, hk, rfl⟩ := List.mem_map.mp hx
  have hk := List.mem_range.mp hk
  refine (h'.mem_orb ha').mpr ?_
  show ∃ m, it lay k b = it (Kw.swp lay a b) m a
  match k, hk with
  | 0, hk =>
    obtain ⟨m, hm⟩ : ∃ m, Kw.per lay b = m + 1 := ⟨Kw.per lay b - 1, by omega⟩
    refine ⟨m + 1, ?_⟩
    rw [h.walk ha hb hab m (by omega), ← hm, (h.per hb).2.2.1]
    rfl
  | k + 1, hk => exact ⟨k + 1, (h.walk ha hb hab k (by omega)).symm⟩
/-- two rounds become one -/
theorem IsLay.merge (h : IsLay lay) (ha : a < lay.length) (hb : b < lay.length) (hab : a ∉ orb lay b) (hi : i < lay.length) : x ∈ orb (Kw.swp lay a b) i ↔ (x ∈ orb lay i ∨ ((i ∈ orb lay a ∨ i ∈ orb lay b) ∧ (x ∈ orb lay a ∨ x ∈ orb lay b))) := by
  have h' := h.swp ha hb
  have ha' : a < (Kw.swp lay a b).length := by rw [swp_len]; exact ha
  have hb' : b < (Kw.swp lay a b).length := by rw [swp_len]; exact hb
  have hi' : i < (Kw.swp lay a b).length := by rw [swp_len]; exact hi
  have hba : b ∉ orb lay a := fun z => hab (h.orb_symm ha hb z)
  have inA : ∀ y, (y ∈ orb lay a ∨ y ∈ orb lay b) → y ∈ orb (Kw.swp lay a b) a := by
    intro y hy
    have hba' : b ∈ orb (Kw.swp lay a b) a := h.sub_swp ha hb hab (h.orb_self hb)
    rcases hy with hy | hy
    · have : y ∈ orb (Kw.swp lay b a) b := h.sub_swp hb ha hba hy
      rw [← swp_eq ha hb] at this
      exact h'.orb_trans ha' hb' hba' this
    · exact h.sub_swp ha hb hab hy
  by_cases hc : i ∈ orb lay a ∨ i ∈ orb lay b
  · constructor
    · intro hx
      refine .inr ⟨hc, ?_⟩
      obtain ⟨k, rfl⟩ := (h'.mem_orb hi').mp hx
      refine it_closed (S := fun x => x ∈ orb lay a ∨ x ∈ orb lay b) (fun x hx => ?_) hc k
      rw [nx_swp ha hb]
      split
      · exact .inl (h.orb_step ha (h.orb_self ha))
      · split
        · exact .inr (h.orb_step hb (h.orb_self hb))
        · exact hx.imp (h.orb_step ha) (h.orb_step hb)
    · intro hx
      have hx2 : x ∈ orb lay a ∨ x ∈ orb lay b := by
        rcases hx with hx | hx
        · exact hc.imp (fun z => h.orb_trans ha hi z hx) (fun z => h.orb_trans hb hi z hx)
        · exact hx.2
      have h1 := inA i hc
      have h2 := inA x hx2
      exact h'.orb_trans hi' ha' (h'.orb_symm ha' hi' h1) h2
  · have same : ∀ k, it (Kw.swp lay a b) k i = it lay k i := by
      intro k
      induction k with
      | zero => rfl
      | succ k ih =>
        show nx (Kw.swp lay a b) (it (Kw.swp lay a b) k i) = nx lay (it lay k i)
        rw [ih, nx_swp ha hb]
        have n1 : it lay k i ≠ b := fun z => hc (.inr (h.orb_symm hi hb ((h.mem_orb hi).mpr ⟨k, z.symm⟩)))
        have n2 : it lay k i ≠ a := fun z => hc (.inl (h.orb_symm hi ha ((h.mem_orb hi).mpr ⟨k, z.symm⟩)))
        rw [if_neg n1, if_neg n2]
    rw [h'.mem_orb hi', h.mem_orb hi]
    constructor
    · rintro ⟨k, rfl⟩
      exact .inl ⟨k, same k⟩
    · rintro (⟨k, rfl⟩ | ⟨z, _⟩)
      · exact ⟨k, (same k).symm⟩
      · exact absurd z hc
/-- one round becomes two -/
theorem IsLay.part (h : IsLay lay) (ha : a < lay.length) (hb : b < lay.length) (hne : a ≠ b) (hab : b ∈ orb lay a) : b ∉ orb (Kw.swp lay a b) a := by
  have h' := h.swp ha hb
  have ha' : a < (Kw.swp lay a b).length := by rw [swp_len]; exact ha
  obtain ⟨m, hm, hbm⟩ := List.mem_map.mp hab
  have hm := List.mem_range.mp hm
  have hbm : it lay m a = b := hbm
  intro hx
  obtain ⟨k, hk⟩ := (h'.mem_orb ha').mp hx
  have key := it_closed (lay := Kw.swp lay a b) (S := fun x => ∃ j, m < j ∧ j ≤ Kw.per lay a ∧ x = it lay j a) (fun x hx => ?_) (i := a) ⟨Kw.per lay a, hm, Nat.le_refl _, ((h.per ha).2.2.1).symm⟩ k
  · rw [← hk] at key
    obtain ⟨j, j1, j2, j3⟩ := key
    by_cases e : j = Kw.per lay a
    · rw [e, (h.per ha).2.2.1] at j3
      exact hne j3.symm
    · exact h.it_ne ha j1 (by omega) (hbm.trans j3)
  · obtain ⟨j, j1, j2, rfl⟩ := hx
    rw [nx_swp ha hb]
    have n1 : it lay j a ≠ b := fun z => by
      by_cases e : j = Kw.per lay a
      · rw [e, (h.per ha).2.2.1] at z
        exact hne z
      · exact h.it_ne ha j1 (by omega) (hbm.trans z.symm)
    rw [if_neg n1]
    by_cases n2 : it lay j a = a
    · rw [if_pos n2]
      exact ⟨m + 1, Nat.lt_succ_self _, hm, by rw [← hbm]; rfl⟩
    · rw [if_neg n2]
      have : j ≠ Kw.per lay a := fun e => n2 (by rw [e, (h.per ha).2.2.1])
      exact ⟨j + 1, by omega, by omega, rfl⟩
/-! ### how many rounds -/
def lead (lay : List Nat) (i : Nat) : Bool := !inB lay i i
theorem cycles_len (lay : List Nat) : (cycles lay).length = ((List.range lay.length).filter (lead lay)).length := by
  unfold cycles cycs
  rw [List.length_map]
  rfl
theorem lead_iff : lead lay i = true ↔ ∀ j, j < i → i ∉ orb lay j := by
  unfold lead
  rw [Bool.not_eq_true', ← Bool.not_eq_true, inB_iff]
  exact ⟨fun h j hj hm => h ⟨j, hj, hm⟩, fun h ⟨j, hj, hm⟩ => h j hj hm⟩
/-- the least of a round -/
theorem IsLay.least (h : IsLay lay) : ∀ (m i : Nat), i ≤ m → i < lay.length → ∃ l, l ∈ orb lay i ∧ l ≤ i ∧ lead lay l = true ∧ l < lay.length
  | 0, i, hm, hi => by
    have : i = 0 := by omega
    subst this
    exact ⟨0, h.orb_self hi, Nat.le_refl _, lead_iff.mpr fun j hj => absurd hj (Nat.not_lt_zero _), hi⟩
  | m + 1, i, hm, hi => by
    cases hl : lead lay i with
    | true => exact ⟨i, h.orb_self hi, Nat.le_refl _, hl, hi⟩
    | false =>
      have : inB lay i i = true := by unfold lead at hl; simpa using hl
      obtain ⟨j, j1, j2⟩ := inB_iff.mp this
      have hj : j < lay.length := by omega
      obtain ⟨l, l1, l2, l3, l4⟩ := h.least m j (by omega) hj
      exact ⟨l, h.orb_trans hi hj (h.orb_symm hj hi j2) l1, by omega, l3, l4⟩
theorem IsLay.lead_uniq (h : IsLay lay) (hi : i < lay.length) (hj : j < lay.length) (l1 : lead lay i = true) (l2 : lead lay j = true) (hm : i ∈ orb lay j) : i = j := by
  rcases Nat.lt_trichotomy i j with z | z | z
  · exact absurd (h.orb_symm hj hi hm) (lead_iff.mp l2 i z)
  · exact z
  · exact absurd hm (lead_iff.mp l1 j z)
theorem filter_but {p : Nat → Bool} {M : Nat} : ∀ {l : List Nat}, l.Nodup → M ∈ l → p M = true → (l.filter fun i => p i && !decide (i = M)).length + 1 = (l.filter p).length
  | [], _, hm, _ => by cases hm
  | a :: r, nd, hm, hp => by
    have nd' := List.nodup_cons.mp nd
    by_cases e : a = M
    · subst e
      rw [List.filter_cons, List.filter_cons, if_pos hp, if_neg (by rw [hp, decide_eq_true rfl]; decide), List.length_cons]
      congr 2
      apply List.filter_congr
      intro x hx
      have : x ≠ a := fun z => nd'.1 (z ▸ hx)
      rw [decide_eq_false this]
      simp
    · have hr : M ∈ r := by
        rcases List.mem_cons.mp hm with z | z
        · exact absurd z.symm e
        · exact z
      have ih := filter_but nd'.2 hr hp
      cases hpa : p a with
      | true =>
        rw [List.filter_cons, List.filter_cons, if_pos (by rw [hpa, decide_eq_false e]; rfl), if_pos hpa, List.length_cons, List.length_cons]
        omega
      | false =>
        rw [List.filter_cons, List.filter_cons, if_neg (by rw [hpa]; simp), if_neg (by rw [hpa]; decide)]
        exact ih
/-- an exchange across two rounds: one fewer -/
theorem IsLay.one_less (h : IsLay lay) (ha : a < lay.length) (hb : b < lay.length) (hab : a ∉ orb lay b) : (cycles (Kw.swp lay a b)).length + 1 = (cycles lay).length := by
  obtain ⟨la, a1, a2, a3, a4⟩ := h.least a a (Nat.le_refl _) ha
  obtain ⟨lb, b1, b2, b3, b4⟩ := h.least b b (Nat.le_refl _) hb
  have hne : la ≠ lb := fun z => by
    rw [← z] at b1
    exact hab (h.orb_trans hb a4 b1 (h.orb_symm ha a4 a1))
  have key : ∀ M m, ((M = la ∧ m = lb) ∨ (M = lb ∧ m = la)) → m < M → ∀ i, i < lay.length → lead (Kw.swp lay a b) i = (lead lay i && !decide (i = M)) := by
    intro M m hMm hlt i hi
    have mAB : m ∈ orb lay a ∨ m ∈ orb lay b := by
      rcases hMm with ⟨_, rfl⟩ | ⟨_, rfl⟩
      · exact .inr b1
      · exact .inl a1
    have MAB : M ∈ orb lay a ∨ M ∈ orb lay b := by
      rcases hMm with ⟨rfl, _⟩ | ⟨rfl, _⟩
      · exact .inl a1
      · exact .inr b1
    have m4 : m < lay.length := by
      rcases hMm with ⟨_, rfl⟩ | ⟨_, rfl⟩
      · exact b4
      · exact a4
    have M4 : M < lay.length := by
      rcases hMm with ⟨rfl, _⟩ | ⟨rfl, _⟩
      · exact a4
      · exact b4
    cases hl : (lead lay i && !decide (i = M)) with
    | true =>
      rw [Bool.and_eq_true, Bool.not_eq_true', decide_eq_false_iff_not] at hl
      refine lead_iff.mpr fun j hj hm => ?_
      rcases (h.merge ha hb hab (show j < lay.length by omega)).mp hm with hm | ⟨hjc, hic⟩
      · exact lead_iff.mp hl.1 j hj hm
      · -- i is the least of A or of B, not M: so i = m
        have him : i = m := by
          rcases hic with hic | hic
          · have e : i = la := h.lead_uniq hi a4 hl.1 a3 (h.orb_trans a4 ha (h.orb_symm ha a4 a1) hic)
            rcases hMm with ⟨hM, _⟩ | ⟨_, hm'⟩
            · exact absurd (e.trans hM.symm) hl.2
            · exact e.trans hm'.symm
          · have e : i = lb := h.lead_uniq hi b4 hl.1 b3 (h.orb_trans b4 hb (h.orb_symm hb b4 b1) hic)
            rcases hMm with ⟨_, hm'⟩ | ⟨hM, _⟩
            · exact e.trans hm'.symm
            · exact absurd (e.trans hM.symm) hl.2
        -- j < m in A or B
        obtain ⟨l, l1, l2, l3, l4⟩ := h.least j j (Nat.le_refl _) (show j < lay.length by omega)
        rcases hjc with hjc | hjc
        · have e : l = la := h.lead_uniq l4 a4 l3 a3 (h.orb_trans a4 ha (h.orb_symm ha a4 a1) (h.orb_trans ha (by omega) hjc l1))
          rcases hMm with ⟨hM, _⟩ | ⟨_, hm'⟩ <;> omega
        · have e : l = lb := h.lead_uniq l4 b4 l3 b3 (h.orb_trans b4 hb (h.orb_symm hb b4 b1) (h.orb_trans hb (by omega) hjc l1))
          rcases hMm with ⟨_, hm'⟩ | ⟨hM, _⟩ <;> omega
    | false =>
      cases hl' : lead (Kw.swp lay a b) i with
      | false => rfl
      | true =>
        exfalso
        have hl2 := lead_iff.mp hl'
        have hld : lead lay i = true := lead_iff.mpr fun j hj hm => hl2 j hj ((h.merge ha hb hab (by omega)).mpr (.inl hm))
        rw [hld, Bool.true_and, Bool.not_eq_false', decide_eq_true_eq] at hl
        subst hl
        exact hl2 m hlt ((h.merge ha hb hab m4).mpr (.inr ⟨mAB, MAB⟩))
  have fin : ∀ M, M < lay.length → lead lay M = true → (∀ i, i < lay.length → lead (Kw.swp lay a b) i = (lead lay i && !decide (i = M))) → (cycles (Kw.swp lay a b)).length + 1 = (cycles lay).length := fun M hM hl hk => by
    rw [cycles_len, cycles_len, swp_len]
    have : (List.range lay.length).filter (lead (Kw.swp lay a b)) = (List.range lay.length).filter fun i => lead lay i && !decide (i = M) := List.filter_congr fun x hx => hk x (List.mem_range.mp hx)
    rw [this]
    exact filter_but List.nodup_range (List.mem_range.mpr hM) hl
  rcases Nat.lt_or_gt_of_ne hne with z | z
  · exact fin lb b4 b3 (key lb la (.inr ⟨rfl, rfl⟩) z)
  · exact fin la a4 a3 (key la lb (.inl ⟨rfl, rfl⟩) z)
/-- within one round: one more -/
theorem IsLay.one_more (h : IsLay lay) (ha : a < lay.length) (hb : b < lay.length) (hne : a ≠ b) (hab : b ∈ orb lay a) : (cycles (Kw.swp lay a b)).length = (cycles lay).length + 1 := by
  have h' := h.swp ha hb
  have ha' : a < (Kw.swp lay a b).length := by rw [swp_len]; exact ha
  have hb' : b < (Kw.swp lay a b).length := by rw [swp_len]; exact hb
  have hp := h.part ha hb hne hab
  have := h'.one_less ha' hb' (fun z => hp (h'.orb_symm hb' ha' z))
  rw [swp_swp ha hb] at this
  exact this.symm
/-- by who is in whose round alone -/
theorem cycles_same {l m : List Nat} (hl : l.length = m.length) (h : ∀ i j, i < l.length → j < l.length → (j ∈ orb l i ↔ j ∈ orb m i)) : (cycles l).length = (cycles m).length := by
  rw [cycles_len, cycles_len, hl]
  congr 1
  apply List.filter_congr
  intro i hi
  have hi := List.mem_range.mp hi
  cases h1 : lead m i with
  | true => exact lead_iff.mpr fun j hj hm => lead_iff.mp h1 j hj ((h j i (by omega) (by omega)).mp hm)
  | false =>
    cases h2 : lead l i with
    | false => rfl
    | true =>
      have : lead m i = true := lead_iff.mpr fun j hj hm => lead_iff.mp h2 j hj ((h j i (by omega) (by omega)).mpr hm)
      rw [h1] at this
      cases this
end
end Kw
set_option Elab.async false
set_option linter.all false
set_option maxRecDepth 100000
set_option maxHeartbeats 4000000
namespace Kw
/-! ### rows of exchanges -/
abbrev Row := List (Nat × Nat)
def bh (lay : List Nat) (row : Row) : List Nat := row.foldl (fun l p => swp l p.1 p.2) lay
def OkRow (n : Nat) (row : Row) : Prop := ∀ p ∈ row, p.1 < p.2 ∧ p.2 < n
abbrev cnt (lay : List Nat) : Nat := (cycles lay).length
section
variable {lay p o l r : List Nat} {a b i j n x y : Nat} {row : Row}
theorem bh_cons (lay : List Nat) (q : Nat × Nat) (row : Row) : bh lay (q :: row) = bh (swp lay q.1 q.2) row := rfl
theorem bh_app (lay : List Nat) (row : Row) (q : Nat × Nat) : bh lay (row ++ [q]) = swp (bh lay row) q.1 q.2 := by
  unfold bh
  rw [List.foldl_append]
  rfl
theorem bh_len : ∀ (row : Row) (lay : List Nat), (bh lay row).length = lay.length
  | [], _ => rfl
  | q :: row, lay => by rw [bh_cons, bh_len row, swp_len]
theorem OkRow.tail {q : Nat × Nat} (h : OkRow n (q :: row)) : OkRow n row := fun p hp => h p (List.mem_cons_of_mem _ hp)
theorem IsLay.bh : ∀ {row : Row} {lay : List Nat}, IsLay lay → OkRow lay.length row → IsLay (bh lay row)
  | [], _, h, _ => h
  | q :: row, lay, h, ho => by
    obtain ⟨h1, h2⟩ := ho q (List.mem_cons_self ..)
    rw [bh_cons]
    exact IsLay.bh (h.swp (by omega) h2) (by rw [swp_len]; exact ho.tail)
theorem IsLay.step (h : IsLay lay) (ha : a < lay.length) (hb : b < lay.length) (hne : a ≠ b) : cnt (Kw.swp lay a b) = cnt lay + 1 ∨ cnt (Kw.swp lay a b) + 1 = cnt lay := by
  by_cases z : b ∈ orb lay a
  · exact .inl (h.one_more ha hb hne z)
  · exact .inr (h.one_less ha hb fun y => z (h.orb_symm hb ha y))
theorem IsLay.cnt_row : ∀ {row : Row} {lay : List Nat}, IsLay lay → OkRow lay.length row → cnt lay ≤ cnt (Kw.bh lay row) + row.length ∧ (cnt (Kw.bh lay row) + row.length + cnt lay) % 2 = 0
  | [], lay, _, _ => by
    show cnt lay ≤ cnt lay + 0 ∧ (cnt lay + 0 + cnt lay) % 2 = 0
    omega
  | q :: row, lay, h, ho => by
    obtain ⟨h1, h2⟩ := ho q (List.mem_cons_self ..)
    have ih := IsLay.cnt_row (row := row) (h.swp (show q.1 < lay.length by omega) h2) (by rw [swp_len]; exact ho.tail)
    have st := h.step (show q.1 < lay.length by omega) h2 (by omega)
    rw [bh_cons, List.length_cons]
    rcases st with st | st <;> omega
theorem cnt_le (lay : List Nat) : cnt lay ≤ lay.length := by
  unfold cnt
  rw [cycles_len]
  have := List.length_filter_le (lead lay) (List.range lay.length)
  rw [List.length_range] at this
  exact this
/-! ### one laying seen from another -/
def IsLed (p o l : List Nat) : Prop := l.length = p.length ∧ ∀ i, i < p.length → nx l i < p.length ∧ nx p (nx l i) = nx o i
theorem led_lay (ho : IsLay o) (hl : o.length = p.length) (h : IsLed p o l) : IsLay l := by
  refine lay_of_inj (fun i hi => ?_) (fun i j hi hj e => ?_)
  · rw [h.1] at hi ⊢
    exact (h.2 i hi).1
  · rw [h.1] at hi hj
    have h1 := (h.2 i hi).2
    have h2 := (h.2 j hj).2
    rw [e, h2] at h1
    exact ho.inj (by omega) (by omega) h1.symm
theorem ext_nx {l m : List Nat} (hl : l.length = m.length) (h : ∀ i, i < l.length → nx l i = nx m i) : l = m := by
  apply List.ext_getElem?
  intro i
  by_cases hi : i < l.length
  · rw [nx_get hi, nx_get (by omega), h i hi]
  · rw [List.getElem?_eq_none (by omega), List.getElem?_eq_none (by omega)]
theorem led_uniq {m : List Nat} (hp : IsLay p) (h1 : IsLed p o l) (h2 : IsLed p o m) : l = m := ext_nx (by rw [h1.1, h2.1]) fun i hi => by
  rw [h1.1] at hi
  exact hp.inj (h1.2 i hi).1 (h2.2 i hi).1 ((h1.2 i hi).2.trans (h2.2 i hi).2.symm)
theorem led_swp (hl : o.length = p.length) (h : IsLed p o l) (ha : a < p.length) (hb : b < p.length) : IsLed p (swp o a b) (swp l a b) := by
  refine ⟨by rw [swp_len]; exact h.1, fun i hi => ?_⟩
  rw [nx_swp (by rw [h.1]; exact ha) (by rw [h.1]; exact hb), nx_swp (by omega) (by omega)]
  by_cases e1 : i = b
  · rw [if_pos e1, if_pos e1]
    exact h.2 a ha
  · rw [if_neg e1, if_neg e1]
    by_cases e2 : i = a
    · rw [if_pos e2, if_pos e2]
      exact h.2 b hb
    · rw [if_neg e2, if_neg e2]
      exact h.2 i hi
theorem nx_range (h : i < n) : nx (List.range n) i = i := by
  unfold nx
  rw [List.getD_eq_getElem?_getD, List.getElem?_range h]
  rfl
theorem led_id (p : List Nat) : IsLed p p (List.range p.length) := ⟨List.length_range, fun i hi => by rw [nx_range hi]; exact ⟨hi, rfl⟩⟩
theorem lay_id (n : Nat) : IsLay (List.range n) := by
  show (List.range n).Perm (List.range (List.range n).length)
  rw [List.length_range]
theorem it_range (h : i < n) : ∀ k, it (List.range n) k i = i
  | 0 => rfl
  | k + 1 => by show nx (List.range n) (it (List.range n) k i) = i; rw [it_range h k, nx_range h]
theorem cnt_id (n : Nat) : cnt (List.range n) = n := by
  unfold cnt
  rw [cycles_len, List.length_range]
  rw [List.filter_eq_self.mpr, List.length_range]
  intro i hi
  have hi := List.mem_range.mp hi
  refine lead_iff.mpr fun j hj hm => ?_
  obtain ⟨k, hk⟩ := ((lay_id n).mem_orb (by rw [List.length_range]; omega)).mp hm
  rw [it_range (by omega)] at hk
  omega
theorem led_inv (hp : IsLay p) (ho : IsLay o) (hl : o.length = p.length) (h1 : IsLed p o l) (h2 : IsLed o p r) : cnt l = cnt r := by
  have ll := led_lay ho hl h1
  have lr := led_lay hp hl.symm h2
  have e1 : ∀ i, i < p.length → nx r (nx l i) = i := fun i hi => by
    have a1 := h1.2 i hi
    have a2 := h2.2 (nx l i) (by rw [hl]; exact a1.1)
    exact ho.inj a2.1 (by omega) (a2.2.trans a1.2)
  have e2 : ∀ k i, i < p.length → it r k (it l k i) = i := by
    intro k
    induction k with
    | zero => intro i _; rfl
    | succ k ih =>
      intro i hi
      have hk : it l k i < p.length := by
        have := ll.it_lt (by rw [h1.1]; exact hi) k
        rw [h1.1] at this
        exact this
      show it r (k + 1) (nx l (it l k i)) = i
      have : ∀ (k : Nat) (x : Nat), it r (k + 1) x = it r k (nx r x) := fun k x => by
        rw [it_add r k 1 x]
        rfl
      rw [this, e1 _ hk]
      exact ih i hi
  refine cycles_same (by rw [h1.1, h2.1, hl]) fun i j hi hj => ?_
  have hi' : i < p.length := by rw [h1.1] at hi; exact hi
  have hj' : j < p.length := by rw [h1.1] at hj; exact hj
  have hir : i < r.length := by rw [h2.1, hl]; exact hi'
  have hjr : j < r.length := by rw [h2.1, hl]; exact hj'
  -- the same by half
  have half : ∀ a b, a < p.length → b < p.length → b ∈ orb l a → b ∈ orb r a := fun a b ha hb hm => by
    obtain ⟨k, rfl⟩ := (ll.mem_orb (by rw [h1.1]; exact ha)).mp hm
    refine lr.orb_symm (by rw [h2.1, hl]; exact hb) (by rw [h2.1, hl]; exact ha) ?_
    exact (lr.mem_orb (by rw [h2.1, hl]; exact hb)).mpr ⟨k, (e2 k a ha).symm⟩
  refine ⟨half i j hi' hj', fun hm => ?_⟩
  obtain ⟨k, hk⟩ := (lr.mem_orb hir).mp hm
  -- j = r^k i, so l^k j = i by the inverse
  have e3 : ∀ i, i < p.length → nx l (nx r i) = i := fun i hi => by
    have a1 := h2.2 i (by omega)
    have a2 := h1.2 (nx r i) (by omega)
    exact hp.inj a2.1 hi (a2.2.trans a1.2)
  have e4 : ∀ k i, i < p.length → it l k (it r k i) = i := by
    intro k
    induction k with
    | zero => intro i _; rfl
    | succ k ih =>
      intro i hi
      have hk : it r k i < p.length := by
        have := lr.it_lt (by rw [h2.1, hl]; exact hi) k
        rw [h2.1, hl] at this
        exact this
      show it l (k + 1) (nx r (it r k i)) = i
      have : ∀ (k : Nat) (x : Nat), it l (k + 1) x = it l k (nx l x) := fun k x => by
        rw [it_add l k 1 x]
        rfl
      rw [this, e3 _ hk]
      exact ih i hi
  refine ll.orb_symm hj hi ((ll.mem_orb hj).mpr ⟨k, ?_⟩)
  rw [hk, e4 k i hi']
theorem led_bh (hp : IsLay p) : ∀ {row : Row} {o l : List Nat}, o.length = p.length → IsLed p o l → OkRow p.length row → IsLed p (bh o row) (bh l row)
  | [], _, _, _, h, _ => h
  | q :: row, o, l, hl, h, ho => by
    obtain ⟨h1, h2⟩ := ho q (List.mem_cons_self ..)
    rw [bh_cons, bh_cons]
    exact led_bh hp (by rw [swp_len]; exact hl) (led_swp hl h (by omega) h2) ho.tail
/-- a drawn row is no shorter -/
theorem led_drawn (hp : IsLay p) (ho : OkRow p.length row) (h : IsLed p (bh p row) l) : p.length ≤ cnt l + row.length ∧ (cnt l + row.length + p.length) % 2 = 0 := by
  have e := led_uniq hp h (led_bh hp rfl (led_id p) ho)
  have := IsLay.cnt_row (row := row) (lay_id p.length) (by rw [List.length_range]; exact ho)
  rw [cnt_id] at this
  rw [e]
  exact this
/-! ### the row to another laying -/
def ledOf (p o : List Nat) : List Nat := o.map fun v => p.idxOf v
theorem ledOf_led (hp : IsLay p) (ho : IsLay o) (hl : o.length = p.length) : IsLed p o (ledOf p o) := by
  refine ⟨by unfold ledOf; rw [List.length_map, hl], fun i hi => ?_⟩
  have hi' : i < o.length := by omega
  have e : nx (ledOf p o) i = p.idxOf (nx o i) := by
    unfold nx ledOf
    rw [List.getD_eq_getElem?_getD, List.getElem?_map, List.getD_eq_getElem?_getD, List.getElem?_eq_getElem hi']
    rfl
  have hm : nx o i ∈ p := by
    have := ho.lt hi'
    exact hp.mem_iff.mpr (List.mem_range.mpr (by omega))
  have hlt := List.idxOf_lt_length_iff.mpr hm
  rw [e]
  refine ⟨hlt, ?_⟩
  have h1 := nx_get hlt
  rw [List.getElem?_eq_getElem hlt, List.getElem_idxOf] at h1
  exact (Option.some.inj h1).symm
structure RT (lay o : List Nat) (i : Nat) (keys : List Nat) (row : Row) : Prop where
  isl : IsLay keys
  len : keys.length = lay.length
  beh : keys = Kw.bh lay row
  upto : ∀ j, j < i → j < lay.length → nx keys j = nx o j
  ok : OkRow lay.length row
  few : row.length ≤ i
  num : ∃ l, IsLed o keys l ∧ cnt l = cnt (ledOf o lay) + row.length
theorem RT.start (hp : IsLay lay) (ho : IsLay o) (hl : o.length = lay.length) : RT lay o 0 lay [] := ⟨hp, rfl, rfl, fun j hj => absurd hj (Nat.not_lt_zero _), fun p hp => (by cases hp), Nat.le_refl _, ledOf o lay, ledOf_led ho hp hl.symm, rfl⟩
theorem RT.stay {keys : List Nat} (h : RT lay o i keys row) (he : nx keys i = nx o i) : RT lay o (i + 1) keys row := ⟨h.isl, h.len, h.beh, fun j hj hn => by
  by_cases e : j = i
  · rw [e]; exact he
  · exact h.upto j (by omega) hn, h.ok, by have := h.few; omega, h.num⟩
theorem RT.gt {keys : List Nat} (ho : IsLay o) (hl : o.length = lay.length) (h : RT lay o i keys row) (hi : i < lay.length) (hx : x < lay.length) (he : nx keys x = nx o i) (hne : x ≠ i) : i < x := by
  rcases Nat.lt_trichotomy i x with z | z | z
  · exact z
  · exact absurd z.symm hne
  · have := h.upto x z hx
    rw [he] at this
    exact absurd (ho.inj (by omega) (by omega) this).symm hne
theorem RT.go {keys : List Nat} (ho : IsLay o) (hl : o.length = lay.length) (h : RT lay o i keys row) (hi : i < lay.length) (hx : x < lay.length) (he : nx keys x = nx o i) (hne : x ≠ i) : RT lay o (i + 1) (swp keys i x) (row ++ [(i, x)]) := by
  have hgt := h.gt ho hl hi hx he hne
  have hik : i < keys.length := by rw [h.len]; exact hi
  have hxk : x < keys.length := by rw [h.len]; exact hx
  obtain ⟨l, l1, l2⟩ := h.num
  have ll := led_lay h.isl (by rw [h.len, hl]) l1
  have hil : i < l.length := by rw [l1.1, hl]; exact hi
  have hxl : x < l.length := by rw [l1.1, hl]; exact hx
  have lx := l1.2 x (by omega)
  have e : nx l x = i := ho.inj lx.1 (by omega) (lx.2.trans he)
  refine ⟨h.isl.swp hik hxk, by rw [swp_len, h.len], by rw [bh_app, ← h.beh], fun j hj hn => ?_, fun p hp => ?_, ?_, swp l i x, ?_, ?_⟩
  · rw [nx_swp hik hxk]
    by_cases e1 : j = i
    · rw [if_neg (by omega), if_pos e1, he, e1]
    · rw [if_neg (by omega), if_neg e1]
      exact h.upto j (by omega) hn
  · rcases List.mem_append.mp hp with hp | hp
    · exact h.ok p hp
    · rw [List.mem_singleton.mp hp]
      exact ⟨hgt, hx⟩
  · rw [List.length_append, List.length_singleton]
    have := h.few
    omega
  · exact led_swp (by rw [h.len, hl]) l1 (by omega) (by omega)
  · have hm : i ∈ orb l x := (ll.mem_orb hxl).mpr ⟨1, e.symm⟩
    have := ll.one_more hil hxl (Ne.symm hne) (ll.orb_symm hxl hil hm)
    show cnt (swp l i x) = _
    rw [List.length_append, List.length_singleton]
    unfold cnt at *
    omega
theorem RT.done {keys : List Nat} (ho : IsLay o) (hl : o.length = lay.length) (h : RT lay o lay.length keys row) : bh lay row = o ∧ row.length + cnt (ledOf o lay) = lay.length := by
  have e : keys = o := ext_nx (by rw [h.len, hl]) fun i hi => h.upto i (by rw [h.len] at hi; exact hi) (by rw [h.len] at hi; exact hi)
  refine ⟨by rw [← h.beh, e], ?_⟩
  obtain ⟨l, l1, l2⟩ := h.num
  rw [e] at l1
  have := led_uniq ho l1 (led_id o)
  rw [this, cnt_id] at l2
  omega
/-! ### rows to so many rounds: joins -/
theorem join_cnt : ∀ {bs : List Nat} {lay : List Nat} {r : Nat}, IsLay lay → (∀ x ∈ r :: bs, x < lay.length) → (r :: bs).Pairwise (fun x y => x ∉ orb lay y) → cnt (bh lay (bs.map fun b => (r, b))) + bs.length = cnt lay
  | [], lay, r, _, _, _ => rfl
  | b :: bs, lay, r, h, hlt, hp => by
    have hr := hlt r (List.mem_cons_self ..)
    have hb := hlt b (List.mem_cons_of_mem _ (List.mem_cons_self ..))
    have hp1 := List.pairwise_cons.mp hp
    have hp2 := List.pairwise_cons.mp hp1.2
    have hrb := hp1.1 b (List.mem_cons_self ..)
    have one := h.one_less hr hb hrb
    have ih := join_cnt (bs := bs) (lay := swp lay r b) (r := r) (h.swp hr hb) (fun x hx => by
      rw [swp_len]
      rcases List.mem_cons.mp hx with rfl | hx
      · exact hr
      · exact hlt x (List.mem_cons_of_mem _ (List.mem_cons_of_mem _ hx))) (by
      have far : ∀ y, y ∈ bs → ¬ (y ∈ orb lay r ∨ y ∈ orb lay b) := fun y hy z => by
        have hyl := hlt y (List.mem_cons_of_mem _ (List.mem_cons_of_mem _ hy))
        rcases z with z | z
        · exact hp1.1 y (List.mem_cons_of_mem _ hy) (h.orb_symm hr hyl z)
        · exact hp2.1 y hy (h.orb_symm hb hyl z)
      have keep : ∀ x y, y ∈ bs → x ∉ orb lay y → x ∉ orb (swp lay r b) y := fun x y hy hn z => by
        have hyl := hlt y (List.mem_cons_of_mem _ (List.mem_cons_of_mem _ hy))
        rcases (h.merge hr hb hrb hyl).mp z with z | ⟨z, _⟩
        · exact hn z
        · exact far y hy z
      refine List.pairwise_cons.mpr ⟨fun y hy => keep r y hy (hp1.1 y (List.mem_cons_of_mem _ hy)), ?_⟩
      exact List.Pairwise.imp_of_mem (fun {x y} _ hy hn => keep x y hy hn) hp2.2)
    rw [List.map_cons, bh_cons, List.length_cons]
    show cnt (bh (swp lay r b) (bs.map fun b => (r, b))) + (bs.length + 1) = cnt lay
    unfold cnt at *
    omega
/-! ### splits -/
def chn (lay : List Nat) : Nat → List Nat → Prop
  | _, [] => True
  | x, y :: r => nx lay x = y ∧ chn lay y r
theorem chn_far (ha : a < lay.length) (hb : b < lay.length) : ∀ {xs : List Nat} {x : Nat}, (∀ y ∈ x :: xs, y ≠ a ∧ y ≠ b) → chn lay x xs → chn (swp lay a b) x xs
  | [], _, _, _ => trivial
  | y :: r, x, hn, hc => by
    have := hn x (List.mem_cons_self ..)
    refine ⟨?_, chn_far ha hb (fun z hz => hn z (List.mem_cons_of_mem _ hz)) hc.2⟩
    rw [nx_swp ha hb, if_neg this.2, if_neg this.1]
    exact hc.1
theorem chn_next (ha : a < lay.length) (hb : b < lay.length) {xs : List Nat} (nd : (a :: b :: xs).Nodup) (hc : chn lay a (b :: xs)) : chn (swp lay a b) a xs := by
  match xs, nd, hc with
  | [], _, _ => trivial
  | y :: r, nd, hc =>
    have n1 := List.nodup_cons.mp nd
    have n2 := List.nodup_cons.mp n1.2
    refine ⟨?_, chn_far (x := y) (xs := r) ha hb (fun z hz => ⟨fun e => n1.1 (e ▸ List.mem_cons_of_mem _ hz), fun e => n2.1 (e ▸ hz)⟩) hc.2.2⟩
    rw [nx_swp ha hb, if_neg (fun e : a = b => n1.1 (e ▸ List.mem_cons_self ..)), if_pos rfl]
    exact hc.2.1
abbrev Chs := List (Nat × List Nat)
def flatC (cs : Chs) : List Nat := cs.flatMap fun c => c.1 :: c.2
def pairsC (cs : Chs) : Row := cs.flatMap fun c => c.2.map fun y => (c.1, y)
theorem split_cnt {lay : List Nat} {cs : Chs} {k : Nat} (h : IsLay lay) (hlt : ∀ x ∈ flatC cs, x < lay.length) (nd : (flatC cs).Nodup) (hc : ∀ c ∈ cs, chn lay c.1 c.2) (hk : k ≤ (pairsC cs).length) : cnt (bh lay ((pairsC cs).take k)) = cnt lay + k := by
  match k, cs with
  | 0, cs => rw [List.take_zero]; rfl
  | k + 1, [] => exact absurd hk (by show ¬ k + 1 ≤ 0; omega)
  | k + 1, (x, []) :: t =>
    have e : pairsC ((x, []) :: t) = pairsC t := rfl
    rw [e] at hk ⊢
    exact split_cnt h (fun y hy => hlt y (List.mem_cons_of_mem _ hy)) (List.nodup_cons.mp nd).2 (fun c hc' => hc c (List.mem_cons_of_mem _ hc')) hk
  | k + 1, (x, y :: r) :: t =>
    have e : pairsC ((x, y :: r) :: t) = (x, y) :: pairsC ((x, r) :: t) := rfl
    have ef : flatC ((x, y :: r) :: t) = x :: y :: (r ++ flatC t) := rfl
    have ef' : flatC ((x, r) :: t) = x :: (r ++ flatC t) := rfl
    rw [e] at hk ⊢
    rw [ef] at hlt nd
    have hx := hlt x (List.mem_cons_self ..)
    have hy := hlt y (List.mem_cons_of_mem _ (List.mem_cons_self ..))
    have n1 := List.nodup_cons.mp nd
    have n2 := List.nodup_cons.mp n1.2
    have hxy : x ≠ y := fun z => n1.1 (z ▸ List.mem_cons_self ..)
    have hc0 := hc (x, y :: r) (List.mem_cons_self ..)
    have hm : y ∈ orb lay x := (h.mem_orb hx).mpr ⟨1, hc0.1.symm⟩
    have one := h.one_more hx hy hxy hm
    have ih := split_cnt (lay := swp lay x y) (cs := (x, r) :: t) (k := k) (h.swp hx hy) (fun z hz => by
      rw [swp_len]
      rw [ef'] at hz
      rcases List.mem_cons.mp hz with rfl | hz
      · exact hx
      · exact hlt z (List.mem_cons_of_mem _ (List.mem_cons_of_mem _ hz))) (by
      rw [ef']
      exact List.nodup_cons.mpr ⟨fun z => n1.1 (List.mem_cons_of_mem _ z), n2.2⟩) (fun c hc' => by
      rcases List.mem_cons.mp hc' with rfl | hc'
      · refine chn_next hx hy ?_ hc0
        have : (x :: y :: r).Sublist (x :: y :: (r ++ flatC t)) := ((List.sublist_append_left r (flatC t)).cons_cons y).cons_cons x
        exact this.nodup nd
      · have hin : ∀ z, z ∈ c.1 :: c.2 → z ∈ flatC t := fun z hz => List.mem_flatMap.mpr ⟨c, hc', hz⟩
        refine chn_far hx hy (fun z hz => ⟨fun e => ?_, fun e => ?_⟩) (hc c (List.mem_cons_of_mem _ hc'))
        · exact n1.1 (e ▸ List.mem_cons_of_mem _ (List.mem_append.mpr (.inr (hin z hz))))
        · exact n2.1 (e ▸ List.mem_append.mpr (.inr (hin z hz)))) (by rw [List.length_cons] at hk; omega)
    rw [List.take_succ_cons, bh_cons]
    show cnt (bh (swp lay x y) ((pairsC ((x, r) :: t)).take k)) = cnt lay + (k + 1)
    unfold cnt at *
    omega
termination_by (cs.map fun c => c.2.length + 1).sum
decreasing_by all_goals (simp only [List.map_cons, List.sum_cons, List.length_cons, List.length_nil]; omega)
end
end Kw
set_option Elab.async false
set_option linter.all false
set_option maxRecDepth 100000
set_option maxHeartbeats 4000000
namespace Kw
/-! ### the rounds, one by one -/
def leads (lay : List Nat) : List Nat := (List.range lay.length).filter (lead lay)
def tlo (lay : List Nat) (i : Nat) : List Nat := (List.range (per lay i - 1)).map fun k => it lay (k + 1) i
def chs (lay : List Nat) : Chs := (leads lay).map fun i => (i, tlo lay i)
section
variable {lay : List Nat} {i j k n x y : Nat}
theorem cycles_leads (lay : List Nat) : cycles lay = (leads lay).map (orb lay) := rfl
theorem cnt_leads (lay : List Nat) : cnt lay = (leads lay).length := by
  unfold cnt
  rw [cycles_leads, List.length_map]
theorem orb_cons (lay : List Nat) (i : Nat) : orb lay i = i :: tlo lay i := by
  unfold orb tlo
  have : per lay i = (per lay i - 1) + 1 := by unfold per; omega
  rw [this, List.range_succ_eq_map, List.map_cons, List.map_map, Nat.add_sub_cancel]
  rfl
theorem mem_leads : i ∈ leads lay ↔ i < lay.length ∧ lead lay i = true := by
  unfold leads
  rw [List.mem_filter, List.mem_range]
theorem leads_lt (lay : List Nat) : (leads lay).Pairwise (· < ·) := List.Pairwise.filter _ List.pairwise_lt_range
theorem IsLay.leads_far (h : IsLay lay) : (leads lay).Pairwise (fun x y => x ∉ orb lay y) := by
  refine List.Pairwise.imp_of_mem (fun {x y} hx hy hlt hm => ?_) (leads_lt lay)
  have hx := mem_leads.mp hx
  have hy := mem_leads.mp hy
  have := h.lead_uniq hx.1 hy.1 hx.2 hy.2 hm
  omega
theorem leads_zero (h : 1 ≤ lay.length) : ∃ bs, leads lay = 0 :: bs := by
  unfold leads
  obtain ⟨m, hm⟩ : ∃ m, lay.length = m + 1 := ⟨lay.length - 1, by omega⟩
  rw [hm, List.range_succ_eq_map, List.filter_cons, if_pos (lead_iff.mpr fun j hj => absurd hj (Nat.not_lt_zero _))]
  exact ⟨_, rfl⟩
def joinRow (lay : List Nat) : Row := (leads lay).tail.map fun b => (0, b)
theorem joinRow_len (lay : List Nat) : (joinRow lay).length = cnt lay - 1 := by
  unfold joinRow
  rw [List.length_map, List.length_tail, cnt_leads]
theorem IsLay.join_ok (h : IsLay lay) (h1 : 1 ≤ lay.length) (hk : k ≤ cnt lay - 1) : OkRow lay.length ((joinRow lay).take k) ∧ ((joinRow lay).take k).length = k ∧ cnt (Kw.bh lay ((joinRow lay).take k)) + k = cnt lay := by
  obtain ⟨bs, hbs⟩ := leads_zero h1
  have hc := cnt_leads lay
  have hlt := leads_lt lay
  have far := h.leads_far
  have hm : ∀ x ∈ 0 :: bs, x < lay.length := fun x hx => (mem_leads.mp (hbs ▸ hx)).1
  rw [hbs] at hc hlt far
  have e : joinRow lay = bs.map fun b => (0, b) := by
    unfold joinRow
    rw [hbs]
    rfl
  rw [List.length_cons] at hc
  have hkl : (bs.take k).length = k := by rw [List.length_take]; omega
  rw [e, ← List.map_take]
  refine ⟨fun p hp => ?_, by rw [List.length_map, hkl], ?_⟩
  · obtain ⟨b, hb, rfl⟩ := List.mem_map.mp hp
    have hb := List.mem_of_mem_take hb
    exact ⟨(List.pairwise_cons.mp hlt).1 b hb, hm b (List.mem_cons_of_mem _ hb)⟩
  · have := join_cnt (bs := bs.take k) (lay := lay) (r := 0) h (fun x hx => by
      rcases List.mem_cons.mp hx with rfl | hx
      · exact hm _ (List.mem_cons_self ..)
      · exact hm x (List.mem_cons_of_mem _ (List.mem_of_mem_take hx))) (far.sublist ((List.take_sublist k bs).cons_cons 0))
    rw [hkl] at this
    exact this
def splitRow (lay : List Nat) : Row := pairsC (chs lay)
theorem flat_chs (lay : List Nat) : flatC (chs lay) = (leads lay).flatMap (orb lay) := by
  unfold flatC chs
  rw [List.flatMap_map]
  congr 1
  funext i
  exact (orb_cons lay i).symm
theorem IsLay.flat_nodup (h : IsLay lay) : ((leads lay).flatMap (orb lay)).Nodup := by
  rw [List.nodup_iff_pairwise_ne, List.pairwise_flatMap]
  refine ⟨fun i hi => List.nodup_iff_pairwise_ne.mp (h.orb_nodup (mem_leads.mp hi).1), ?_⟩
  refine List.Pairwise.imp_of_mem (fun {a b} ha hb hf x hx y hy e => ?_) h.leads_far
  have ha := (mem_leads.mp ha).1
  have hb := (mem_leads.mp hb).1
  subst e
  exact hf (h.orb_trans hb (h.orb_lt ha hx) hy (h.orb_symm ha (h.orb_lt ha hx) hx))
theorem IsLay.mem_flat (h : IsLay lay) : x ∈ (leads lay).flatMap (orb lay) ↔ x < lay.length := by
  rw [List.mem_flatMap]
  constructor
  · rintro ⟨i, hi, hx⟩
    exact h.orb_lt (mem_leads.mp hi).1 hx
  · intro hx
    obtain ⟨l, l1, l2, l3, l4⟩ := h.least x x (Nat.le_refl _) hx
    exact ⟨l, mem_leads.mpr ⟨l4, l3⟩, h.orb_symm hx l4 l1⟩
theorem IsLay.flat_len (h : IsLay lay) : ((leads lay).flatMap (orb lay)).length = lay.length := by
  have := ((List.perm_ext_iff_of_nodup h.flat_nodup List.nodup_range).mpr fun x => by rw [h.mem_flat, List.mem_range]).length_eq
  rw [List.length_range] at this
  exact this
theorem pairs_len : ∀ cs : Chs, (pairsC cs).length + cs.length = (flatC cs).length
  | [] => rfl
  | c :: cs => by
    have ih := pairs_len cs
    show ((c.2.map fun y => (c.1, y)) ++ pairsC cs).length + (cs.length + 1) = ((c.1 :: c.2) ++ flatC cs).length
    rw [List.length_append, List.length_append, List.length_map, List.length_cons]
    omega
theorem IsLay.splitRow_len (h : IsLay lay) : (splitRow lay).length = lay.length - cnt lay := by
  have := pairs_len (chs lay)
  rw [flat_chs, h.flat_len] at this
  have e : (chs lay).length = cnt lay := by
    unfold chs
    rw [List.length_map, cnt_leads]
  unfold splitRow
  omega
theorem chn_it (lay : List Nat) (i : Nat) : ∀ (n m : Nat), chn lay (it lay m i) ((List.range n).map fun k => it lay (m + k + 1) i)
  | 0, _ => trivial
  | n + 1, m => by
    rw [List.range_succ_eq_map, List.map_cons, List.map_map]
    refine ⟨rfl, ?_⟩
    have := chn_it lay i n (m + 1)
    have e : ((List.range n).map fun k => it lay (m + 1 + k + 1) i) = (List.range n).map ((fun k => it lay (m + k + 1) i) ∘ Nat.succ) := by
      apply List.map_congr_left
      intro k _
      show it lay (m + 1 + k + 1) i = it lay (m + (k + 1) + 1) i
      rw [show m + 1 + k + 1 = m + (k + 1) + 1 by omega]
    rw [← e]
    exact this
theorem chn_tlo (lay : List Nat) (i : Nat) : chn lay i (tlo lay i) := by
  have := chn_it lay i (per lay i - 1) 0
  have e : ((List.range (per lay i - 1)).map fun k => it lay (0 + k + 1) i) = tlo lay i := by
    unfold tlo
    apply List.map_congr_left
    intro k _
    rw [Nat.zero_add]
  rw [e] at this
  exact this
theorem IsLay.split_ok (h : IsLay lay) (hk : k ≤ lay.length - cnt lay) : OkRow lay.length ((splitRow lay).take k) ∧ ((splitRow lay).take k).length = k ∧ cnt (Kw.bh lay ((splitRow lay).take k)) = cnt lay + k := by
  have hlen := h.splitRow_len
  refine ⟨fun p hp => ?_, by rw [List.length_take]; omega, ?_⟩
  · have hp := List.mem_of_mem_take hp
    obtain ⟨c, hc, hpc⟩ := List.mem_flatMap.mp hp
    obtain ⟨i, hi, rfl⟩ := List.mem_map.mp hc
    obtain ⟨y, hy, rfl⟩ := List.mem_map.mp hpc
    have hi := mem_leads.mp hi
    have ho : y ∈ orb lay i := by rw [orb_cons]; exact List.mem_cons_of_mem _ hy
    have hyl := h.orb_lt hi.1 ho
    refine ⟨?_, hyl⟩
    show i < y
    have nd := h.orb_nodup hi.1
    rw [orb_cons] at nd
    have hne : i ≠ y := fun e => (List.nodup_cons.mp nd).1 (e ▸ hy)
    rcases Nat.lt_trichotomy i y with z | z | z
    · exact z
    · exact absurd z hne
    · exact absurd (h.orb_symm hi.1 hyl ho) (lead_iff.mp hi.2 y z)
  · exact split_cnt h (fun x hx => by rw [flat_chs] at hx; exact h.mem_flat.mp hx) (by rw [flat_chs]; exact h.flat_nodup) (fun c hc => by
      obtain ⟨i, _, rfl⟩ := List.mem_map.mp hc
      exact chn_tlo lay i) (by show k ≤ (splitRow lay).length; omega)
end
end Kw
set_option Elab.async false
set_option linter.all false
set_option maxRecDepth 100000
set_option maxHeartbeats 1000000
namespace Kw
open PySem
/-! ### all layings, and how many of a sort -/
def ext9 (m : Nat) (row : List Nat) : List (List Nat) := ((List.range m).filter fun x => !decide (x ∈ row)).map fun x => row ++ [x]
def allS (m : Nat) : Nat → List (List Nat)
  | 0 => [[]]
  | t + 1 => (allS m t).flatMap (ext9 m)
def desc9 (m : Nat) : Nat → List Nat → List (List Nat)
  | 0, row => [row]
  | t + 1, row => (ext9 m row).flatMap (desc9 m t)
theorem desc_ext (m : Nat) : ∀ (t : Nat) (row : List Nat), (desc9 m t row).flatMap (ext9 m) = desc9 m (t + 1) row
  | 0, row => by
    show ([row].flatMap (ext9 m)) = (ext9 m row).flatMap fun r => [r]
    simp
  | t + 1, row => by
    show ((ext9 m row).flatMap (desc9 m t)).flatMap (ext9 m) = (ext9 m row).flatMap (desc9 m (t + 1))
    rw [List.flatMap_assoc]
    congr 1
    funext r
    exact desc_ext m t r
theorem allS_desc (m : Nat) : ∀ t, allS m t = desc9 m t []
  | 0 => rfl
  | t + 1 => by
    show (allS m t).flatMap (ext9 m) = _
    rw [allS_desc m t, desc_ext]
def tr9 (m : Nat) (p : List Nat → Bool) : Nat → List Nat → Nat
  | 0, row => if p row = true then 1 else 0
  | t + 1, row => ((ext9 m row).map (tr9 m p t)).sum
theorem tr_count (m : Nat) (p : List Nat → Bool) : ∀ (t : Nat) (row : List Nat), (desc9 m t row).countP p = tr9 m p t row
  | 0, row => by
    show [row].countP p = if p row = true then 1 else 0
    rw [List.countP_singleton]
  | t + 1, row => by
    show ((ext9 m row).flatMap (desc9 m t)).countP p = ((ext9 m row).map (tr9 m p t)).sum
    rw [List.countP_flatMap]
    congr 1
    exact List.map_congr_left fun r _ => tr_count m p t r
theorem allS_ok (m : Nat) : ∀ t, ∀ row ∈ allS m t, row.Nodup ∧ (∀ x ∈ row, x < m) ∧ row.length = t
  | 0, row, h => by
    rw [List.mem_singleton.mp h]
    exact ⟨List.nodup_nil, (fun x hx => by cases hx), rfl⟩
  | t + 1, row, h => by
    obtain ⟨r, hr, h⟩ := List.mem_flatMap.mp h
    obtain ⟨h1, h2, h3⟩ := allS_ok m t r hr
    obtain ⟨x, hx, rfl⟩ := List.mem_map.mp h
    obtain ⟨x1, x2⟩ := List.mem_filter.mp hx
    have hx : x ∉ r := fun z => by
      rw [decide_eq_true z] at x2
      cases x2
    refine ⟨List.nodup_append.mpr ⟨h1, List.nodup_cons.mpr ⟨(fun z => by cases z), List.nodup_nil⟩, fun a ha b hb e => ?_⟩, fun y hy => ?_, by rw [List.length_append, h3]; rfl⟩
    · rw [List.mem_singleton.mp hb] at e
      exact hx (e ▸ ha)
    · rcases List.mem_append.mp hy with z | z
      · exact h2 y z
      · rw [List.mem_singleton.mp z]
        exact List.mem_range.mp x1
theorem allS_lay {m : Nat} {row : List Nat} (h : row ∈ allS m m) : IsLay row ∧ row.length = m := by
  obtain ⟨h1, h2, h3⟩ := allS_ok m m row h
  refine ⟨?_, h3⟩
  show row.Perm (List.range row.length)
  exact perm_of_full h1 List.nodup_range (fun x hx => List.mem_range.mpr (by rw [h3]; exact h2 x hx)) (by rw [List.length_range]; exact Nat.le_refl _)
/-- a box that is the least of its round, quickly told: from it on none less till it comes again -/
def wk9 (l : List Nat) (i : Nat) : Nat → Nat → Bool
  | 0, _ => true
  | f + 1, x => Nat.beq x i || (Nat.ble i x && wk9 l i f (l.getD x 0))
def fl9 (l : List Nat) (i : Nat) : Bool := wk9 l i l.length (l.getD i 0)
theorem wk_yes {l : List Nat} {i : Nat} (h : ∀ k, i ≤ it l k i) : ∀ (f k : Nat), wk9 l i f (it l k i) = true
  | 0, _ => rfl
  | f + 1, k => by
    show (Nat.beq (it l k i) i || (Nat.ble i (it l k i) && wk9 l i f (l.getD (it l k i) 0))) = true
    have e : l.getD (it l k i) 0 = it l (k + 1) i := rfl
    rw [e, wk_yes h f (k + 1), Nat.ble_eq_true_of_le (h k)]
    simp
theorem wk_no {l : List Nat} {i m : Nat} (hm : it l m i < i) : ∀ (d k f : Nat), k + d = m → d < f → (∀ j, k ≤ j → j < m → i < it l j i) → wk9 l i f (it l k i) = false
  | d, k, 0, _, h, _ => by omega
  | 0, k, f + 1, hk, _, _ => by
    have : k = m := by omega
    subst this
    show (Nat.beq (it l k i) i || (Nat.ble i (it l k i) && _)) = false
    have h1 : Nat.beq (it l k i) i = false := by
      cases e : Nat.beq (it l k i) i with
      | false => rfl
      | true => have := Nat.eq_of_beq_eq_true e; omega
    have h2 : Nat.ble i (it l k i) = false := by
      cases e : Nat.ble i (it l k i) with
      | false => rfl
      | true => have := Nat.le_of_ble_eq_true e; omega
    rw [h1, h2]
    rfl
  | d + 1, k, f + 1, hk, hf, hb => by
    show (Nat.beq (it l k i) i || (Nat.ble i (it l k i) && wk9 l i f (l.getD (it l k i) 0))) = false
    have e : l.getD (it l k i) 0 = it l (k + 1) i := rfl
    have hlt := hb k (Nat.le_refl _) (by omega)
    have h1 : Nat.beq (it l k i) i = false := by
      cases e : Nat.beq (it l k i) i with
      | false => rfl
      | true => have := Nat.eq_of_beq_eq_true e; omega
    rw [e, h1, wk_no hm d (k + 1) f (by omega) (by omega) fun j a b => hb j (by omega) b]
    simp
theorem least_k {p : Nat → Prop} [DecidablePred p] : ∀ {n : Nat}, p n → ∃ m, m ≤ n ∧ p m ∧ ∀ j, j < m → ¬ p j
  | 0, h => ⟨0, Nat.le_refl _, h, fun j hj => by omega⟩
  | n + 1, h => by
    by_cases z : ∃ j, j ≤ n ∧ p j
    · obtain ⟨j, hj, hp⟩ := z
      obtain ⟨m, a, b, c⟩ := least_k hp
      exact ⟨m, by omega, b, c⟩
    · exact ⟨n + 1, Nat.le_refl _, h, fun j hj hp => z ⟨j, by omega, hp⟩⟩
termination_by n => n
theorem lay_fl9 {l : List Nat} (h : IsLay l) {i : Nat} (hi : i < l.length) : lead l i = fl9 l i := by
  have e1 : Kw.fl9 l i = wk9 l i l.length (it l 1 i) := rfl
  rw [e1]
  cases e : lead l i with
  | true =>
    rw [lead_iff] at e
    exact (wk_yes (fun k => Nat.le_of_not_lt fun y => e _ y (h.orb_symm hi (h.it_lt hi k) ((h.mem_orb hi).mpr ⟨k, rfl⟩))) _ _).symm
  | false =>
    have hex : ∃ k, k < per l i ∧ it l k i < i := Classical.byContradiction fun z => by
      have : lead l i = true := by
        rw [lead_iff]
        intro j hj hm
        have hm2 := h.orb_symm (by omega : j < l.length) hi hm
        unfold orb at hm2
        obtain ⟨k, hk, ek⟩ := List.mem_map.mp hm2
        exact z ⟨k, List.mem_range.mp hk, by omega⟩
      rw [this] at e
      cases e
    obtain ⟨k, hk, hlt⟩ := hex
    obtain ⟨m, m1, m2, m3⟩ := least_k (p := fun k => it l k i < i) hlt
    have hp := h.per hi
    have h0 : m ≠ 0 := fun z => by
      rw [z] at m2
      exact Nat.lt_irrefl _ m2
    refine (wk_no (l := l) (i := i) (m := m) m2 (m - 1) 1 l.length (by omega) (by omega) fun j a b => ?_).symm
    have n1 := m3 j b
    have n2 := hp.2.2.2 j a (by omega)
    omega
def fcnt (l : List Nat) : Nat := ((List.range l.length).filter (fl9 l)).length
theorem lay_fcnt {l : List Nat} (h : IsLay l) : cnt l = fcnt l := by
  rw [cnt_leads]
  unfold leads Kw.fcnt
  rw [List.filter_congr fun i hi => lay_fl9 h (List.mem_range.mp hi)]
end Kw
set_option Elab.async false
set_option linter.all false
set_option maxRecDepth 100000
set_option maxHeartbeats 1000000
namespace Kw
open PySem
/-! ### many counts in one sum -/
def B9 : Nat := 10000
def ds9 (c : Nat → Nat) : Nat → Nat
  | 0 => 0
  | n + 1 => ds9 c n + c n * B9 ^ n
theorem ds_lt {c : Nat → Nat} (h : ∀ k, c k < B9) : ∀ n, ds9 c n < B9 ^ n
  | 0 => by show 0 < B9 ^ 0; rw [Nat.pow_zero]; decide
  | n + 1 => by
    have h1 := ds_lt h n
    have h2 := h n
    show ds9 c n + c n * B9 ^ n < B9 ^ (n + 1)
    have h3 : (c n + 1) * B9 ^ n ≤ B9 * B9 ^ n := Nat.mul_le_mul_right _ h2
    rw [Nat.add_mul, Nat.one_mul] at h3
    rw [Nat.pow_succ, Nat.mul_comm (B9 ^ n) B9]
    omega
theorem ds_split (c : Nat → Nat) (j : Nat) : ∀ d, ∃ r, ds9 c (j + 1 + d) = ds9 c j + B9 ^ j * (c j + B9 * r)
  | 0 => ⟨0, by show ds9 c j + c j * B9 ^ j = _; rw [Nat.mul_zero, Nat.add_zero, Nat.mul_comm]⟩
  | d + 1 => by
    obtain ⟨r, hr⟩ := ds_split c j d
    refine ⟨r + c (j + 1 + d) * B9 ^ d, ?_⟩
    show ds9 c (j + 1 + d) + c (j + 1 + d) * B9 ^ (j + 1 + d) = _
    rw [hr, Nat.pow_add, Nat.pow_succ]
    simp only [Nat.mul_add, Nat.add_mul]
    rw [show c (j + 1 + d) * (B9 ^ j * B9 * B9 ^ d) = B9 ^ j * (B9 * (c (j + 1 + d) * B9 ^ d)) by
      rw [Nat.mul_left_comm B9 (c (j + 1 + d)) (B9 ^ d), Nat.mul_left_comm (B9 ^ j) (c (j + 1 + d)), ← Nat.mul_assoc (B9 ^ j) B9]]
    omega
theorem ds_get {c : Nat → Nat} (h : ∀ k, c k < B9) {j n : Nat} (hj : j < n) : ds9 c n / B9 ^ j % B9 = c j := by
  obtain ⟨r, hr⟩ := ds_split c j (n - (j + 1))
  rw [show j + 1 + (n - (j + 1)) = n by omega] at hr
  rw [hr, Nat.add_comm, Nat.mul_add_div (Nat.pow_pos (by decide)), Nat.div_eq_of_lt (ds_lt h j), Nat.add_zero, Nat.add_mul_mod_self_left, Nat.mod_eq_of_lt (h j)]
/-- the weight of one: B9 ^ k for each k < n of which P k -/
def wt9 (P : Nat → List Nat → Bool) (l : List Nat) : Nat → Nat
  | 0 => 0
  | n + 1 => wt9 P l n + (if P n l = true then 1 else 0) * B9 ^ n
theorem sum_wt (P : Nat → List Nat → Bool) (n : Nat) : ∀ L : List (List Nat), (L.map fun l => wt9 P l n).sum = ds9 (fun k => L.countP (P k)) n
  | [] => by
    induction n with
    | zero => rfl
    | succ n ih =>
      show _ = ds9 _ n + (List.countP (P n) []) * B9 ^ n
      rw [← ih]
      simp
  | l :: L => by
    rw [List.map_cons, List.sum_cons, sum_wt P n L]
    induction n with
    | zero => rfl
    | succ n ih =>
      show wt9 P l n + (if P n l = true then 1 else 0) * B9 ^ n + (ds9 _ n + L.countP (P n) * B9 ^ n) = ds9 _ n + (l :: L).countP (P n) * B9 ^ n
      rw [List.countP_cons, Nat.add_mul, ← ih]
      omega
def trW (m : Nat) (w : List Nat → Nat) : Nat → List Nat → Nat
  | 0, row => w row
  | t + 1, row => ((ext9 m row).map (trW m w t)).sum
theorem sum_flat {α : Type} (f : α → List Nat) : ∀ L : List α, (L.flatMap f).sum = (L.map fun a => (f a).sum).sum
  | [] => rfl
  | a :: L => by rw [List.flatMap_cons, List.sum_append, List.map_cons, List.sum_cons, sum_flat f L]
theorem trW_sum (m : Nat) (w : List Nat → Nat) : ∀ (t : Nat) (row : List Nat), ((desc9 m t row).map w).sum = trW m w t row
  | 0, row => by
    show ([row].map w).sum = w row
    simp
  | t + 1, row => by
    show (((ext9 m row).flatMap (desc9 m t)).map w).sum = ((ext9 m row).map (trW m w t)).sum
    rw [List.map_flatMap, sum_flat]
    congr 1
    exact List.map_congr_left fun r _ => trW_sum m w t r
/-- the counts from the sum -/
theorem count_of {m : Nat} {P : Nat → List Nat → Bool} {w : List Nat → Nat} {n S : Nat} (hw : ∀ l ∈ allS m m, w l = wt9 P l n) (hS : trW m w m [] = S) (hl : (allS m m).length < B9) {j : Nat} (hj : j < n) : (allS m m).countP (P j) = S / B9 ^ j % B9 := by
  have h1 : ((allS m m).map w).sum = S := by rw [allS_desc, trW_sum]; exact hS
  have h2 : (allS m m).map w = (allS m m).map fun l => wt9 P l n := List.map_congr_left hw
  rw [h2, sum_wt] at h1
  rw [← h1]
  exact (ds_get (c := fun k => (allS m m).countP (P k)) (fun k => Nat.lt_of_le_of_lt List.countP_le_length hl) hj).symm
theorem wt_one {f : List Nat → Nat} {l : List Nat} : ∀ n, f l < n → wt9 (fun k l => decide (f l = k)) l n = B9 ^ f l := by
  have h0 : ∀ n, n ≤ f l → wt9 (fun k l => decide (f l = k)) l n = 0 := fun n => by
    induction n with
    | zero => intro _; rfl
    | succ n ih =>
      intro h
      show wt9 _ l n + (if decide (f l = n) = true then 1 else 0) * B9 ^ n = 0
      rw [ih (by omega), decide_eq_false (by omega)]
      simp
  intro n
  induction n with
  | zero => intro h; omega
  | succ n ih =>
    intro h
    show wt9 _ l n + (if decide (f l = n) = true then 1 else 0) * B9 ^ n = _
    by_cases z : f l = n
    · rw [h0 n (by omega), decide_eq_true z, if_pos rfl, z]
      omega
    · rw [ih (by omega), decide_eq_false z]
      simp
end Kw
set_option Elab.async false
set_option linter.all false
set_option maxRecDepth 100000
set_option maxHeartbeats 1000000
namespace Kw
open PySem
def sC9 : Nat → Nat
  | 0 => 1
  | 1 => 10000
  | 2 => 100010000
  | 3 => 1000300020000
  | 4 => 10006001100060000
  | 5 => 100100035005000240000
  | 6 => 1001500850225027401200000
  | 7 => 10021017507351624176407200000
  | _ => 0
def sZ9 : Nat → Nat
  | 0 => 0
  | 1 => 10000
  | 2 => 100010000
  | 3 => 2000200020000
  | 4 => 60006000600060000
  | 5 => 2400240024002400240000
  | 6 => 120012001200120012001200000
  | 7 => 7200720072007200720072007200000
  | _ => 0
def sF9 : Nat → Nat
  | 0 => 0
  | 1 => 10001
  | 2 => 100020002
  | 3 => 2000300060006
  | 4 => 60008001200240024
  | 5 => 2400300040006001200120
  | 6 => 120014401800240036007200720
  | 7 => 7200840100812601680252050405040
  | _ => 0
def PC9 (k : Nat) (l : List Nat) : Bool := decide (cnt l = k)
def PZ9 (k : Nat) (l : List Nat) : Bool := decide (per l 0 = k)
def PF9 (k : Nat) (l : List Nat) : Bool := (List.range k).all fun x => decide (x ∈ orb l 0)
/-- how many boxes the round of box 0 has, quickly -/
def sz9 (l : List Nat) : Nat → Nat → Nat
  | 0, _ => 0
  | f + 1, x => bif Nat.beq x 0 then 1 else Nat.succ (sz9 l f (l.getD x 0))
theorem sz_per {l : List Nat} (h : IsLay l) (h0 : 0 < l.length) : ∀ (d k f : Nat), k + d = per l 0 → 1 ≤ k → d < f → sz9 l f (it l k 0) = d + 1
  | d, k, 0, _, _, hf => by omega
  | 0, k, f + 1, hk, _, _ => by
    have hp := (h.per h0).2.2.1
    have : it l k 0 = 0 := by rw [show k = per l 0 by omega]; exact hp
    show (bif Nat.beq (it l k 0) 0 then 1 else _) = 1
    rw [this]
    rfl
  | d + 1, k, f + 1, hk, h1, hf => by
    have hne := (h.per h0).2.2.2 k h1 (by omega)
    have hb : Nat.beq (it l k 0) 0 = false := by
      cases e : Nat.beq (it l k 0) 0 with
      | false => rfl
      | true => exact absurd (Nat.eq_of_beq_eq_true e) hne
    show (bif Nat.beq (it l k 0) 0 then 1 else Nat.succ (sz9 l f (l.getD (it l k 0) 0))) = d + 1 + 1
    rw [hb]
    show Nat.succ (sz9 l f (it l (k + 1) 0)) = d + 1 + 1
    rw [sz_per h h0 d (k + 1) f (by omega) (by omega) (by omega)]
theorem sz_eq {l : List Nat} (h : IsLay l) (h0 : 0 < l.length) : per l 0 = sz9 l l.length (l.getD 0 0) := by
  have hp := h.per h0
  have := sz_per h h0 (per l 0 - 1) 1 l.length (by omega) (Nat.le_refl _) (by omega)
  have e : it l 1 0 = l.getD 0 0 := rfl
  rw [e] at this
  omega
theorem len_trW (m : Nat) : (allS m m).length = trW m (fun _ => 1) m [] := by
  rw [← trW_sum, ← allS_desc]
  induction allS m m with
  | nil => rfl
  | cons a r ih => rw [List.length_cons, List.map_cons, List.sum_cons, ← ih]; omega
theorem len9 : ∀ m, m < 8 → trW m (fun _ => 1) m [] < B9 := by decide +kernel
theorem sumC : ∀ m, m < 8 → trW m (fun l => B9 ^ fcnt l) m [] = sC9 m := by decide +kernel
theorem sumZ : ∀ m, m < 8 → 0 < m → trW m (fun l => B9 ^ sz9 l l.length (l.getD 0 0)) m [] = sZ9 m := by decide +kernel
theorem sumF : ∀ m, m < 8 → 0 < m → trW m (fun l => wt9 PF9 l 9) m [] = sF9 m := by decide +kernel
theorem countC {m k : Nat} (hm : m < 8) (hk : k < 9) : (allS m m).countP (PC9 k) = sC9 m / B9 ^ k % B9 := by
  refine count_of (n := 9) (w := fun l => B9 ^ fcnt l) (fun l hl => ?_) (sumC m hm) (by rw [len_trW]; exact len9 m hm) hk
  obtain ⟨h1, h2⟩ := allS_lay hl
  have := cnt_le l
  show B9 ^ fcnt l = wt9 (fun k l => decide (cnt l = k)) l 9
  rw [← lay_fcnt h1]
  exact (wt_one 9 (by omega)).symm
theorem countZ {m k : Nat} (hm : m < 8) (h0 : 0 < m) (hk : k < 9) : (allS m m).countP (PZ9 k) = sZ9 m / B9 ^ k % B9 := by
  refine count_of (n := 9) (w := fun l => B9 ^ sz9 l l.length (l.getD 0 0)) (fun l hl => ?_) (sumZ m hm h0) (by rw [len_trW]; exact len9 m hm) hk
  obtain ⟨h1, h2⟩ := allS_lay hl
  have := (h1.per (i := 0) (by omega)).2.1
  show B9 ^ sz9 l l.length (l.getD 0 0) = wt9 (fun k l => decide (per l 0 = k)) l 9
  rw [← sz_eq h1 (by omega)]
  exact (wt_one (f := fun l => per l 0) 9 (by show per l 0 < 9; omega)).symm
theorem countF {m k : Nat} (hm : m < 8) (h0 : 0 < m) (hk : k < 9) : (allS m m).countP (PF9 k) = sF9 m / B9 ^ k % B9 :=
  count_of (n := 9) (w := fun l => wt9 PF9 l 9) (fun l hl => rfl) (sumF m hm h0) (by rw [len_trW]; exact len9 m hm) hk
end Kw
set_option Elab.async false
set_option linter.all false
set_option maxRecDepth 100000
set_option maxHeartbeats 4000000
namespace Kw
open PySem PySem.Spec PyProof.Rows L2 Evl
def topS (i : Nat) : Stmt := PySem.Challenge.pw_keyswithin_k09_counts_by_all_layings.main.body.getD i (.Pass ⟨0, 0, 0, 0⟩)
def clsBody : Stmt → List Stmt
  | .ClassDef _ _ _ b _ _ _ _ _ _ _ => b
  | _ => []
def sMt (i j : Nat) : Stmt := (clsBody (topS i)).getD j (.Pass ⟨0, 0, 0, 0⟩)
end Kw
set_option Elab.async false
set_option linter.all false
set_option maxRecDepth 100000
set_option maxHeartbeats 4000000
namespace Kw
open PySem PySem.Spec PyProof.Rows L2 Evl
/-! ### data: what stays -/
section
variable {K : PySem.W.Frag} {H H' : Hp}
mutual
theorem dp_ex (e : Ex H H') : ∀ (d : PyData) (v : V), Dp K H v d → Dp K H' v d
  | .none, _, h => by cases h; exact .non
  | .bool b, _, h => by cases h; exact .bl b
  | .int i, _, h => by cases h; exact .int i
  | .str x, _, h => by cases h; exact .str x
  | .list ds, _, h => by
    cases h with
    | lst h a => exact .lst (ex_l e h) (dpA_ex e ds _ a)
  | .tuple ds, _, h => by
    cases h with
    | tup h a => exact .tup (ex_t e h) (dpA_ex e ds _ a)
  | .dict _, _, h => by cases h
theorem dpA_ex (e : Ex H H') : ∀ (ds : List PyData) (vs : List V), DpAll K H vs ds → DpAll K H' vs ds
  | [], _, h => by cases h; exact .nil
  | d :: ds, _, h => by
    cases h with
    | cons a b => exact .cons (dp_ex e d _ a) (dpA_ex e ds _ b)
end
mutual
/-- no list within -/
def Fz : PyData → Bool
  | .none => true
  | .bool _ => true
  | .int _ => true
  | .str _ => true
  | .tuple ds => FzA ds
  | .list _ => false
  | .dict _ => false
def FzA : List PyData → Bool
  | [] => true
  | d :: ds => Fz d && FzA ds
end
mutual
theorem dp_keep (e : KeepT H H') : ∀ (d : PyData) (v : V), Fz d = true → Dp K H v d → Dp K H' v d
  | .none, _, _, h => by cases h; exact .non
  | .bool b, _, _, h => by cases h; exact .bl b
  | .int i, _, _, h => by cases h; exact .int i
  | .str x, _, _, h => by cases h; exact .str x
  | .list ds, _, f, h => by simp [Fz] at f
  | .tuple ds, _, f, h => by
    cases h with
    | tup h a => exact .tup (keep_t e h) (dpA_keep e ds _ (by simpa [Fz] using f) a)
  | .dict _, _, _, h => by cases h
theorem dpA_keep (e : KeepT H H') : ∀ (ds : List PyData) (vs : List V), FzA ds = true → DpAll K H vs ds → DpAll K H' vs ds
  | [], _, _, h => by cases h; exact .nil
  | d :: ds, _, f, h => by
    cases h with
    | cons a b =>
      simp only [FzA, Bool.and_eq_true] at f
      exact .cons (dp_keep e d _ f.1 a) (dpA_keep e ds _ f.2 b)
end
theorem dpA_paired : ∀ {vs : List V} {ds : List PyData}, DpAll K H vs ds → Paired (Dp K H) vs ds
  | _, [], h => by cases h; exact .nil
  | _, d :: ds, h => by
    cases h with
    | cons a b => exact .cons a (dpA_paired b)
theorem dpA_of : ∀ {vs : List V} {ds : List PyData}, Paired (Dp K H) vs ds → DpAll K H vs ds
  | _, _, .nil => .nil
  | _, _, .cons a b => .cons a (dpA_of b)
theorem dpA_len {vs : List V} {ds : List PyData} (h : DpAll K H vs ds) : vs.length = ds.length := paired_len (dpA_paired h)
theorem dpA_get {vs : List V} {ds : List PyData} {i : Nat} {v : V} (h : DpAll K H vs ds) (hv : vs[i]? = some v) : ∃ d, ds[i]? = some d ∧ Dp K H v d := paired_get (dpA_paired h) hv
theorem dpA_get2 {vs : List V} {ds : List PyData} {i : Nat} {d : PyData} (h : DpAll K H vs ds) (hd : ds[i]? = some d) : ∃ v, vs[i]? = some v ∧ Dp K H v d := paired_get2 (dpA_paired h) hd
theorem dpA_strs : ∀ zs : List Str, DpAll K H (zs.map V.str) (zs.map PyData.str)
  | [] => .nil
  | z :: r => .cons (.str z) (dpA_strs r)
theorem dpA_strs_inv : ∀ {vs : List V} {zs : List Str}, DpAll K H vs (zs.map PyData.str) → vs = zs.map V.str
  | _, [], h => by cases h; rfl
  | _, z :: r, h => by
    cases h with
    | cons a b =>
      cases a
      rw [dpA_strs_inv b]
      rfl
theorem dpA_nats : ∀ ns : List Nat, DpAll K H (ns.map vN) (ns.map fun (i : Nat) => PyData.int (i : Int))
  | [] => .nil
  | n :: r => .cons (.int _) (dpA_nats r)
theorem dpA_nats_inv : ∀ {vs : List V} {ns : List Nat}, DpAll K H vs (ns.map fun (i : Nat) => PyData.int (i : Int)) → vs = ns.map vN
  | _, [], h => by cases h; rfl
  | _, z :: r, h => by
    cases h with
    | cons a b =>
      cases a
      rw [dpA_nats_inv b]
      rfl
theorem dp_tup_inv {v : V} {ds : List PyData} (h : Dp K H v (.tuple ds)) : ∃ a xs, v = .ref a ∧ SqT K H a xs ∧ DpAll K H xs ds := by
  cases h with
  | tup h a => exact ⟨_, _, rfl, h, a⟩
theorem dp_lst_inv {v : V} {ds : List PyData} (h : Dp K H v (.list ds)) : ∃ a xs, v = .ref a ∧ SqL K H a xs ∧ DpAll K H xs ds := by
  cases h with
  | lst h a => exact ⟨_, _, rfl, h, a⟩
end
/-! ### its kind -/
def tyOf : PyData → String
  | .none => "NoneType"
  | .bool _ => "bool"
  | .int _ => "int"
  | .str _ => "str"
  | .list _ => "list"
  | .tuple _ => "tuple"
  | .dict _ => "dict"
section
variable {K : PySem.W.Frag} {σ : L2.St} {H H' : Hp} {ta tb tc te tl : TE} {t u : TT} {x y z v : V} {r r' : R2} {d : PyData}
theorem ty_lst {a : Addr} {xs : List V} (h : SqL K H a xs) : TyX K H (.ref a) (.type "list") := by
  rcases h with (h | ⟨o, h⟩) | ⟨o, its, n, h1, h2, _⟩
  · exact .base (.lst h)
  · exact .base (.frz h)
  · exact .kList h1 h2
theorem ty_dp (h : Dp K H v d) : TyX K H v (.type (tyOf d)) := by
  cases h with
  | non => exact .base .non
  | bl b => exact .base (.bl b)
  | int i => exact .base (.int i)
  | str x => exact .base (.str x)
  | lst h a => exact ty_lst h
  | tup h a => exact ty_tup h
theorem ev_isiD {U : String} {b : Bool} (ha : Ev ta σ H v) (hb : Ev tb σ H (.ty U)) (hd : Dp K H v d) (hk : kitB (tyOf d) U = some b) : Ev (tCB (rIsi K) (tCons ta (tCons tb tNil))) σ H (.bl b) := ev_isi ha hb (fun H1 e => ty_dp (dp_ex e _ _ hd)) hk
def isTupD : PyData → Bool
  | .tuple _ => true
  | _ => false
def isStrD : PyData → Bool
  | .str _ => true
  | _ => false
def isLstD : PyData → Bool
  | .list _ => true
  | _ => false
def isIntD : PyData → Bool
  | .int _ => true
  | _ => false
def isBolD : PyData → Bool
  | .bool _ => true
  | _ => false
theorem kit_tup (h : Dp K H v d) : kitB (tyOf d) "tuple" = some (isTupD d) := by
  cases h <;> first | exact (by decide +kernel : kitB "NoneType" "tuple" = some false) | exact (by decide +kernel : kitB "bool" "tuple" = some false) | exact (by decide +kernel : kitB "int" "tuple" = some false) | exact (by decide +kernel : kitB "str" "tuple" = some false) | exact (by decide +kernel : kitB "list" "tuple" = some false) | exact (by decide +kernel : kitB "tuple" "tuple" = some true)
theorem kit_str (h : Dp K H v d) : kitB (tyOf d) "str" = some (isStrD d) := by
  cases h <;> first | exact (by decide +kernel : kitB "NoneType" "str" = some false) | exact (by decide +kernel : kitB "bool" "str" = some false) | exact (by decide +kernel : kitB "int" "str" = some false) | exact (by decide +kernel : kitB "str" "str" = some true) | exact (by decide +kernel : kitB "list" "str" = some false) | exact (by decide +kernel : kitB "tuple" "str" = some false)
theorem kit_int (h : Dp K H v d) : kitB (tyOf d) "int" = some (isIntD d || isBolD d) := by
  cases h <;> first | exact (by decide +kernel : kitB "NoneType" "int" = some false) | exact (by decide +kernel : kitB "bool" "int" = some true) | exact (by decide +kernel : kitB "int" "int" = some true) | exact (by decide +kernel : kitB "str" "int" = some false) | exact (by decide +kernel : kitB "list" "int" = some false) | exact (by decide +kernel : kitB "tuple" "int" = some false)
theorem kit_bol (h : Dp K H v d) : kitB (tyOf d) "bool" = some (isBolD d) := by
  cases h <;> first | exact (by decide +kernel : kitB "NoneType" "bool" = some false) | exact (by decide +kernel : kitB "bool" "bool" = some true) | exact (by decide +kernel : kitB "int" "bool" = some false) | exact (by decide +kernel : kitB "str" "bool" = some false) | exact (by decide +kernel : kitB "list" "bool" = some false) | exact (by decide +kernel : kitB "tuple" "bool" = some false)
theorem kit_lst (h : Dp K H v d) : kitB (tyOf d) "list" = some (isLstD d) := by
  cases h <;> first | exact (by decide +kernel : kitB "NoneType" "list" = some false) | exact (by decide +kernel : kitB "bool" "list" = some false) | exact (by decide +kernel : kitB "int" "list" = some false) | exact (by decide +kernel : kitB "str" "list" = some false) | exact (by decide +kernel : kitB "list" "list" = some true) | exact (by decide +kernel : kitB "tuple" "list" = some false)
end
end Kw
set_option Elab.async false
set_option linter.all false
set_option maxRecDepth 100000
set_option maxHeartbeats 4000000
namespace Kw
open PySem PySem.Spec PyProof.Rows L2 Evl
abbrev sWho : Stmt := topS 19
theorem scWho : FnScope ["thing"] ["thing"] (defScope sWho) := ⟨rfl, rfl, rfl, by decide +kernel, rfl, by decide +kernel, by decide +kernel⟩
section
variable {P : Program} {w : World} {K : PySem.W.Frag} {mg : Str → Option Value} {base : Heap}
def spWho (K : PySem.W.Frag) : Sp := fun vs H Q _ => ∃ (x : V) (T : String) (b1 b2 : Bool), vs = [x] ∧ (∀ H1, Ex H H1 → TyX K H1 x (.type T)) ∧ kitB T "int" = some b1 ∧ kitB T "bool" = some b2 ∧ RetV (.bl (b1 && !b2)) H Q
theorem ok_who {f  : Addr} {fd  : FuncData} {k : Nat} (F : Fun K "is_whole" "is_whole" sWho f fd) (B : Bu mg) : FnOk P w K mg base CX0 (k + 1) f fd ["thing"] (spWho K) := by
  refine F.ok scWho (fun vs H Q E h => ?_) (fun cdv A outer s H vs Q E hr h => ?_)
  · obtain ⟨x, T, b1, b2, rfl, _⟩ := h
    rfl
  · obtain ⟨x, T, b1, b2, rfl, hT, h1, h2, q⟩ := h
    refine ⟨_, (pss_one (ps_ret (pe_and (pe_callB call_isi (by rfl) B.isi boot_isinstance (pa_cons (pv 0) (pa_cons (pe_bltn (v := .ty "int") (by rfl) B.int boot_int rfl) pa_nil))) (pe_one (pe_not (pe_callB call_isi (by rfl) B.isi boot_isinstance (pa_cons (pv 0) (pa_cons (pe_bltn (v := .ty "bool") (by rfl) B.bool (by decide +kernel) rfl) pa_nil)))))))), ?_⟩
    exact s_ret (v := .bl (b1 && !b2)) (ev_andV (ev_isi (K := K) (ev_var (v := x) rfl) ev_c hT h1) fun _ => ev_notV (ev_isi (K := K) (ev_var (v := x) rfl) ev_c hT h2)) (fun H1 e1 => q H1 e1)
theorem who_int {H : Hp} {i : Int} {Q : VK} {E : XK} (q : RetV (.bl true) H Q) : spWho K [.int i] H Q E := ⟨.int i, "int", true, false, rfl, fun H1 _ => .base (.int i), by decide +kernel, by decide +kernel, q⟩
theorem who_dp {H : Hp} {v : V} {d : PyData} {Q : VK} {E : XK} (h : Dp K H v d) (q : RetV (.bl (isIntD d)) H Q) : spWho K [v] H Q E := by
  refine ⟨v, tyOf d, _, _, rfl, fun H1 e => ty_dp (dp_ex e _ _ h), kit_int h, kit_bol h, ?_⟩
  have e : ((isIntD d || isBolD d) && !isBolD d) = isIntD d := by cases d <;> rfl
  rw [e]
  exact q
end
end Kw
set_option Elab.async false
set_option linter.all false
set_option maxRecDepth 100000
set_option maxHeartbeats 4000000
namespace Kw
open PySem PySem.Spec PyProof.Rows L2 Evl
abbrev sCkN : Stmt := topS 22
theorem scCkN : FnScope ["thing", "least", "most"] ["thing", "least", "most"] (defScope sCkN) := ⟨rfl, rfl, rfl, by decide +kernel, rfl, by decide +kernel, by decide +kernel⟩
section
variable {P : Program} {w : World} {K : PySem.W.Frag} {mg : Str → Option Value} {base : Heap}
def spCkN (K : PySem.W.Frag) : Sp := fun vs H Q _ => ∃ (i a b : Int), vs = [.int i, .int a, .int b] ∧ a ≤ i ∧ i ≤ b ∧ RetV .non H Q
theorem ok_ckn {f fWho : Addr} {fd fdWho : FuncData} {k : Nat} (F : Fun K "check_number" "check_number" sCkN f fd) (DWho : Df K mg "is_whole" sWho ["thing"] fWho fdWho) (GWho : FnOk P w K mg base CX0 (k + 1) fWho fdWho ["thing"] (spWho K)) : FnOk P w K mg base CX0 (k + 2) f fd ["thing", "least", "most"] (spCkN K) := by
  refine F.ok scCkN (fun vs H Q E h => ?_) (fun cdv A outer s H vs Q E hr h => ?_)
  · obtain ⟨i, a, b, rfl, _⟩ := h
    rfl
  · obtain ⟨i, a, b, rfl, h1, h2, q⟩ := h
    refine ⟨_, (pss_one (ps_if (PW.pt (pw_or (pt_not (pt_val (pcall DWho GWho (hr.mono (by omega)) (pa_cons (pv 0) pa_nil)))) (pw_or1 (pt_not (pt_chain op_le op_le (pv 1) (pv 0) (pv 2)))))) pss_never pss_nil)), ?_⟩
    refine s_when (b := false) (et_is (et_or (et_not (et_B (ev_call (z := .bl true) (ea_cons (ev_var rfl) ea_nil) (SpV.of fun H1 e1 Q q E => who_int q)))) fun _ => et_not (et_test (ev_chain (ev_var (v := .int a) rfl) (ev_var (v := .int i) rfl) (ev_var (v := .int b) rfl) rv_le rv_le))) ?_) (fun hb => absurd hb (by decide)) (fun _ H1 e1 => q H1 e1)
    rw [decide_eq_true h1, decide_eq_true h2]
    rfl
end
end Kw
set_option Elab.async false
set_option linter.all false
set_option maxRecDepth 100000
set_option maxHeartbeats 4000000
namespace Kw
open PySem PySem.Spec PyProof.Rows L2 Evl
abbrev sCkW : Stmt := topS 23
theorem scCkW : FnScope ["thing"] ["thing"] (defScope sCkW) := ⟨rfl, rfl, rfl, by decide +kernel, rfl, by decide +kernel, by decide +kernel⟩
abbrev sAllL : Stmt := topS 24
theorem scAllL : FnScope ["boxes", "many", "box"] ["boxes"] (defScope sAllL) := ⟨rfl, rfl, rfl, by decide +kernel, rfl, by decide +kernel, by decide +kernel⟩
abbrev sCbR : Stmt := topS 25
theorem scCbR : FnScope ["boxes", "counts", "before", "alone", "between", "many", "one", "other"] ["boxes"] (defScope sCbR) := ⟨rfl, rfl, rfl, by decide +kernel, rfl, by decide +kernel, by decide +kernel⟩
theorem ip_mulW {X : Cx} : PIp X .Mult (fun x y H Q => ∃ i j, x = .int i ∧ y = .int j ∧ CMulW i j ∧ Q (.int (i * j)) H) := by
  intro pins s σ H x y v u Q I r1 r2 h
  obtain ⟨i, j, e1, e2, hc, q⟩ := h
  subst e1; subst e2
  obtain ⟨t, rfl⟩ := r1
  obtain ⟨t', rfl⟩ := r2
  exact imul_int ⟨.int _, H, I.tok _, ⟨_, rfl⟩, q⟩ hc.ok
section
variable {P : Program} {w : World} {K : PySem.W.Frag} {mg : Str → Option Value} {base : Heap}
def spCkW (K : PySem.W.Frag) : Sp := fun vs H Q _ => ∃ (i : Int), vs = [.int i] ∧ RetV .non H Q
theorem ok_ckw {f fWho : Addr} {fd fdWho : FuncData} {k : Nat} (F : Fun K "check_whole" "check_whole" sCkW f fd) (DWho : Df K mg "is_whole" sWho ["thing"] fWho fdWho) (GWho : FnOk P w K mg base CX0 (k + 1) fWho fdWho ["thing"] (spWho K)) : FnOk P w K mg base CX0 (k + 2) f fd ["thing"] (spCkW K) := by
  refine F.ok scCkW (fun vs H Q E h => ?_) (fun cdv A outer s H vs Q E hr h => ?_)
  · obtain ⟨i, rfl, _⟩ := h
    rfl
  · obtain ⟨i, rfl, q⟩ := h
    refine ⟨_, (pss_one (ps_if (pt_not (pt_val (pcall DWho GWho (hr.mono (by omega)) (pa_cons (pv 0) pa_nil)))) pss_never pss_nil)), ?_⟩
    exact s_when (b := false) (et_is (et_not (et_B (ev_call (z := .bl true) (ea_cons (ev_var rfl) ea_nil) (SpV.of fun H1 e1 Q q E => who_int q)))) rfl) (fun hb => absurd hb (by decide)) (fun _ H1 e1 => q H1 e1)
/-! ### how many layings -/
def fact : Nat → Nat
  | 0 => 1
  | n + 1 => fact n * (n + 1)
theorem fact_small : ∀ n ≤ 40, fact n < 2 ^ 200 := by decide +kernel
def spAllL (K : PySem.W.Frag) : Sp := fun vs H Q _ => ∃ (n : Nat), vs = [.int n] ∧ n ≤ 40 ∧ RetV (.int (fact n)) H Q
theorem ok_allL {f  : Addr} {fd  : FuncData} {k : Nat} (F : Fun K "all_layings" "all_layings" sAllL f fd) (B : Bu mg) : FnOk P w K mg base CX0 (k + 1) f fd ["boxes"] (spAllL K) := by
  refine F.ok scAllL (fun vs H Q E h => ?_) (fun cdv A outer s H vs Q E hr h => ?_)
  · obtain ⟨n, rfl, _⟩ := h
    rfl
  · obtain ⟨n, rfl, hn, q⟩ := h
    refine ⟨_, (pss_cons (ps_set (i := 1) scAllL.nd rfl (.inl rfl) pe_int)
      (pss_cons (ps_for PassesOwn.never rfl (pi_range1 (by rfl) B.rng (pa_cons (pv 0) pa_nil)) (pg_name (i := 2) scAllL.nd rfl (.inl rfl))
      (pss_one (ps_aug (i := 1) scAllL.nd rfl (.inl rfl) (pe_op op_add (pv 2) pe_int) ip_mulW)))
      (pss_one (ps_ret (pv 1))))), ?_⟩
    refine q_asg (v := .int 1) ev_c fun H1 e1 => ?_
    refine q_forR1 (n := n) (ea_cons (ev_var (v := .int n) rfl) ea_nil) ⟨by omega, by omega⟩ (fun i σ' H' => Ex H H' ∧ ∃ y, σ' = [some (.int n), some (.int (fact i)), y]) (fun H2 e2 => ⟨e1.trans e2, none, rfl⟩) (fun i σ' H' hi hP => ?_) (fun σ' H' hP => ?_)
    · obtain ⟨eH, y, rfl⟩ := hP
      have hs := fact_small i (by omega)
      refine ⟨.int (fact i), rfl, .int i, rfl, _, _, rfl, rfl, _, _, rfl, rfl, wide_mul (a := 200) (b := 64) (by omega) ?_ (by decide) (by decide) (by decide), eH, some (.int i), ?_⟩
      · rw [show ((i : Int) + 1).natAbs = i + 1 by omega]
        exact Nat.lt_of_lt_of_le (show i + 1 < 64 by omega) (by decide)
      · show [some (V.int n), some (V.int ((fact i : Int) * ((i : Int) + 1))), some (V.int i)] = _
        rw [show fact (i + 1) = fact i * (i + 1) from rfl, Int.natCast_mul]
        rfl
    · obtain ⟨eH, y, rfl⟩ := hP
      rw [Int.toNat_natCast]
      exact ⟨_, rfl, q _ eH⟩
end
end Kw
set_option Elab.async false
set_option linter.all false
set_option maxRecDepth 100000
set_option maxHeartbeats 4000000
namespace Kw
open PySem PySem.Spec PyProof.Rows L2 Evl
abbrev sWR : Stmt := topS 26
theorem scWR : FnScope ["boxes", "many"] ["boxes", "many"] (defScope sWR) := ⟨rfl, rfl, rfl, by decide +kernel, rfl, by decide +kernel, by decide +kernel⟩
abbrev sWS : Stmt := topS 27
theorem scWS : FnScope ["boxes", "many"] ["boxes", "many"] (defScope sWS) := ⟨rfl, rfl, rfl, by decide +kernel, rfl, by decide +kernel, by decide +kernel⟩
abbrev sTog : Stmt := topS 28
theorem scTog : FnScope ["boxes", "many"] ["boxes", "many"] (defScope sTog) := ⟨rfl, rfl, rfl, by decide +kernel, rfl, by decide +kernel, by decide +kernel⟩
/-! ### layings by their rounds -/
def cbrS (n : Nat) (cs : List Nat) : List Nat := List.zipWith (· + ·) (0 :: cs) (cs.map (n * ·) ++ [0])
def cbr : Nat → List Nat
  | 0 => [1]
  | n + 1 => cbrS n (cbr n)
theorem cbr_len : ∀ n, (cbr n).length = n + 1
  | 0 => rfl
  | n + 1 => by
    show (cbrS n (cbr n)).length = _
    unfold cbrS
    rw [List.length_zipWith, List.length_cons, List.length_append, List.length_map, cbr_len n, List.length_singleton]
    omega
theorem cbr_small : ∀ n ≤ 40, ∀ x ∈ cbr n, x < 2 ^ 200 := by decide +kernel
theorem mul_small {n i : Nat} (hn : n < 64) (hi : i < 2 ^ 200) : CMulW (n : Int) (i : Int) := wide_mul (a := 6) (b := 200) (by rw [Int.natAbs_natCast]; exact hn) (by rw [Int.natAbs_natCast]; exact hi) (by decide) (by decide) (by decide)
section
variable {P : Program} {w : World} {K : PySem.W.Frag} {mg : Str → Option Value} {base : Heap}
def spCbR (K : PySem.W.Frag) : Sp := fun vs H Q _ => ∃ (n : Nat), vs = [.int n] ∧ n ≤ 40 ∧ RetL ((cbr n).map vN) H Q
theorem ok_cbr {f  : Addr} {fd  : FuncData} {k : Nat} (F : Fun K "counts_by_rounds" "counts_by_rounds" sCbR f fd) (B : Bu mg) : FnOk P w K mg base CX0 (k + 1) f fd ["boxes"] (spCbR K) := by
  refine F.ok scCbR (fun vs H Q E h => ?_) (fun cdv A outer s H vs Q E hr h => ?_)
  · obtain ⟨n, rfl, _⟩ := h
    rfl
  · obtain ⟨n, rfl, hn, q⟩ := h
    refine ⟨_, (pss_cons (ps_set (i := 1) scCbR.nd rfl (.inl rfl) (pe_lst (pa_cons pe_int pa_nil)))
      (pss_cons (ps_for PassesOwn.never rfl (pi_range1 (by rfl) B.rng (pa_cons (pv 0) pa_nil)) (pg_name (i := 2) scCbR.nd rfl (.inr rfl))
      (pss_cons (ps_set (i := 3) scCbR.nd rfl (.inl rfl) (pe_lst (pa_cons pe_int (StX.pa_star (pv 1) pa_nil))))
      (pss_cons (ps_set (i := 4) scCbR.nd rfl (.inl rfl) (pe_op op_cat (pe_lc (own := [("many", 5)]) (g := (gName 5)) (tt := tYes) (te := (tOp (rI CMulW fun i j => .int (i * j)) (tVar 2) (tVar 5))) rfl scCbR.nd (pi_list (pv 1)) (blkOk_by (N := ["boxes", "counts", "before", "alone", "between", "many", "one", "other"]) (sc := defScope sCbR) (by decide +kernel)) (fun _ _ _ _ _ => (pg_name (i := 5) scCbR.nd rfl (.inl rfl))) (fun _ _ _ _ _ => pts_nil) (fun _ _ _ _ _ => (pe_op op_mulW (pv 2) (pv 5)))) (pe_lst (pa_cons pe_int pa_nil))))
      (pss_one (ps_setLc (i := 1) (own := [("one", 6), ("other", 7)]) (g := (gTup K 2 (gCons (gName 6) (gCons (gName 7) gNil)))) (tt := tYes) (te := (tOp (rI0 fun i j => .int (i + j)) (tVar 6) (tVar 7))) rfl scCbR.nd rfl rfl (sw_true rfl rfl rfl (by decide +kernel)) (pi_zip (by rfl) B.zip (pa_cons (pv 3) (pa_cons (pv 4) pa_nil))) (blkOk_by (N := ["boxes", "counts", "before", "alone", "between", "many", "one", "other"]) (sc := defScope sCbR) (by decide +kernel)) (fun _ _ _ _ _ => (pg_tup rfl (pgs_cons (pg_name (i := 6) scCbR.nd rfl (.inl rfl)) (pgs_cons (pg_name (i := 7) scCbR.nd rfl (.inl rfl)) pgs_nil)))) (fun _ _ _ _ _ => pts_nil) (fun _ _ _ _ _ => (pe_op op_add (pv 6) (pv 7))))))))
      (pss_one (ps_ret (pv 1))))), ?_⟩
    refine q_asgL (xs := [.int 1]) (el_lst (ea_cons ev_c ea_nil) (by decide)) fun p H1 np e1 hp => ?_
    refine q_forR1 (n := n) (ea_cons (ev_var (v := .int n) rfl) ea_nil) ⟨by omega, by omega⟩ (fun i σ' H' => Ex H H' ∧ ∃ c y2 y3 y4 y5 y6 y7, H c = none ∧ H' c = some (.lst ((cbr i).map vN)) ∧ σ' = [some (.int n), some (.ref c), y2, y3, y4, y5, y6, y7]) (fun H2 e2 => ⟨e1.trans e2, p, none, none, none, none, none, none, np, e2 _ _ hp, rfl⟩) (fun i σ' H' hi hP => ?_) (fun σ' H' hP => ?_)
    · obtain ⟨eH, c, y2, y3, y4, y5, y6, y7, nc, hc, rfl⟩ := hP
      have hl := cbr_len i
      have hlm : ((cbr i).map vN).length = i + 1 := by rw [List.length_map, hl]
      refine q_asgL (xs := .int 0 :: (cbr i).map vN) (el_star1 (K := K) ev_c (ev_var (v := .ref c) rfl) (.inl (sq_of hc)) (by omega)) fun a H2 na e2 ha => ?_
      refine q_asgL (xs := ((cbr i).map (i * ·)).map vN ++ [.int 0]) (el_catN (el_lc (ew_list (K := K) (ev_var (v := .ref c) rfl) (sq_of (e2 _ _ hc))) (by omega) (fun _ => true) (fun j => vN (i * (cbr i).getD j 0)) ?_ (fun j x H3 H4 Q e hj hy k => ?_)) (el_lst (ea_cons ev_c ea_nil) (by decide)) ?_) fun b H3 nb e3 hb => ?_
      · rw [filter_true, List.length_map, range_map_get (cbr i) 0 (fun x => vN (i * x)), List.map_map]
        rfl
      · obtain ⟨rfl, hx⟩ := hy
        obtain ⟨rfl, hjl, hget⟩ := get_map 0 hx
        refine k _ _ (Ex.refl _) rfl et_yes fun _ => ?_
        have hm := cbr_small i (by omega) _ (List.mem_of_getElem? hget)
        refine ev_is (ev_op (ev_var (v := .int i) rfl) (ev_var (v := vN ((cbr i).getD j 0)) rfl) (rv_I (mul_small (by omega) hm))) ?_
        show V.int _ = V.int _
        rw [Int.natCast_mul]
      · rw [List.length_map, List.length_map]
        show (cbr i).length + 1 ≤ _
        omega
      · refine s_asgL (xs := (cbr (i + 1)).map vN) ?_ fun d H4 nd e4 hd => ⟨((eH.trans e2).trans e3).trans e4, d, _, _, _, _, _, _, fresh_back ((eH.trans e2).trans e3) nd, hd, rfl⟩
        have lx : (V.int 0 :: (cbr i).map vN) = (0 :: cbr i).map vN := rfl
        have ly : ((cbr i).map (i * ·)).map vN ++ [V.int 0] = ((cbr i).map (i * ·) ++ [0]).map vN := by rw [List.map_append]; rfl
        rw [lx] at ha
        rw [ly] at hb
        have e0 : cbr (i + 1) = List.zipWith (· + ·) (0 :: cbr i) ((cbr i).map (i * ·) ++ [0]) := rfl
        have z1 : ((0 :: cbr i).map vN).length = i + 2 := by rw [List.length_map, List.length_cons, hl]
        have z2 : (((cbr i).map (i * ·) ++ [0]).map vN).length = i + 2 := by rw [List.length_map, List.length_append, List.length_map, hl]; rfl
        refine el_lc (ew_zipL (K := K) (n := i + 2) (by omega) (ev_var (v := .ref a) rfl) (ev_var (v := .ref b) rfl) (sq_of (e3 _ _ ha)) (sq_of hb)) (by omega) (fun _ => true) (fun j => vN ((0 :: cbr i).getD j 0 + ((cbr i).map (i * ·) ++ [0]).getD j 0)) ?_ (fun j x H4 H5 Q e hj hy k => ?_)
        · rw [filter_true, e0]
          apply List.ext_getElem
          · rw [List.length_map, List.length_range, List.length_map, List.length_zipWith]
            rw [List.length_map] at z1 z2
            omega
          · intro j h1 h2
            rw [List.length_map, List.length_range] at h1
            rw [List.length_map] at z1 z2
            simp only [List.getElem_map, List.getElem_range, List.getElem_zipWith]
            rw [List.getD_eq_getElem?_getD, List.getD_eq_getElem?_getD, List.getElem?_eq_getElem (by omega), List.getElem?_eq_getElem (by omega)]
            rfl
        · obtain ⟨T, x1, x2, rfl, nT, rfl, h1, h2⟩ := hy
          obtain ⟨rfl, _, _⟩ := get_map 0 h1
          obtain ⟨rfl, _, _⟩ := get_map 0 h2
          refine ⟨T, _, rfl, st_of upd_same, rfl, _, _, rfl, _, _, rfl, rfl, ?_⟩
          refine k _ _ (Ex.new nT) rfl et_yes fun _ => ?_
          refine ev_is (ev_op (ev_var rfl) (ev_var rfl) rv_I0) ?_
          show V.int _ = V.int _
          rw [Int.natCast_add]
    · obtain ⟨eH, c, y2, y3, y4, y5, y6, y7, nc, hc, rfl⟩ := hP
      rw [Int.toNat_natCast] at hc
      exact ⟨_, rfl, q c H' nc eH hc⟩
/-! ### with_rounds, with_size, together -/
def wr (n : Nat) (m : Int) : Nat := if 0 ≤ m ∧ m ≤ n then (cbr n).getD m.toNat 0 else 0
def spWR (K : PySem.W.Frag) : Sp := fun vs H Q _ => ∃ (n : Nat) (m : Int), vs = [.int n, .int m] ∧ n ≤ 40 ∧ RetV (vN (wr n m)) H Q
theorem ok_wr {f fCkN fCkW fCbR : Addr} {fd fdCkN fdCkW fdCbR : FuncData} {k : Nat} (F : Fun K "with_rounds" "with_rounds" sWR f fd) (DCkN : Df K mg "check_number" sCkN ["thing", "least", "most"] fCkN fdCkN) (DCkW : Df K mg "check_whole" sCkW ["thing"] fCkW fdCkW) (DCbR : Df K mg "counts_by_rounds" sCbR ["boxes"] fCbR fdCbR) (GCkN : FnOk P w K mg base CX0 (k + 2) fCkN fdCkN ["thing", "least", "most"] (spCkN K)) (GCkW : FnOk P w K mg base CX0 (k + 2) fCkW fdCkW ["thing"] (spCkW K)) (GCbR : FnOk P w K mg base CX0 (k + 1) fCbR fdCbR ["boxes"] (spCbR K)) {t40 : Tok} (m_MOST_COUNTED : mg "MOST_COUNTED" = some (.int 40 t40)) : FnOk P w K mg base CX0 (k + 3) f fd ["boxes", "many"] (spWR K) := by
  refine F.ok scWR (fun vs H Q E h => ?_) (fun cdv A outer s H vs Q E hr h => ?_)
  · obtain ⟨n, m, rfl, _⟩ := h
    rfl
  · obtain ⟨n, m, rfl, hn, q⟩ := h
    refine ⟨_, (pss_cons (ps_expr (pcall DCkN GCkN (hr.mono (by omega)) (pa_cons (pv 0) (pa_cons pe_int (pa_cons (pe_glob (v := .int 40) (by rfl) m_MOST_COUNTED ⟨_, rfl⟩) pa_nil)))))
      (pss_cons (ps_expr (pcall DCkW GCkW (hr.mono (by omega)) (pa_cons (pv 1) pa_nil)))
      (pss_cons (ps_if (pt_not (pt_chain op_le op_le pe_int (pv 1) (pv 0))) (pss_one (ps_ret pe_int)) pss_nil)
      (pss_one (ps_ret (pe_ix ix_list (pcall DCbR GCbR (hr.mono (by omega)) (pa_cons (pv 0) pa_nil)) (pv 1) (fun _ _ => rfl))))))), ?_⟩
    refine q_drop (ev_call (z := .non) (ea_cons (ev_var (v := .int n) rfl) (ea_cons ev_c (ea_cons ev_c ea_nil))) (SpV.of fun H1 e1 Q q E => ⟨_, _, _, rfl, by omega, by omega, q⟩)) fun H1 e1 => ?_
    refine q_drop (ev_call (z := .non) (ea_cons (ev_var (v := .int m) rfl) ea_nil) (SpV.of fun H1 e1 Q q E => ⟨_, rfl, q⟩)) fun H2 e2 => ?_
    refine q_when (et_not (et_test (ev_chain ev_c (ev_var (v := .int m) rfl) (ev_var (v := .int n) rfl) rv_le rv_le))) (fun hb H3 e3 => ?_) (fun hb H3 e3 => ?_)
    · have hw : wr n m = 0 := by
        unfold wr
        rw [if_neg]
        rintro ⟨h1, h2⟩
        rw [decide_eq_true h1, decide_eq_true h2] at hb
        cases hb
      rw [hw] at q
      exact q _ ((e1.trans e2).trans e3)
    · have hb' : 0 ≤ m ∧ m ≤ n := by
        have h1 : (decide (0 ≤ m) && decide (m ≤ n)) = true := by
          cases h : (decide (0 ≤ m) && decide (m ≤ n)) with
          | true => rfl
          | false => rw [h] at hb; cases hb
        rw [Bool.and_eq_true] at h1
        exact ⟨of_decide_eq_true h1.1, of_decide_eq_true h1.2⟩
      have hw : wr n m = (cbr n).getD m.toNat 0 := by
        unfold wr
        rw [if_pos hb']
      rw [hw] at q
      obtain ⟨j, rfl⟩ := Int.eq_ofNat_of_zero_le hb'.1
      have hj : j < (cbr n).length := by rw [cbr_len]; omega
      refine s_ret (ev_ixN (K := K) (el_call (xs := (cbr n).map vN) (ea_cons (ev_var (v := .int n) rfl) ea_nil) (SpL.of fun H1 e1 Q q E => ⟨n, rfl, hn, q⟩)) (ev_var (v := .int (j : Int)) rfl) (atI_nat (v := vN ((cbr n).getD j 0)) ?_)) fun H4 e4 => q _ (((e1.trans e2).trans e3).trans e4)
      rw [List.getElem?_map, List.getElem?_eq_getElem hj, List.getD_eq_getElem?_getD, List.getElem?_eq_getElem hj]
      rfl
def ws (n : Nat) (m : Int) : Nat := if 1 ≤ m ∧ m ≤ n then fact (n - 1) else 0
def spWS (K : PySem.W.Frag) : Sp := fun vs H Q _ => ∃ (n : Nat) (m : Int), vs = [.int n, .int m] ∧ 1 ≤ n ∧ n ≤ 40 ∧ RetV (vN (ws n m)) H Q
theorem ok_ws {f fCkN fCkW fAllL : Addr} {fd fdCkN fdCkW fdAllL : FuncData} {k : Nat} (F : Fun K "with_size" "with_size" sWS f fd) (DCkN : Df K mg "check_number" sCkN ["thing", "least", "most"] fCkN fdCkN) (DCkW : Df K mg "check_whole" sCkW ["thing"] fCkW fdCkW) (DAllL : Df K mg "all_layings" sAllL ["boxes"] fAllL fdAllL) (GCkN : FnOk P w K mg base CX0 (k + 2) fCkN fdCkN ["thing", "least", "most"] (spCkN K)) (GCkW : FnOk P w K mg base CX0 (k + 2) fCkW fdCkW ["thing"] (spCkW K)) (GAllL : FnOk P w K mg base CX0 (k + 1) fAllL fdAllL ["boxes"] (spAllL K)) {t40 : Tok} (m_MOST_COUNTED : mg "MOST_COUNTED" = some (.int 40 t40)) : FnOk P w K mg base CX0 (k + 3) f fd ["boxes", "many"] (spWS K) := by
  refine F.ok scWS (fun vs H Q E h => ?_) (fun cdv A outer s H vs Q E hr h => ?_)
  · obtain ⟨n, m, rfl, _⟩ := h
    rfl
  · obtain ⟨n, m, rfl, h1, hn, q⟩ := h
    refine ⟨_, (pss_cons (ps_expr (pcall DCkN GCkN (hr.mono (by omega)) (pa_cons (pv 0) (pa_cons pe_int (pa_cons (pe_glob (v := .int 40) (by rfl) m_MOST_COUNTED ⟨_, rfl⟩) pa_nil)))))
      (pss_cons (ps_expr (pcall DCkW GCkW (hr.mono (by omega)) (pa_cons (pv 1) pa_nil)))
      (pss_cons (ps_if (pt_not (pt_chain op_le op_le pe_int (pv 1) (pv 0))) (pss_one (ps_ret pe_int)) pss_nil)
      (pss_one (ps_ret (pcall DAllL GAllL (hr.mono (by omega)) (pa_cons (pe_op op_sub (pv 0) pe_int) pa_nil))))))), ?_⟩
    refine q_drop (ev_call (z := .non) (ea_cons (ev_var (v := .int n) rfl) (ea_cons ev_c (ea_cons ev_c ea_nil))) (SpV.of fun H1 e1 Q q E => ⟨_, _, _, rfl, by omega, by omega, q⟩)) fun H1 e1 => ?_
    refine q_drop (ev_call (z := .non) (ea_cons (ev_var (v := .int m) rfl) ea_nil) (SpV.of fun H1 e1 Q q E => ⟨_, rfl, q⟩)) fun H2 e2 => ?_
    refine q_when (et_not (et_test (ev_chain ev_c (ev_var (v := .int m) rfl) (ev_var (v := .int n) rfl) rv_le rv_le))) (fun hb H3 e3 => ?_) (fun hb H3 e3 => ?_)
    · have hw : ws n m = 0 := by
        unfold ws
        rw [if_neg]
        rintro ⟨h1, h2⟩
        rw [decide_eq_true h1, decide_eq_true h2] at hb
        cases hb
      rw [hw] at q
      exact q _ ((e1.trans e2).trans e3)
    · have hb' : 1 ≤ m ∧ m ≤ n := by
        have h1 : (decide (1 ≤ m) && decide (m ≤ n)) = true := by
          cases h : (decide (1 ≤ m) && decide (m ≤ n)) with
          | true => rfl
          | false => rw [h] at hb; cases hb
        rw [Bool.and_eq_true] at h1
        exact ⟨of_decide_eq_true h1.1, of_decide_eq_true h1.2⟩
      have hw : ws n m = fact (n - 1) := by
        unfold ws
        rw [if_pos hb']
      rw [hw] at q
      refine s_ret (ev_call (z := vN (fact (n - 1))) (ea_cons (ev_op (ev_var (v := .int n) rfl) ev_c rv_I0) ea_nil) (SpV.of fun H1 e1 Q q E => ⟨n - 1, ?_, by omega, q⟩)) fun H4 e4 => q _ (((e1.trans e2).trans e3).trans e4)
      show [V.int ((n : Int) - 1)] = _
      rw [show ((n : Int) - 1) = ((n - 1 : Nat) : Int) by omega]
def spTog (K : PySem.W.Frag) : Sp := fun vs H Q _ => ∃ (n m : Nat), vs = [.int n, .int m] ∧ 1 ≤ m ∧ m ≤ n ∧ n ≤ 40 ∧ RetV (vN (fact n / m)) H Q
theorem ok_tog {f fCkN fAllL : Addr} {fd fdCkN fdAllL : FuncData} {k : Nat} (F : Fun K "together" "together" sTog f fd) (DCkN : Df K mg "check_number" sCkN ["thing", "least", "most"] fCkN fdCkN) (DAllL : Df K mg "all_layings" sAllL ["boxes"] fAllL fdAllL) (GCkN : FnOk P w K mg base CX0 (k + 2) fCkN fdCkN ["thing", "least", "most"] (spCkN K)) (GAllL : FnOk P w K mg base CX0 (k + 1) fAllL fdAllL ["boxes"] (spAllL K)) {t40 : Tok} (m_MOST_COUNTED : mg "MOST_COUNTED" = some (.int 40 t40)) : FnOk P w K mg base CX0 (k + 3) f fd ["boxes", "many"] (spTog K) := by
  refine F.ok scTog (fun vs H Q E h => ?_) (fun cdv A outer s H vs Q E hr h => ?_)
  · obtain ⟨n, m, rfl, _⟩ := h
    rfl
  · obtain ⟨n, m, rfl, h1, h2, hn, q⟩ := h
    refine ⟨_, (pss_cons (ps_expr (pcall DCkN GCkN (hr.mono (by omega)) (pa_cons (pv 0) (pa_cons pe_int (pa_cons (pe_glob (v := .int 40) (by rfl) m_MOST_COUNTED ⟨_, rfl⟩) pa_nil)))))
      (pss_cons (ps_expr (pcall DCkN GCkN (hr.mono (by omega)) (pa_cons (pv 1) (pa_cons pe_int (pa_cons (pv 0) pa_nil)))))
      (pss_one (ps_ret (pe_op op_fdivW (pcall DAllL GAllL (hr.mono (by omega)) (pa_cons (pv 0) pa_nil)) (pv 1)))))), ?_⟩
    refine q_drop (ev_call (z := .non) (ea_cons (ev_var (v := .int n) rfl) (ea_cons ev_c (ea_cons ev_c ea_nil))) (SpV.of fun H1 e1 Q q E => ⟨_, _, _, rfl, by omega, by omega, q⟩)) fun H1 e1 => ?_
    refine q_drop (ev_call (z := .non) (ea_cons (ev_var (v := .int m) rfl) (ea_cons ev_c (ea_cons (ev_var (v := .int n) rfl) ea_nil))) (SpV.of fun H1 e1 Q q E => ⟨_, _, _, rfl, by omega, by omega, q⟩)) fun H2 e2 => ?_
    refine s_ret (ev_is (ev_op (ev_call (z := vN (fact n)) (ea_cons (ev_var (v := .int n) rfl) ea_nil) (SpV.of fun H1 e1 Q q E => ⟨n, rfl, hn, q⟩)) (ev_var (v := .int m) rfl) (rv_I (wide_div (b := 6) (by omega) (by rw [Int.natAbs_natCast]; exact Nat.lt_of_le_of_lt h2 (by omega)) (by decide) (by decide)))) ?_) fun H4 e4 => q _ ((e1.trans e2).trans e4)
    show V.int _ = V.int _
    rw [Int.natCast_ediv]
end
end Kw
set_option Elab.async false
set_option linter.all false
set_option maxRecDepth 100000
set_option maxHeartbeats 1000000
namespace Kw
open PySem PySem.Spec PyProof.Rows L2 Evl
/-! ### nine counters -/
def cs9 (f : Nat → Nat) : List V := (List.range 9).map fun k => vN (f k)
theorem cs_len (f : Nat → Nat) : (cs9 f).length = 9 := by unfold cs9; rw [List.length_map, List.length_range]
theorem cs_get {f : Nat → Nat} {k : Nat} (h : k < 9) : atI (cs9 f) (k : Int) = some (vN (f k)) := atI_nat (by unfold cs9; rw [List.getElem?_map, List.getElem?_range h]; rfl)
theorem cs_ext {f g : Nat → Nat} (h : ∀ k, k < 9 → f k = g k) : cs9 f = cs9 g := List.map_congr_left fun k hk => by rw [h k (List.mem_range.mp hk)]
theorem cs_set {f g : Nat → Nat} {j : Nat} (hj : g j = f j + 1) (hk : ∀ k, k < 9 → k ≠ j → g k = f k) : (cs9 f).set j (.int ((f j : Int) + 1)) = cs9 g := by
  apply List.ext_getElem?
  intro i
  rw [List.getElem?_set]
  unfold cs9
  rw [List.getElem?_map, List.getElem?_map, List.length_map, List.length_range]
  by_cases h : j = i
  · subst h
    rw [if_pos rfl]
    by_cases h9 : j < 9
    · rw [if_pos h9, List.getElem?_range h9]
      show some (V.int ((f j : Int) + 1)) = some (vN (g j))
      rw [hj]
      rfl
    · rw [if_neg h9, List.getElem?_eq_none (by rw [List.length_range]; omega)]
      rfl
  · rw [if_neg h]
    by_cases h9 : i < 9
    · rw [List.getElem?_range h9]
      show some (vN (f i)) = some (vN (g i))
      rw [hk i h9 (Ne.symm h)]
    · rw [List.getElem?_eq_none (by rw [List.length_range]; omega)]
      rfl
theorem cs_zero : List.replicate 9 (V.int 0) = cs9 fun _ => 0 := rfl
def fC (b i k : Nat) : Nat := ((allS b b).take i).countP (PC9 k)
def fZ (b i k : Nat) : Nat := if b = 0 then 0 else ((allS b b).take i).countP (PZ9 k)
def fF (b i k : Nat) : Nat := if 1 ≤ k ∧ k ≤ b then ((allS b b).take i).countP (PF9 k) else 0
theorem cP_succ {α : Type} {L : List α} {i : Nat} {x : α} (h : L[i]? = some x) (p : α → Bool) : (L.take (i + 1)).countP p = (L.take i).countP p + if p x = true then 1 else 0 := by
  rw [List.take_add_one, h, List.countP_append]
  show _ + List.countP p [x] = _
  rw [List.countP_singleton]
theorem fC_succ {b i : Nat} {lay : List Nat} (h : (allS b b)[i]? = some lay) (k : Nat) : fC b (i + 1) k = fC b i k + if k = cnt lay then 1 else 0 := by
  unfold fC
  rw [cP_succ h]
  unfold PC9
  by_cases z : cnt lay = k
  · rw [if_pos (by rw [z]; exact decide_eq_true rfl), if_pos z.symm]
  · rw [if_neg (by simpa using z), if_neg (Ne.symm z)]
theorem fZ_succ {b i : Nat} {lay : List Nat} (h : (allS b b)[i]? = some lay) (hb : 0 < b) (k : Nat) : fZ b (i + 1) k = fZ b i k + if k = per lay 0 then 1 else 0 := by
  unfold fZ
  rw [if_neg (by omega), if_neg (by omega), cP_succ h]
  unfold PZ9
  by_cases z : per lay 0 = k
  · rw [if_pos (by rw [z]; exact decide_eq_true rfl), if_pos z.symm]
  · rw [if_neg (by simpa using z), if_neg (Ne.symm z)]
/-- the third, many boxes of the last laying looked at -/
def fG (b i : Nat) (lay : List Nat) (t k : Nat) : Nat := fF b i k + if 1 ≤ k ∧ k < 1 + t ∧ PF9 k lay = true then 1 else 0
theorem fG_zero (b i : Nat) (lay : List Nat) (k : Nat) : fG b i lay 0 k = fF b i k := by
  unfold fG
  rw [if_neg (by omega)]
  rfl
theorem fG_end {b i : Nat} {lay : List Nat} (h : (allS b b)[i]? = some lay) (k : Nat) : fG b i lay b k = fF b (i + 1) k := by
  unfold fG fF
  rw [cP_succ h]
  by_cases z : 1 ≤ k ∧ k ≤ b
  · rw [if_pos z, if_pos z]
    by_cases y : PF9 k lay = true
    · rw [if_pos ⟨z.1, by omega, y⟩, if_pos y]
    · rw [if_neg (fun w => y w.2.2), if_neg y]
  · rw [if_neg z, if_neg z, if_neg (by omega)]
theorem fG_no {b i t : Nat} {lay : List Nat} (h : PF9 (1 + t) lay = false) (k : Nat) : fG b i lay t k = fG b i lay (t + 1) k := by
  unfold fG
  by_cases z : k = 1 + t
  · subst z
    rw [if_neg (by omega), if_neg (by rw [h]; simp)]
  · by_cases y : 1 ≤ k ∧ k < 1 + t ∧ PF9 k lay = true
    · rw [if_pos y, if_pos ⟨y.1, by omega, y.2.2⟩]
    · rw [if_neg y, if_neg (fun w => y ⟨w.1, by omega, w.2.2⟩)]
theorem fG_yes {b i t : Nat} {lay : List Nat} (h : PF9 (1 + t) lay = true) : fG b i lay (t + 1) (1 + t) = fG b i lay t (1 + t) + 1 ∧ ∀ k, k ≠ 1 + t → fG b i lay (t + 1) k = fG b i lay t k := by
  unfold fG
  refine ⟨?_, fun k z => ?_⟩
  · rw [if_pos ⟨by omega, by omega, h⟩, if_neg (by omega)]
  · by_cases y : 1 ≤ k ∧ k < 1 + t ∧ PF9 k lay = true
    · rw [if_pos y, if_pos ⟨y.1, by omega, y.2.2⟩]
    · rw [if_neg y, if_neg (fun w => y ⟨w.1, by omega, w.2.2⟩)]
theorem f_zero (b k : Nat) : fC b 0 k = 0 ∧ fZ b 0 k = 0 ∧ fF b 0 k = 0 := by
  refine ⟨rfl, ?_, ?_⟩
  · unfold fZ; split <;> rfl
  · unfold fF; split <;> rfl
theorem none_in {r : List Nat} {n : Nat} : decide ((List.range n).filter (fun x => !decide (x ∈ r)) = []) = (List.range n).all fun x => decide (x ∈ r) := by
  cases e : (List.range n).all fun x => decide (x ∈ r) with
  | true =>
    refine decide_eq_true (List.filter_eq_nil_iff.mpr fun x hx => ?_)
    have := List.all_eq_true.mp e x hx
    simpa using this
  | false =>
    refine decide_eq_false fun z => ?_
    have : ((List.range n).all fun x => decide (x ∈ r)) = true := List.all_eq_true.mpr fun x hx => by
      have := List.filter_eq_nil_iff.mp z x hx
      simpa using this
    rw [this] at e
    cases e
/-- the program's counts by tables -/
theorem tabC : ∀ b, b < 8 → ∀ t : Nat, t < 13 → wr b ((t : Int) - 2) = if 2 ≤ t ∧ t < 11 then sC9 b / B9 ^ (t - 2) % B9 else 0 := by decide +kernel
theorem tabZ : ∀ b, b < 8 → 0 < b → ∀ t : Nat, t < 13 → ws b ((t : Int) - 2) = if 2 ≤ t ∧ t < 11 then sZ9 b / B9 ^ (t - 2) % B9 else 0 := by decide +kernel
theorem tabF : ∀ b, b < 8 → ∀ m, m < 8 → 1 ≤ m → m ≤ b → fact b / m = sF9 b / B9 ^ m % B9 := by decide +kernel
theorem tabB : ∀ b, b < 8 → wr b (10 ^ 30) = 0 := by decide +kernel
theorem tab1 : ∀ b, b < 8 → 1 ≤ b → 1 ≤ wr b 1 := by decide +kernel
theorem endC {b t : Nat} (hb : b < 8) (ht : t < 13) : wr b ((t : Int) - 2) = if 2 ≤ t ∧ t < 11 then fC b (allS b b).length (t - 2) else 0 := by
  rw [tabC b hb t ht]
  by_cases z : 2 ≤ t ∧ t < 11
  · rw [if_pos z, if_pos z]
    unfold fC
    rw [List.take_length, countC hb (by omega)]
  · rw [if_neg z, if_neg z]
theorem endZ {b t : Nat} (hb : b < 8) (h0 : 0 < b) (ht : t < 13) : ws b ((t : Int) - 2) = if 2 ≤ t ∧ t < 11 then fZ b (allS b b).length (t - 2) else 0 := by
  rw [tabZ b hb h0 t ht]
  by_cases z : 2 ≤ t ∧ t < 11
  · rw [if_pos z, if_pos z]
    unfold fZ
    rw [if_neg (by omega), List.take_length, countZ hb h0 (by omega)]
  · rw [if_neg z, if_neg z]
theorem endF {b m : Nat} (hb : b < 8) (h1 : 1 ≤ m) (h2 : m ≤ b) : fact b / m = fF b (allS b b).length m := by
  rw [tabF b hb m (by omega) h1 h2]
  unfold fF
  rw [if_pos ⟨h1, h2⟩, List.take_length, countF hb (by omega) (by omega)]
end Kw
set_option Elab.async false
set_option linter.all false
set_option maxRecDepth 100000
set_option maxHeartbeats 4000000
namespace Kw
open PySem PySem.Spec PyProof.Rows L2 Evl
/-! ### enumerate of a tuple -/
def itO (l : Addr) : Obj := { cls := .type "tuple_iterator", data := .fields #[.ref l, .int 0 0] }
def enO (i : Addr) : Obj := { cls := .type "enumerate", data := .fields #[.none, .bool false, .ref i, rawInt 0, .none, .none] }
open AutoSeq1 (wpAny_loadPart') in
theorem meets_enT (l : Addr) (xs : Array Value) (n : Nat) (dd : Option Addr) (ss : Array (Option Value)) : Meets (Builtin.«enumerate.__new__» ⟨[.type "enumerate", .ref l], []⟩)
    (fun _ R s => s.heap.get? l = some { cls := .type "tuple", dict := dd, data := .seq xs n, slots := ss } ∧ R (.ok (.ret (.ref (s.heap.push (itO l)).objs.size))) { s with heap := (s.heap.push (itO l)).push (enO s.heap.objs.size) }) := by
  refine .of_wp fun prog w A R st hyp => ?_
  obtain ⟨h0, g0, d0, t0, o0⟩ := st
  obtain ⟨ho, hR⟩ := hyp
  have sb := sub_enumerate
  have hT : Heap.IsTuple (Shared.heap ⟨h0, g0, d0, t0, o0⟩) l xs := ⟨_, ho, rfl, n, rfl⟩
  wp_walk using wpAny_loadPart' ho
  refine wpAny_stack_any fun stk => (wpAny_pure ?_)
  split
  · rename_i cc _ _ _ _ _
    cases (cc == Value.type "enumerate") <;> (wp_walk using wpAny_loadPart' ho, wpAny_pyIter_tuple hT) <;> exact ⟨_, rfl, hR⟩
  · wp_walk using wpAny_loadPart' ho, wpAny_pyIter_tuple hT
    exact (⟨_, rfl, hR⟩)
theorem call_enumT {prog : Program} {w : World} {A : Around} {E : Value → Shared → Prop} {s : Shared} {l : Addr} {xs : Array Value} {Q : Value → Shared → Prop} (hT : s.heap.IsTuple l xs)
    (h : ∀ h', IsEnum h' (s.heap.objs.size + 1) s.heap.objs.size 0 .none → h'.IsTupleIter s.heap.objs.size l 0 → (∀ b o, s.heap.get? b = some o → h'.get? b = some o) → Q (.ref (s.heap.objs.size + 1)) { s with heap := h' }) :
    wpAny (model prog w) A (call (.type "enumerate") [.ref l]) Q E s := by
  obtain ⟨⟨c, dd, dt, ss⟩, ho, hc, n, hd⟩ := hT
  cases (show c = .type "tuple" from hc)
  cases (show dt = .seq xs n from hd)
  refine callType_new F.called_enumerate (by decide) (F.typeCall_enumerate_1 _) (F.newCall_enumerate_1 _) (fun ob => F.args_object_init_2 ob _) F.entry_enumerate_new (meets_enT l xs n dd ss) ⟨ho, ?_⟩
  have z1 : (s.heap.push (itO l)).objs.size = s.heap.objs.size + 1 := Heap.size_push ..
  have he : IsEnum ((s.heap.push (itO l)).push (enO s.heap.objs.size)) (s.heap.objs.size + 1) s.heap.objs.size 0 .none := by
    have q := Heap.get?_push_size (s.heap.push (itO l)) (o := enO s.heap.objs.size) rfl
    rw [z1] at q
    exact q
  show _ ∧ _
  rw [z1]
  exact ⟨⟨_, he, rfl⟩, h _ he ⟨_, Heap.get?_push_of_some _ (Heap.get?_push_size _ rfl), rfl, rfl⟩ fun b o x => Heap.get?_push_of_some _ (Heap.get?_push_of_some _ x)⟩
/-- the tuple at a, each item in a new pair with its number -/
def IteT (K : PySem.W.Frag) (a : Addr) : It where
  go := fun i H => ∃ (xs : List V) (x : V), SqT K H a xs ∧ xs[i]? = some x
  yld := fun i H v H' => ∃ T x, v = .ref T ∧ H T = none ∧ H' = upd H T (.tup [.int (i : Nat), x]) ∧ ∀ xs, SqT K H a xs → xs[i]? = some x
  stop := fun i H => ∃ xs : List V, SqT K H a xs ∧ xs.length = i
theorem turn_enT {P : Program} {w : World} {K : PySem.W.Frag} {es : List Expr} {kk : Nat} {tp : Pos} {a e it : Addr} (n1 : e ≠ it) (n2 : a ≠ it) (n3 : e ≠ a) :
    Turn P w K (.Tuple es kk tp) (IteT K a) [e, it] e (fun i h => (∃ old, IsEnum h e it ((i : Nat) : Int) old) ∧ h.IsTupleIter it a i) where
  mem := List.mem_cons_self ..
  obj := fun i h st b hb => by
    obtain ⟨⟨old, he⟩, ⟨o, ho, _, hd⟩⟩ := st
    rcases List.mem_cons.mp hb with rfl | hb
    · exact ⟨_, he, fun v q => nomatch q⟩
    · rw [List.mem_singleton.mp hb]
      exact ⟨o, ho, fun v q => by rw [hd] at q; cases q⟩
  keep := fun i h h' st k => by
    obtain ⟨⟨old, he⟩, hi⟩ := st
    exact ⟨⟨old, k e (by simp) _ he⟩, hi.at fun o q => k it (by simp) o q⟩
  item := by
    intro X hP hw hK hc i pins s σ H E I hf st hg
    cases hP
    cases hw
    cases hK
    obtain ⟨⟨old, he⟩, hit⟩ := st
    obtain ⟨xs, x, hq, hx⟩ := hg
    obtain ⟨us, rv, p, _⟩ := I.tuple hq
    obtain ⟨u, hu, ru⟩ := rv.get hx
    have le1 : e < s.heap.objs.size := Heap.lt_size he
    have le2 : it < s.heap.objs.size := by
      obtain ⟨_, z, _⟩ := hit
      exact Heap.lt_size z
    have hlt : i < us.toArray.size := by
      have := (List.getElem?_eq_some_iff.mp hu).1
      simpa using this
    refine wpAny_pyNext_enum_itemD (Draws.tuple (A := X.A.in1) (I.ok.hd hc) it a n2 us.toArray) he ⟨hit, p⟩ hlt n1 (by simp [n1, n3]) fun y h1 tk hy ho hs hT hz hk => ?_
    have ey : y = u := by
      have : us[i]? = some y := by simpa using hy
      rw [hu] at this
      exact (Option.some.inj this).symm
    subst ey
    refine ⟨_, rfl, wpAny_letOwnedTupleGo_enum (s := { s with heap := h1, toks := tk + 1 }) ho fun h2 he2 sb => ?_⟩
    have hT2 : h2.get? s.heap.objs.size = some { cls := .type "tuple", data := .seq #[.int i tk, y] } := (sb.2 _ (Nat.ne_of_gt le1)).trans hT
    have nw : ObjOk X.prog X.w (upd H s.heap.objs.size (.tup [.int (i : Nat), x])) h2 s.heap.objs.size (.tup [.int (i : Nat), x]) := ⟨by show 2 ≤ sizeLine; decide, [.int i tk, y], .cons ⟨_, rfl⟩ (.cons ru .nil), ⟨_, hT2, rfl, _, rfl⟩⟩
    have I1 : Inv X pins σ (upd H s.heap.objs.size (.tup [.int (i : Nat), x])) { s with heap := h2, toks := tk + 1 } :=
      I.turnedNew (ch := [e, it]) (fun b ob hb q => (sb.2 b (fun z => hb (by rw [z]; simp))).trans (hk b ob (fun z => hb (by rw [z]; simp)) (fun z => hb (by rw [z]; simp)) q)) hf (Nat.le_refl _) nw
    refine ⟨.ref s.heap.objs.size, _, I1, rfl, ⟨_, x, rfl, I.hok.fresh (Nat.le_refl _), rfl, fun zs hz => by rw [I.tuple_inj hz hq]; exact hx⟩, ⟨⟨y, ?_⟩, hs.1.at fun o q => (sb.2 it (Ne.symm n1)).trans q⟩, fun b hb => ?_⟩
    · rw [show ((i + 1 : Nat) : Int) = (i : Int) + 1 by omega]
      exact he2
    · have hb' : b < s.heap.objs.size := by
        rcases List.mem_cons.mp hb with rfl | hb
        · exact le1
        · rw [List.mem_singleton.mp hb]
          exact le2
      rw [upd_ne (Nat.ne_of_lt hb')]
      exact (hf b hb).1
  done := by
    intro X hP hw hK hc i pins s σ H E I hf st hg
    cases hP
    cases hw
    cases hK
    obtain ⟨⟨old, he⟩, hit⟩ := st
    obtain ⟨xs, hq, hx⟩ := hg
    obtain ⟨us, rv, p, _⟩ := I.tuple hq
    have hz : us.toArray.size = i := by
      rw [← hx, rv.length]
      simp
    obtain ⟨f0, f1, f2, f3, f4, f5⟩ := hf it (by simp)
    exact wpAny_pyNext_enum_endD (Draws.tuple (A := X.A.in1) (I.ok.hd hc) it a n2 us.toArray) he ⟨by rw [hz]; exact hit, p⟩ fun h1 eb => ⟨rfl, I.turned (t' := s.toks) (fun b o hb q => eb b o hb q) f0 f1 f3 f4 f5⟩
  self := fun A i s Q E st h => by
    obtain ⟨⟨_, he⟩, _⟩ := st
    exact wpAny_pyIter_enum he h
def iEnT (K : PySem.W.Frag) (ta : TA) : TI := fun σ H R => ta σ H fun vs H1 => ∃ a xs, vs = [.ref a] ∧ SqT K H1 a xs ∧ R (IteT K a) H1
theorem pi_enT {X : Cx} {e : Expr} {ta : TA} {p pos tp : Pos} {es : List Expr} {kk : Nat} (hg : Gl X "enumerate") (hm : X.mg "enumerate" = none) (ha : PA X [e] ta) (hs : starEach [e] X.env = [(false, eval e X.env)] := by rfl) :
    PI X (.Tuple es kk tp) (.Call (.Name "enumerate" p) [e] [] pos) (iEnT X.K ta) := by
  refine ⟨fun pins s σ H R I h => Call_ (ld_blt I hg hm PyProof.Rows.boot_enumerate (PyProof.Rows.callWith_type1 (thn (ha.run pos pins s σ H _ I h) fun us s1 ⟨vs, H1, I1, r1, q1⟩ => ?_) hs rfl))⟩
  obtain ⟨a, xs, rfl, hq, q⟩ := q1
  cases r1 with
  | cons r rr =>
    cases rr
    cases r
    obtain ⟨us, rv, pt, _⟩ := I1.tuple hq
    obtain ⟨oa, hoa, _⟩ := id pt
    have la : a < s1.heap.objs.size := Heap.lt_size hoa
    refine call_enumT pt fun h' he hit hk => wpAny_pyIter_enum he ⟨s1.heap.objs.size + 1, [s1.heap.objs.size + 1, s1.heap.objs.size], _, _, H1, rfl, I1.kept (t' := s1.toks) hk, turn_enT (Nat.succ_ne_self _) (Nat.ne_of_lt la) (Nat.ne_of_gt (Nat.lt_succ_of_lt la)), ⟨⟨.none, he⟩, hit⟩, fun b hb => ?_, q⟩
    have hle : s1.heap.objs.size ≤ b := by
      rcases List.mem_cons.mp hb with rfl | hb
      · exact Nat.le_succ _
      · rw [List.mem_singleton.mp hb]
        exact Nat.le_refl _
    exact I1.fpOk hle (I1.hok.fresh hle)
theorem walk_enT {K : PySem.W.Frag} {a : Addr} {xs : List V} : Walk (IteT K a) xs.length (fun H => SqT K H a xs) (YPair (fun i => some (.int (i : Nat))) (fun i => xs[i]?)) where
  goes := fun i _ hi q => ⟨xs, xs[i], q, List.getElem?_eq_getElem hi⟩
  stops := fun _ q => ⟨xs, q, rfl⟩
  yields := fun i H v H' _ q y => by
    obtain ⟨T, x, h1, h2, h3, h4⟩ := y
    exact ⟨T, _, x, h1, h2, h3, rfl, h4 xs q⟩
end Kw
set_option Elab.async false
set_option linter.all false
set_option maxRecDepth 100000
set_option maxHeartbeats 4000000
namespace Kw
open PySem PySem.Spec PyProof.Rows L2 Evl
/-! ### data compared -/
def dN (ns : List Nat) : List PyData := ns.map fun (i : Nat) => PyData.int (i : Int)
def dR (rs : List (List Nat)) : List PyData := rs.map fun r => PyData.tuple (dN r)
theorem lay_dN : ∀ ns : List Nat, PyData.canLayAll0 (dN ns) = true
  | [] => by simp [dN, PyData.canLayAll0]
  | a :: r => by
    have := lay_dN r
    simp only [dN, List.map_cons, PyData.canLayAll0, PyData.canLay0, Bool.true_and] at this ⊢
    exact this
theorem depth_dN : ∀ ns : List Nat, PyData.depthAll (dN ns) ≤ 1
  | [] => by simp [dN, PyData.depthAll]
  | a :: r => by
    have := depth_dN r
    simp only [dN, List.map_cons, PyData.depthAll, PyData.depth] at this ⊢
    omega
theorem lay_dR : ∀ rs : List (List Nat), PyData.canLayAll0 (dR rs) = true
  | [] => by simp [dR, PyData.canLayAll0]
  | a :: r => by
    have := lay_dR r
    have h2 := lay_dN a
    simp only [dR, List.map_cons, PyData.canLayAll0, PyData.canLay0, Bool.and_eq_true] at this ⊢
    exact ⟨h2, this⟩
theorem depth_dR : ∀ rs : List (List Nat), PyData.depthAll (dR rs) ≤ 2
  | [] => by simp [dR, PyData.depthAll]
  | a :: r => by
    have := depth_dR r
    have h2 := depth_dN a
    simp only [dR, List.map_cons, PyData.depthAll, PyData.depth] at this ⊢
    omega
theorem shaped_lN (ns : List Nat) : SeqAt.shaped (.list (dN ns)) = true := by
  have h1 := depth_dN ns
  refine Bool.and_eq_true_iff.mpr ⟨?_, decide_eq_true ?_⟩
  · rw [PyData.canLay0]
    exact lay_dN ns
  · rw [PyData.depth]
    omega
theorem shaped_tN (ns : List Nat) : SeqAt.shaped (.tuple (dN ns)) = true := by
  have h1 := depth_dN ns
  refine Bool.and_eq_true_iff.mpr ⟨?_, decide_eq_true ?_⟩
  · rw [PyData.canLay0]
    exact lay_dN ns
  · rw [PyData.depth]
    omega
theorem shaped_lR (rs : List (List Nat)) : SeqAt.shaped (.list (dR rs)) = true := by
  have h1 := depth_dR rs
  refine Bool.and_eq_true_iff.mpr ⟨?_, decide_eq_true ?_⟩
  · rw [PyData.canLay0]
    exact lay_dR rs
  · rw [PyData.depth]
    omega
theorem eqv_dN : ∀ a b : List Nat, PyData.eqvAll (dN a) (dN b) = decide (a = b)
  | [], [] => by simp [dN, PyData.eqvAll]
  | [], _ :: _ => by simp [dN, PyData.eqvAll]
  | _ :: _, [] => by simp [dN, PyData.eqvAll]
  | x :: r, y :: t => by
    have ih := eqv_dN r t
    simp only [dN, List.map_cons, PyData.eqvAll, PyData.eqv] at ih ⊢
    rw [ih]
    by_cases h1 : x = y
    · subst h1
      by_cases h2 : r = t
      · subst h2
        simp
      · simp [h2]
    · have : ((x : Int) == (y : Int)) = false := by
        apply beq_eq_false_iff_ne.mpr
        omega
      rw [this]
      simp [h1]
theorem eqv_dR : ∀ a b : List (List Nat), PyData.eqvAll (dR a) (dR b) = decide (a = b)
  | [], [] => by simp [dR, PyData.eqvAll]
  | [], _ :: _ => by simp [dR, PyData.eqvAll]
  | _ :: _, [] => by simp [dR, PyData.eqvAll]
  | x :: r, y :: t => by
    have ih := eqv_dR r t
    have e := eqv_dN x y
    simp only [dR, List.map_cons, PyData.eqvAll, PyData.eqv] at ih ⊢
    rw [ih, e]
    by_cases h1 : x = y
    · subst h1
      by_cases h2 : r = t
      · subst h2
        simp
      · simp [h2]
    · simp [h1]
section
variable {K : PySem.W.Frag} {H H' : Hp} {σ : L2.St} {ta tb : TE}
theorem dp_nats : ∀ ns : List Nat, DpAll K H (ns.map vN) (dN ns)
  | [] => .nil
  | a :: r => .cons (.int _) (dp_nats r)
theorem dp_tups : ∀ {ys : List V} {rs : List (List Nat)}, TupsAt K H ys rs → DpAll K H ys (dR rs)
  | _, _, .nil => .nil
  | _, _, .cons h t => by
    obtain ⟨a, rfl, ha⟩ := h
    exact .cons (.tup ha (dp_nats _)) (dp_tups t)
theorem rv_eqLN {p q : Addr} {a b : List Nat} (h1 : SqL K H p (a.map vN)) (h2 : SqL K H q (b.map vN)) : RV (rEqD K) (.ref p) (.ref q) H (.bl (decide (a = b))) := fun H1 e Q k =>
  ⟨_, _, .lst (ex_l e h1) (dp_nats a), .lst (ex_l e h2) (dp_nats b), shaped_lN a, shaped_lN b, by
    rw [show PyData.eqv (.list (dN a)) (.list (dN b)) = decide (a = b) by rw [PyData.eqv, eqv_dN]]
    exact k H1 (Ex.refl H1)⟩
theorem rv_neLN {p q : Addr} {a b : List Nat} (h1 : SqL K H p (a.map vN)) (h2 : SqL K H q (b.map vN)) : RV (rNeD K) (.ref p) (.ref q) H (.bl (!decide (a = b))) := fun H1 e Q k =>
  ⟨_, _, .lst (ex_l e h1) (dp_nats a), .lst (ex_l e h2) (dp_nats b), shaped_lN a, shaped_lN b, by
    rw [show PyData.eqv (.list (dN a)) (.list (dN b)) = decide (a = b) by rw [PyData.eqv, eqv_dN]]
    exact k H1 (Ex.refl H1)⟩
theorem rv_neTN {p q : Addr} {a b : List Nat} (h1 : SqT K H p (a.map vN)) (h2 : SqT K H q (b.map vN)) : RV (rNeD K) (.ref p) (.ref q) H (.bl (!decide (a = b))) := fun H1 e Q k =>
  ⟨_, _, .tup (ex_t e h1) (dp_nats a), .tup (ex_t e h2) (dp_nats b), shaped_tN a, shaped_tN b, by
    rw [show PyData.eqv (.tuple (dN a)) (.tuple (dN b)) = decide (a = b) by rw [PyData.eqv, eqv_dN]]
    exact k H1 (Ex.refl H1)⟩
theorem rv_eqTN {p q : Addr} {a b : List Nat} (h1 : SqT K H p (a.map vN)) (h2 : SqT K H q (b.map vN)) : RV (rEqD K) (.ref p) (.ref q) H (.bl (decide (a = b))) := fun H1 e Q k =>
  ⟨_, _, .tup (ex_t e h1) (dp_nats a), .tup (ex_t e h2) (dp_nats b), shaped_tN a, shaped_tN b, by
    rw [show PyData.eqv (.tuple (dN a)) (.tuple (dN b)) = decide (a = b) by rw [PyData.eqv, eqv_dN]]
    exact k H1 (Ex.refl H1)⟩
theorem rv_neLR {p q : Addr} {ys zs : List V} {a b : List (List Nat)} (h1 : SqL K H p ys) (t1 : TupsAt K H ys a) (h2 : SqL K H q zs) (t2 : TupsAt K H zs b) : RV (rNeD K) (.ref p) (.ref q) H (.bl (!decide (a = b))) := fun H1 e Q k =>
  ⟨_, _, .lst (ex_l e h1) (dp_tups (t1.keep (KeepT.ex e))), .lst (ex_l e h2) (dp_tups (t2.keep (KeepT.ex e))), shaped_lR a, shaped_lR b, by
    rw [show PyData.eqv (.list (dR a)) (.list (dR b)) = decide (a = b) by rw [PyData.eqv, eqv_dR]]
    exact k H1 (Ex.refl H1)⟩
end
end Kw
set_option Elab.async false
set_option linter.all false
set_option maxRecDepth 100000
set_option maxHeartbeats 4000000
namespace Kw
open PySem PySem.Spec PyProof.Rows L2 Evl
/-! ### what is left of a text without its letters -/
def low (c : Nat) : Bool := decide (97 ≤ c) && decide (c ≤ 122)
def lowB (z : Str) : Bool := z.cps.toList.all low
theorem str_ext {a b : Str} (h : a.cps.toList = b.cps.toList) : a = b := by
  cases a; cases b
  congr 1
  exact Array.toList_inj.mp h
theorem str_nil (a : Str) : a = ("" : Str) ↔ a.cps.toList = [] := by
  constructor
  · rintro rfl
    rfl
  · intro h
    exact str_ext h
theorem strip_nil (goes : Nat → Bool) (x : Str) : Txt.stripBy goes true true x = ("" : Str) ↔ x.cps.toList.all goes = true := by
  have hx : x.length = x.cps.toList.length := rfl
  generalize hl : x.cps.toList = l at hx
  constructor
  · intro h
    rcases hall : l.all goes with _ | _
    · exfalso
      have htw := List.takeWhile_append_dropWhile (p := goes) (l := l)
      cases hd : l.dropWhile goes with
      | nil =>
        rw [hd, List.append_nil] at htw
        have : l.all goes = true := by
          rw [← htw]
          exact List.all_takeWhile
        rw [this] at hall
        cases hall
      | cons c r =>
        have hc : goes c = false := by
          have := List.head_dropWhile_not goes (l := l) (by rw [hd]; exact List.cons_ne_nil _ _)
          simpa [hd] using this
        have hdrop : l.drop (l.takeWhile goes).length = c :: r := by
          rw [hd] at htw
          have h3 := List.drop_left (l₁ := l.takeWhile goes) (l₂ := c :: r)
          rw [htw] at h3
          exact h3
        have hlen : l.length = (l.takeWhile goes).length + (r.length + 1) := by
          conv => lhs; rw [← htw, hd]
          rw [List.length_append, List.length_cons]
        have hrev : (((c :: r).reverse).takeWhile goes).length ≤ r.length := by
          rw [List.reverse_cons]
          rw [List.takeWhile_append]
          split
          · rw [List.takeWhile_cons_of_neg (by rw [hc]; decide), List.append_nil, List.length_reverse]
            exact Nat.le_refl _
          · have := (List.takeWhile_prefix (p := goes) (l := r.reverse)).length_le
            rw [List.length_reverse] at this
            exact this
        unfold Txt.stripBy at h
        split at h
        · rw [str_nil, hl] at h
          rw [h] at hlen
          simp at hlen
        · unfold PySem.stripped at h
          rw [str_nil] at h
          unfold PySem.Builtin.Str.strSub at h
          have h2 := congrArg List.length h
          simp only [PySem.stripLo, PySem.stripHi, if_true, hl, Array.length_toList, Array.size_extract, List.length_nil, hdrop] at h2
          rw [show x.cps.size = l.length by rw [← hl]; rfl, hx] at h2
          omega
    · rfl
  · intro hall
    have htw : l.takeWhile goes = l := by
      have h2 := List.all_eq_true.mp hall
      clear hall hl hx
      induction l with
      | nil => rfl
      | cons a r ih =>
        rw [List.takeWhile_cons_of_pos (h2 a (List.mem_cons_self ..)), ih fun b hb => h2 b (List.mem_cons_of_mem _ hb)]
    unfold Txt.stripBy
    split
    · next hs =>
      unfold PySem.stripSame PySem.stripLo at hs
      rw [hl, htw] at hs
      simp at hs
      rw [str_nil, hl]
      exact hs.1
    · rw [str_nil]
      unfold PySem.stripped PySem.Builtin.Str.strSub PySem.stripLo
      simp only [if_true, hl, htw]
      apply List.eq_nil_of_length_eq_zero
      rw [Array.length_toList, Array.size_extract]
      unfold PySem.stripHi
      rw [show x.cps.size = l.length by rw [← hl]; rfl]
      omega
theorem goes_low (c : Nat) : (Str.ofString "abcdefghijklmnopqrstuvwxyz").cps.contains c = low c := by
  have e : (Str.ofString "abcdefghijklmnopqrstuvwxyz").cps = ((List.range 26).map (97 + ·)).toArray := by decide +kernel
  rw [e]
  have h : ((List.range 26).map (97 + ·)).toArray.contains c = true ↔ low c = true := by
    rw [Array.contains_iff_mem, List.mem_toArray, List.mem_map]
    unfold low
    rw [Bool.and_eq_true, decide_eq_true_eq, decide_eq_true_eq]
    constructor
    · rintro ⟨i, hi, rfl⟩
      have := List.mem_range.mp hi
      omega
    · rintro ⟨h1, h2⟩
      exact ⟨c - 97, List.mem_range.mpr (by omega), by omega⟩
  cases h1 : ((List.range 26).map (97 + ·)).toArray.contains c <;> cases h2 : low c
  · rfl
  · rw [h.mpr h2] at h1; cases h1
  · rw [h.mp h1] at h2; cases h2
  · rfl
theorem strip_low (x : Str) : decide (V.str (Txt.stripChars x (Str.ofString "abcdefghijklmnopqrstuvwxyz")) = V.str ("" : Str)) = lowB x := by
  have h := strip_nil (Str.ofString "abcdefghijklmnopqrstuvwxyz").cps.contains x
  have e : x.cps.toList.all (Str.ofString "abcdefghijklmnopqrstuvwxyz").cps.contains = lowB x := by
    unfold lowB
    congr 1
    funext c
    exact goes_low c
  rw [e] at h
  cases hb : lowB x with
  | true => exact decide_eq_true (congrArg V.str (h.mpr hb))
  | false =>
    refine decide_eq_false fun z => ?_
    have := h.mp (V.str.inj z)
    rw [this] at hb
    cases hb
theorem joinL_nil : ∀ l : List (List Nat), TL.joinL [] l = l.flatten
  | [] => rfl
  | [p] => by simp [TL.joinL]
  | p :: q :: r => by
    show p ++ ([] ++ TL.joinL [] (q :: r)) = _
    rw [joinL_nil (q :: r)]
    rfl
theorem join_low (zs : List Str) : lowB (Txt.join ("" : Str) zs) = zs.all lowB := by
  unfold lowB
  rw [show (Txt.join ("" : Str) zs).cps.toList = (zs.map fun z => z.cps.toList).flatten from ?_]
  · rw [List.all_flatten, List.all_map]
    rfl
  · rw [TL.join_eq]
    exact (TL.tl_join ("" : Str) zs).trans (joinL_nil _)
end Kw
set_option Elab.async false
set_option linter.all false
set_option maxRecDepth 100000
set_option maxHeartbeats 4000000
namespace Kw
open PySem PySem.Spec PyProof.Rows L2 Evl
section
variable {K : PySem.W.Frag} {σ : L2.St} {H H' : Hp} {ta tb tc te tl : TE} {t u : TT} {x y z v : V} {r r' : R2} {d e : PyData}
theorem rv_eqDp (h1 : Dp K H x d) (h2 : Dp K H y e) (s1 : SeqAt.shaped d = true) (s2 : SeqAt.shaped e = true) : RV (rEqD K) x y H (.bl (PyData.eqv d e)) := fun H1 e1 Q q => ⟨d, e, dp_ex e1 _ _ h1, dp_ex e1 _ _ h2, s1, s2, q H1 (Ex.refl H1)⟩
theorem rv_neDp (h1 : Dp K H x d) (h2 : Dp K H y e) (s1 : SeqAt.shaped d = true) (s2 : SeqAt.shaped e = true) : RV (rNeD K) x y H (.bl (!PyData.eqv d e)) := fun H1 e1 Q q => ⟨d, e, dp_ex e1 _ _ h1, dp_ex e1 _ _ h2, s1, s2, q H1 (Ex.refl H1)⟩
theorem lay_strs : ∀ cs : List Str, (∀ c ∈ cs, PyData.strOk c = true) → PyData.canLayAll0 (cs.map PyData.str) = true
  | [], _ => by simp [PyData.canLayAll0]
  | a :: r, h => by
    have h1 := lay_strs r fun c hc => h c (List.mem_cons_of_mem _ hc)
    have h2 := h a (List.mem_cons_self ..)
    simp only [List.map_cons, PyData.canLayAll0, PyData.canLay0, h1, h2, Bool.and_true]
theorem depth_strs : ∀ cs : List Str, PyData.depthAll (cs.map PyData.str) ≤ 1
  | [] => by simp [PyData.depthAll]
  | a :: r => by
    have := depth_strs r
    simp only [List.map_cons, PyData.depthAll, PyData.depth]
    omega
theorem shaped_lS {cs : List Str} (h : ∀ c ∈ cs, PyData.strOk c = true) : SeqAt.shaped (.list (cs.map PyData.str)) = true := by
  have := depth_strs cs
  unfold SeqAt.shaped
  rw [Bool.and_eq_true, decide_eq_true_eq]
  exact ⟨by simp only [PyData.canLay0]; exact lay_strs cs h, by simp only [PyData.depth]; omega⟩
theorem shaped_tS {cs : List Str} (h : ∀ c ∈ cs, PyData.strOk c = true) : SeqAt.shaped (.tuple (cs.map PyData.str)) = true := by
  have := depth_strs cs
  unfold SeqAt.shaped
  rw [Bool.and_eq_true, decide_eq_true_eq]
  exact ⟨by simp only [PyData.canLay0]; exact lay_strs cs h, by simp only [PyData.depth]; omega⟩
theorem strOk_low {z : Str} (h : lowB z = true) : PyData.strOk z = true := by
  unfold PyData.strOk
  rw [Array.all_eq_true_iff_forall_mem]
  intro c hc
  have := List.all_eq_true.mp h c (by simpa using hc)
  unfold low at this
  rw [Bool.and_eq_true, decide_eq_true_eq, decide_eq_true_eq] at this
  exact decide_eq_true (by omega)
theorem eqv_nilL (ds : List PyData) : PyData.eqv (.list ds) (.list []) = decide (ds = []) := by
  cases ds <;> simp [PyData.eqv, PyData.eqvAll]
theorem eqv_nilT (ds : List PyData) : PyData.eqv (.tuple ds) (.tuple []) = decide (ds = []) := by
  cases ds <;> simp [PyData.eqv, PyData.eqvAll]
theorem shaped_nilL : SeqAt.shaped (.list []) = true := by decide +kernel
theorem shaped_nilT : SeqAt.shaped (.tuple []) = true := by decide +kernel
/-- a tuple of what is asked, new or old -/
theorem ep_catA {a : Addr} {xs ys : List V} (ha : Ev ta σ H (.ref a)) (hx : SqT K H a xs) (hb : EvU tb σ H ys) (hn : xs.length + ys.length ≤ 100000) : EvP (tOp (rCatA K) ta tb) σ H (IsT K (xs ++ ys)) := fun H1 e Q q =>
  ha H1 e _ fun H2 e2 => hb H2 (e.trans e2) _ fun b H3 nb e3 hb3 => by
    have hx3 := ex_t ((e.trans e2).trans e3) hx
    refine ⟨a, b, xs, ys, rfl, rfl, hx3, st_of hb3, sz_of hn, fun h => ?_, fun h h' => ?_, fun h h' p hp => ?_⟩
    · subst h
      exact q _ H3 (e2.trans e3) ⟨b, rfl, st_of hb3⟩
    · subst h'
      exact q _ H3 (e2.trans e3) ⟨a, rfl, by rw [List.append_nil]; exact hx3⟩
    · exact q _ _ ((e2.trans e3).trans (Ex.new hp)) ⟨p, rfl, st_of upd_same⟩
end
end Kw
set_option Elab.async false
set_option linter.all false
set_option maxRecDepth 100000
/-! several clauses 'except K as n', all with the same name n, in slot j -/
namespace KwX
open PySem PySem.Spec PyProof.Rows L2
abbrev Cl := Value × (Addr → Value → Option Addr → TS)
/-- the ends of a suite behind which slot j is empty again -/
def goneE (j : Nat) (D : Ends) : Ends := ⟨fun τ G => D.nx (τ.set j none) G, D.rt, fun τ G => D.bk (τ.set j none) G, fun τ G => D.ct (τ.set j none) G⟩
def wAsM (K : PySem.W.Frag) (j : Nat) (Wo : WX) (D : Ends) : List Cl → WX
  | [] => Wo
  | (kc, tz) :: more => fun cls d τ G => ∃ yes, PySem.W.exmOne K cls kc = some yes ∧ (yes = true → ∀ e, G e = none → tz e cls d (goneE j D) (τ.set j (some (.ref e))) G) ∧ (yes = false → wAsM K j Wo D more cls d τ G)
inductive HdsAs (X : Cx) (n : Str) : List ExceptHandler → List Cl → Prop
  | nil : HdsAs X n [] []
  | cons {y : Str} {kc : Value} {tz : Addr → Value → Option Addr → TS} {first : Stmt} {rest : List Stmt} {p1 p2 : Pos} {hds : List ExceptHandler} {l : List Cl} (nm : Names X y kc)
      (su : ∀ (e : Addr) (ob : Obj) (cls : Value) (d : Option Addr) (pp : List (Addr × Obj)), L2N.Zn cls d ob → (∃ fs, ob.data = .fields fs) → PSs (X.suite e ((e, ob) :: pp)) (first :: rest) (tz e cls d)) (more : HdsAs X n hds l) :
      HdsAs X n (.ExceptHandler (some (.Name y p1)) (some n) (first :: rest) p2 :: hds) ((kc, tz) :: l)
section
variable {X : Cx} {n : Str} {j : Nat} {body : List Stmt} {h1 : ExceptHandler} {hds : List ExceptHandler} {l : List Cl} {pos : Pos} {tb : WX → TS} {Wo : WX}
theorem ps_try_asM (stk : X.stack = X.env :: X.outer) (frm : X.env.frame = some X.env.locals) (nd : X.N.Nodup) (at_ : X.N[j]? = some n) (loc : X.env.kindOf n = some .local) (tk : L2N.Takes X Wo)
    (hb : ∀ (W : WX) (pp : List (Addr × Obj)) (xe : Value → Shared → Prop), L2N.Takes (X.tr pp xe) W → PassesOwn (model X.prog X.w) X.A X.env xe → PSs (X.tr pp xe) body (tb W))
    (hh : HdsAs X n (h1 :: hds) l) : PS X (.Try body (h1 :: hds) [] [] pos) (fun D σ H => tb (wAsM X.K j Wo D l) D σ H) := by
  constructor
  intro pins s0 σ0 H0 D I want
  have okX := I.ok
  have frs_ : X.A.frames = some (X.env :: X.outer) := okX.frames.trans (congrArg some stk)
  have locN : Loc X.env.scope n := Or.inl loc
  apply wpAny_Try_except
  have run := (hb (wAsM X.K j Wo D l) (X.pn ++ pins) (fun ev sa => wpAny (model X.prog X.w) X.A (noteFrame ev X.env) (fun _ sb => wpAny (model X.prog X.w) X.A (setFlight ev none) (fun _ sc => wpAny (model X.prog X.w) X.A (handleBy ev X.env (h1 :: hds)) (SP X pins D) X.xe sc) X.xe sb) X.xe sa) ?caught PassesOwn.looking).run [] s0 σ0 H0 D (I.toTry _) want
  case caught =>
    intro ev st told
    obtain ⟨e, Bd, sI, pins1, τ, G, cls, d, rfl, Jt, ltB, up0, sky0, freeE, sameO, agree, wish⟩ := told
    have J : Inv X pins τ G sI := Jt.ofTry okX
    have sky1 : Sky Bd (X.env :: X.outer) e (L2N.Zn cls d) X.env.locals st.heap := stk ▸ sky0
    change wpAny (model X.prog X.w) X.A (noteFrame (.ref e) X.env) _ _ _
    refine L2N.Sky.land L2N.Zn.steady frs_ frm sky1 fun hp3 land3 up3 => ?_
    have J3 : Inv X pins τ G { st with heap := hp3 } := J.landed ltB land3.1 (up0.trans up3) sameO agree
    obtain ⟨ob3, fs3, get3, zc3, dat3⟩ := land3.there
    have notIn : e ∉ frs (X.env :: X.outer) := by
      intro hm
      obtain ⟨_, ob', get', nof⟩ := land3.2.2.1.mem hm
      rw [get3] at get'
      cases get'
      exact nof _ dat3
    have neL : e ≠ X.env.locals := by
      intro z
      exact notIn (List.mem_filterMap.mpr ⟨X.env, List.mem_cons_self, by rw [frm, z]⟩)
    have niF : e ∉ X.fs := by
      intro hm
      obtain ⟨en, hen, q⟩ := List.mem_filterMap.mp hm
      exact notIn (List.mem_filterMap.mpr ⟨en, List.mem_cons_of_mem _ hen, q⟩)
    have S3 := J3.suite get3 dat3 freeE neL niF
    have each : ∀ {cs : List ExceptHandler} {m : List Cl}, HdsAs X n cs m → wAsM X.K j Wo D m cls d τ G → wpAny (model X.prog X.w) X.A (handleBy (.ref e) X.env cs) (SP X pins D) X.xe { st with heap := hp3 } := by
      intro cs m hk
      induction hk with
      | nil =>
        intro hw
        apply wpAny_handleBy_nil
        obtain ⟨_, _, _, ob, fs, T, _, _, get, _, dat, first, _⟩ := id land3
        unfold PySem.passOn
        refine wpAny_bind (wpAny_field get dat first ?_)
        rw [if_neg (show ¬ ((Value.ref T == Value.none) = true) by simp)]
        have out : wpAny (model X.prog X.w) X.A (setFlight (.ref e) X.env.frame) (fun _ sd => wpAny (model X.prog X.w) X.A (throw (.ref e) : Sem Flow) (SP X pins D) X.xe sd) X.xe { st with heap := hp3 } := by
          rw [frm]
          refine HandSPX.setFlight_upZ land3 fun hp4 sk4 up4 => wpAny_throw (tk _ _ ⟨e, Bd, sI, pins, τ, G, cls, d, rfl, J, ltB, (up0.trans up3).trans up4, .inr (.inr (by rw [stk]; exact sk4)), freeE, sameO, agree, hw⟩)
        first
          | exact wpAny_bind (wpAny_pure (wpAny_bind out))
          | exact wpAny_bind out
      | @cons y kc tz fst rst p1 p2 hds2 l2 nm su more ih =>
        intro hw
        obtain ⟨yes, hy, hw1, hw0⟩ := hw
        refine wpAny_handleBy_cons (codeAny_handlers_test ?_) (by intro q; cases q)
        have looks : PySem.W.Looks (model X.prog X.w) hp3 (typeOf (.ref e)) cls := fun A Q E sx kx q => wpAny_typeOf_ref (kx _ _ get3) (by rw [zc3.1]; exact q)
        have matches_ := PySem.W.exm_one (M := model X.prog X.w) J3.kIn looks hy
        have named : ∀ {Q : Value → Shared → Prop} {E : Value → Shared → Prop}, Q kc { st with heap := hp3 } → wpAny (model X.prog X.w) (X.A.mark (some (.ref e))) (eval (.Name y p1) X.env) Q E { st with heap := hp3 } := by
          intro Q E q
          obtain ⟨hg, hdbg, hm⟩ := nm
          rcases hm with hm | ⟨hm, hv, hnn⟩
          · exact ld_glob (X := X.suite e ((e, ob3) :: (X.pn ++ pins))) S3 hg hm q hdbg
          · exact ld_blt (X := X.suite e ((e, ob3) :: (X.pn ++ pins))) S3 hg hm hv q hnn hdbg
        refine named (matches_.here ?_)
        cases yes with
        | false =>
          change wpAny _ X.A (handleBy (.ref e) X.env hds2) _ _ _
          exact ih (hw0 rfl)
        | true =>
          refine codeAny_handlers_suite_as ?_
          refine HandSPX.lands_againZ land3 fun hp4 land4 up4 => ?_
          have J4 : Inv X pins τ G { st with heap := hp4 } := J.landed ltB land4.1 ((up0.trans up3).trans up4) sameO agree
          obtain ⟨ob4, fs4, get4, zc4, dat4⟩ := land4.there
          have S4 := J4.suite get4 dat4 freeE neL niF
          refine store_ok (X := X.suite e ((e, ob4) :: (X.pn ++ pins))) (v := .ref e) S4 nd at_ locN rfl (fun s5 S5 => ?_) (.inr loc)
          refine wpAny_mono ((su e ob4 cls d (X.pn ++ pins) zc4 ⟨_, dat4⟩).run [] s5 _ G _ S5 (hw1 rfl e freeE)) (fun fl s6 sp => ?_) (fun _ _ z => False.elim z)
          have done_ : ∀ {τ6 : L2.St} {G6 : Hp} {R : Shared → Prop}, Inv (X.suite e ((e, ob4) :: (X.pn ++ pins))) [] τ6 G6 s6 → (∀ s7, Inv X pins (τ6.set j none) G6 s7 → R s7) →
              wpAny (model X.prog X.w) X.A (do bindName X.env n .none; unbindBehindTheSuite X.env n p2) (fun _ s7 => R s7) X.xe s6 := fun {τ6 G6 R} S6 hR => gone_ok (S6.unsuite okX) nd at_ loc hR
          cases fl with
          | next =>
            obtain ⟨τ6, G6, S6, q6⟩ := sp
            exact done_ S6 fun s7 J7 => ⟨_, _, J7, q6⟩
          | brk =>
            obtain ⟨τ6, G6, S6, q6⟩ := sp
            exact done_ S6 fun s7 J7 => ⟨_, _, J7, q6⟩
          | cont =>
            obtain ⟨τ6, G6, S6, q6⟩ := sp
            exact done_ S6 fun s7 J7 => ⟨_, _, J7, q6⟩
          | ret u =>
            obtain ⟨v6, τ6, G6, S6, r6, q6⟩ := sp
            exact done_ S6 fun s7 J7 => ⟨_, _, _, J7, r6, q6⟩
    exact each hh wish
  refine wpAny_mono run (fun fl s1 sp => ?_) (fun ev s1 he => he)
  cases fl with
  | next =>
    obtain ⟨τ, G, J1, q⟩ := sp
    exact wpAny_execs_nil ⟨τ, G, J1.ofTry okX, q⟩
  | brk =>
    obtain ⟨τ, G, J1, q⟩ := sp
    exact ⟨τ, G, J1.ofTry okX, q⟩
  | cont =>
    obtain ⟨τ, G, J1, q⟩ := sp
    exact ⟨τ, G, J1.ofTry okX, q⟩
  | ret u =>
    obtain ⟨v, τ, G, J1, r, q⟩ := sp
    exact ⟨v, τ, G, J1.ofTry okX, r, q⟩
end
end KwX
set_option Elab.async false
set_option linter.all false
set_option maxRecDepth 100000
set_option maxHeartbeats 2000000
/-! the end of a walk while an exception is handled: lists, tuples, tuples unpacked -/
namespace KwX
open PySem PySem.Spec PyProof.Rows L2 HotX L2H
section
variable {prog : Program} {w : World} {A : Around} {E : Value → Shared → Prop} {s : Shared}
theorem list_end_hot {it l hx : Addr} {i : Nat} {items : Array Value} {Q : Option Value → Shared → Prop} (hot : HotAt A hx s.heap) (dif : hx ≠ it) (hit : s.heap.IsListIter it l i) (hl : s.heap.IsList l items) (out : items[i]? = none)
    (hQ : ∀ h', Heap.ExtBut it s.heap h' → Q none { s with heap := h' }) : wpAny (model prog w) A (pyNext (.ref it)) Q E s := by
  have hit' := hit
  obtain ⟨io, gi, ci, di⟩ := hit'
  obtain ⟨lo, gl, _, nl, dl⟩ := hl
  obtain ⟨hand, ho, hv, gh, dh, ch⟩ := hot
  unfold pyNext
  refine wpAny_bind (wpAny_attempt (wpAny_callSpecial?_slot (name := Str.ofString "__next__") hit.typeIs slot_listiter_next (wpAny_call_entry slot_listiter_next hit.typeIs entry_listiter_next ?_ (args_listiter_next _))))
  change wpAny _ _ (field (.ref it) 0 >>= _) _ _ s
  apply wpAny_bind
  refine wpAny_field gi di (x := .ref l) rfl ?_
  change wpAny _ _ (if (Value.ref l == Value.none) = true then _ else _) _ _ s
  have notNone : ¬ ((Value.ref l == Value.none) = true) := Bool.false_ne_true
  rw [if_neg notNone]
  change wpAny _ _ (field (.ref it) 1 >>= _) _ _ s
  apply wpAny_bind
  refine wpAny_field gi di (x := .int i 0) rfl ?_
  change wpAny _ _ (seqItems? (.ref l) >>= _) _ _ s
  apply wpAny_bind
  refine wpAny_seqItems gl dl ?_
  simp only [Int.toNat_natCast, out]
  refine wpAny_bind (wpAny_rule (wpAny_bind (wpAny_setField gi di (by simp) ?_)))
  change wpAny _ _ (newExc (.type "StopIteration") [] >>= _) _ _ _
  apply wpAny_bind
  simp only [newExc, newTuple]
  apply wpAny_bind
  refine wpAny_newObj_type ?_ (by size_fits)
  refine wpAny_bind (m := firstArgMember _ _) (wpAny_of_eq (a := Value.none) (by first | rfl | (simp only [firstArgMember]; rfl)) ?_)
  refine wpAny_newObj_type ?_ (by size_fits)
  have sb := Heap.SameBut.update s.heap it (Obj.mapFields (·.setIfInBounds 0 .none))
  refine raiseNew_hot ⟨hand, ho, hv, Heap.get?_push_of_some _ (Heap.get?_push_of_some _ ((sb.2 hx dif).trans gh)), dh, ch⟩ ?_ (Heap.get?_push_size _ rfl) rfl (by first | (simp; done) | (simp; omega) | (simp only [Array.size_append]; simp; omega)) ?_
  · exact Nat.ne_of_lt (Heap.lt_size (Heap.get?_push_of_some _ ((sb.2 hx dif).trans gh)))
  refine wpAny_bind (wpAny_isInstance (T := "StopIteration") (b := true) ⟨_, Heap.get?_update_self _ (Heap.get?_push_size _ rfl) rfl, rfl⟩ isSubtype_stop ?_)
  refine wpAny_pure (hQ _ fun b o nb e => ?_)
  have e1 := Heap.get?_push_of_some { cls := .type "tuple", data := .seq #[] } ((sb.2 b nb).trans e)
  rw [Heap.get?_update_other _ _ (Nat.ne_of_gt (Heap.lt_size e1))]
  exact Heap.get?_push_of_some _ e1
theorem tup_end_hot {it l hx : Addr} {i : Nat} {items : Array Value} {Q : Option Value → Shared → Prop} (hot : HotAt A hx s.heap) (dif : hx ≠ it) (hit : IsTupIter s.heap it l i) (hl : IsTup s.heap l items) (out : items[i]? = none)
    (hQ : ∀ h', Heap.ExtBut it s.heap h' → Q none { s with heap := h' }) : wpAny (model prog w) A (pyNext (.ref it)) Q E s := by
  have hit' := hit
  obtain ⟨io, gi, ci, di⟩ := hit'
  obtain ⟨lo, gl, _, nl, dl⟩ := hl
  obtain ⟨hand, ho, hv, gh, dh, ch⟩ := hot
  unfold pyNext
  refine wpAny_bind (wpAny_attempt (wpAny_callSpecial?_slot (name := Str.ofString "__next__") hit.typeIs slot_tupleiter_next (wpAny_call_entry slot_tupleiter_next hit.typeIs entry_tupleiter_next ?_ (args_tupleiter_next _))))
  change wpAny _ _ (field (.ref it) 0 >>= _) _ _ s
  apply wpAny_bind
  refine wpAny_field gi di (x := .ref l) rfl ?_
  change wpAny _ _ (if (Value.ref l == Value.none) = true then _ else _) _ _ s
  have notNone : ¬ ((Value.ref l == Value.none) = true) := Bool.false_ne_true
  rw [if_neg notNone]
  change wpAny _ _ (field (.ref it) 1 >>= _) _ _ s
  apply wpAny_bind
  refine wpAny_field gi di (x := .int i 0) rfl ?_
  change wpAny _ _ (seqItems? (.ref l) >>= _) _ _ s
  apply wpAny_bind
  refine wpAny_seqItems gl dl ?_
  simp only [Int.toNat_natCast, out]
  refine wpAny_bind (wpAny_rule (wpAny_bind (wpAny_setField gi di (by simp) ?_)))
  change wpAny _ _ (newExc (.type "StopIteration") [] >>= _) _ _ _
  apply wpAny_bind
  simp only [newExc, newTuple]
  apply wpAny_bind
  refine wpAny_newObj_type ?_ (by size_fits)
  refine wpAny_bind (m := firstArgMember _ _) (wpAny_of_eq (a := Value.none) (by first | rfl | (simp only [firstArgMember]; rfl)) ?_)
  refine wpAny_newObj_type ?_ (by size_fits)
  have sb := Heap.SameBut.update s.heap it (Obj.mapFields (·.setIfInBounds 0 .none))
  refine raiseNew_hot ⟨hand, ho, hv, Heap.get?_push_of_some _ (Heap.get?_push_of_some _ ((sb.2 hx dif).trans gh)), dh, ch⟩ ?_ (Heap.get?_push_size _ rfl) rfl (by first | (simp; done) | (simp; omega) | (simp only [Array.size_append]; simp; omega)) ?_
  · exact Nat.ne_of_lt (Heap.lt_size (Heap.get?_push_of_some _ ((sb.2 hx dif).trans gh)))
  refine wpAny_bind (wpAny_isInstance (T := "StopIteration") (b := true) ⟨_, Heap.get?_update_self _ (Heap.get?_push_size _ rfl) rfl, rfl⟩ isSubtype_stop ?_)
  refine wpAny_pure (hQ _ fun b o nb e => ?_)
  have e1 := Heap.get?_push_of_some { cls := .type "tuple", data := .seq #[] } ((sb.2 b nb).trans e)
  rw [Heap.get?_update_other _ _ (Nat.ne_of_gt (Heap.lt_size e1))]
  exact Heap.get?_push_of_some _ e1
theorem HotAt.past {hx b : Addr} {h h' : Heap} (k : HotAt A hx h) (n : hx ≠ b) (e : Heap.ExtBut b h h') : HotAt A hx h' := by
  obtain ⟨k1, o, vs, k2, k3, k4⟩ := k
  exact ⟨k1, o, vs, e hx o n k2, k3, k4⟩
theorem HotAt.lt {hx : Addr} {h : Heap} (k : HotAt A hx h) : hx < h.objs.size := by
  obtain ⟨_, _, _, k2, _⟩ := k
  exact Heap.lt_size k2
theorem unpackItems_hot {t hx : Addr} {items : Array Value} {Q : List Value → Shared → Prop} (hot : HotAt A hx s.heap) (ht : IsTup s.heap t items) (hQ : ∀ h', Heap.ExtBut s.heap.objs.size s.heap h' → Q items.toList { s with heap := h' }) :
    wpAny (model prog w) A (unpackItems (.ref t) items.size none) Q E s := by
  have tlt : t ≠ s.heap.objs.size := Nat.ne_of_lt ht.lt
  have xlt : hx ≠ s.heap.objs.size := Nat.ne_of_lt (HotAt.lt hot)
  unfold unpackItems
  apply wpAny_bind
  unfold notIterableAtAll
  apply wpAny_bind
  refine wpAny_specialOf ht.typeIs slot_tuple_iter.lookup ?_
  apply wpAny_pure
  simp only [Bool.false_eq_true, if_false]
  apply wpAny_bind
  refine wpAny_holding (iter_tuple ht ?_)
  apply wpAny_bind
  refine wpAny_holding (draw_tuple tlt items.size 0 _ _ ⟨_, Heap.get?_push_size _ rfl, rfl, rfl⟩ (ht.push _) (by omega) fun hp1 it1 same1 => ?_)
  have whole : List.take items.size (List.drop 0 items.toList) = items.toList := by
    rw [List.drop_zero]
    exact List.take_of_length_le (Nat.le_of_eq (by simp))
  rw [whole, if_neg (by simp)]
  have tup1 : IsTup hp1 t items := (ht.push _).extBut same1.extBut tlt
  have hot0 : HotAt A hx (s.heap.push { cls := .type "tuple_iterator", data := .fields #[.ref t, .int 0 0] }) := by
    obtain ⟨k1, o, vs, k2, k3, k4⟩ := hot
    exact ⟨k1, o, vs, Heap.get?_push_of_some _ k2, k3, k4⟩
  apply wpAny_bind
  refine wpAny_holding (tup_end_hot (HotAt.past hot0 xlt same1.extBut) xlt it1 tup1 (by simp) fun hp2 ext2 => ?_)
  simp only [Option.isSome_none, Bool.false_eq_true, if_false]
  exact wpAny_pure (hQ hp2 fun b o nb e => ext2 b o nb (same1.extBut b o nb (Heap.get?_push_of_some _ e)))
theorem assign_tup_hot {env : Env} {elts : List Expr} {k1} {pos : Pos} {t hx : Addr} {items : Array Value} {Q : Unit → Shared → Prop} (hot : HotAt A hx s.heap) (ht : IsTup s.heap t items) (hn : (assignEach elts env).length = items.size) (hstar : (assignEach elts env).findIdx? (·.1) = none)
    (h : ∀ h', Heap.ExtBut s.heap.objs.size s.heap h' → wpAny (model prog w) A (assignInOrder ((assignEach elts env).map (·.2)) items.toList) Q E { s with heap := h' }) : wpAny (model prog w) A (assign (.Tuple elts k1 pos) env (.ref t)) Q E s := by
  rw [assign_Tuple]
  refine wpAny_bind (wpAny_standAt ?_)
  unfold unpack
  rw [hn, hstar]
  exact wpAny_bind (wpAny_holding (unpackItems_hot hot ht h))
end
section
variable {X : Cx} {tg : Expr}
/-- (a, ..) as a target, while an exception is handled -/
theorem pg_tupH {es : List Expr} {kk : Nat} {pos : Pos} {t : TGs} {n : Nat} (hc : HotC X) (h : PGs X es t) (hn : (assignEach es X.env).length = n := by rfl) (hst : (assignEach es X.env).findIdx? (·.1) = none := by rfl) : PG X (.Tuple es kk pos) (gTup X.K n t) := by
  constructor
  intro pins s σ H v u Q I r want
  obtain ⟨a, xs, rfl, sq, len, more⟩ := want
  cases r
  obtain ⟨x1, hot⟩ := hc.at I
  obtain ⟨its, rv, tup, _⟩ := I.tuple sq
  refine assign_tup_hot hot tup (by simp [hn, ← len, rv.length]) hst fun hp ext => ?_
  have I1 : Inv X pins σ H { s with heap := hp } := I.kept (t' := s.toks) fun b o e => ext b o (Nat.ne_of_lt (Heap.lt_size e)) e
  exact h.run pins _ σ H xs _ Q I1 (by simpa using rv) more
theorem turn_listH {P : Program} {w : World} {K : PySem.W.Frag} (a it : Addr) : TurnH P w K tg (Itl K a) [it] it (fun i h => h.IsListIter it a i) where
  mem := (turn_list (P := P) (w := w) (K := K) (tg := tg) a it).mem
  obj := (turn_list (P := P) (w := w) (K := K) (tg := tg) a it).obj
  keep := (turn_list (P := P) (w := w) (K := K) (tg := tg) a it).keep
  self := (turn_list (P := P) (w := w) (K := K) (tg := tg) a it).self
  item := by
    rintro X rfl rfl rfl hc i pins s σ H E I free at_ ⟨xs, x, sq, hx⟩
    obtain ⟨its, rv, p, _⟩ := I.list sq
    obtain ⟨u, hu, ru⟩ := rv.get hx
    obtain ⟨g0, g1, g2, g3, g4, g5⟩ := free it (List.mem_singleton.mpr rfl)
    refine wpAny_pyNext_list_item at_ p.isList (x := u) (by simpa using hu) fun hp at1 sb => ?_
    have I1 : Inv X pins σ H { s with heap := hp } := I.turned (t' := s.toks) (fun b o nb e => (sb.2 b nb).trans e) g0 g1 g3 g4 g5
    have at2 := at1
    obtain ⟨o, e, c, d⟩ := at2
    exact ⟨u, rfl, go_of (s := { s with heap := hp }) e c d (by decide) ⟨x, H, I1, ru, ⟨rfl, fun ys hy => by rw [I.list_inj hy sq]; exact hx⟩, at1, fun b hb => (free b hb).1⟩⟩
  done := by
    rintro X rfl rfl rfl hc i pins s σ H E I free at_ ⟨xs, sq, hx⟩
    obtain ⟨its, rv, p, _⟩ := I.list sq
    obtain ⟨g0, g1, g2, g3, g4, g5⟩ := free it (List.mem_singleton.mpr rfl)
    have len := rv.length
    obtain ⟨q, hq1, hq2⟩ := hc
    obtain ⟨hd, vs, dv, cv⟩ := hq1
    have hot : HotAt X.A q.1 s.heap := ⟨hd, q.2, vs, (I.pin q (List.mem_append_left _ hq2)).1, dv, cv⟩
    have dif : q.1 ≠ it := g5 q (List.mem_append_left _ hq2)
    exact list_end_hot hot dif at_ p.isList (by simp; omega) fun hp ext => ⟨rfl, I.turned (t' := s.toks) (fun b o nb e => ext b o nb e) g0 g1 g3 g4 g5⟩
end
end KwX
set_option Elab.async false
set_option linter.all false
set_option maxRecDepth 100000
set_option maxHeartbeats 4000000
/-! a list comprehension while an exception is handled -/
namespace KwX
open PySem PySem.Spec PyProof.Rows L2 HotX L2H
/-- the context of the block, which still bears what is pinned -/
abbrev blkH (X : Cx) (s : Shared) (H : Hp) (scope : Scope) (cenv : Env) (fp : List Addr) : Cx := (X.blk s H scope cenv fp).tr X.pn (fun _ _ => False)
section
variable {X : Cx} {tg : Expr}
theorem pi_listH {l : Expr} {tl : TE} (hl : PE X l tl) : PIH X tg l (iList X.K tl) := by
  constructor
  intro pins s σ H R I want
  refine thn (hl.run pins s σ H _ I want) fun v s1 got => ?_
  obtain ⟨x, H1, I1, rel, a, rfl, ⟨xs, sq⟩, more⟩ := got
  cases rel
  obtain ⟨its, rv, p, _⟩ := I1.list sq
  refine wpAny_pyIter_list p.isList ?_
  have I2 := I1.kept (t' := s1.toks) (h' := s1.heap.push { cls := .type "list_iterator", data := .fields #[.ref a, .int 0 0] }) fun b o e => Heap.get?_push_of_some _ e
  exact ⟨s1.heap.objs.size, [s1.heap.objs.size], _, _, H1, rfl, I2, turn_listH a _, ⟨_, Heap.get?_push_size _ rfl, rfl, rfl⟩, fun b hb => by
    cases List.mem_singleton.mp hb
    exact I1.fpOk (Nat.le_refl _) (I1.hok.fresh (Nat.le_refl _)), more⟩
theorem blockH {pins : List (Addr × Obj)} {σ : L2.St} {H : Hp} {s : Shared} {scope : Scope} {own : List (Str × Nat)} {fp : List Addr} (I : Inv X pins σ H s) (ok : BlkOk X.N X.env.scope scope own) (nd : X.N.Nodup) (hfp : ∀ b ∈ fp, FpOk X pins H b ∧ b < s.heap.objs.size) :
    Inv (blkH X s H scope (compEnvC scope (cellsFrom (s.heap.objs.size + 1) scope.names (cloFrom X.env.cells scope.names [])) s.heap.objs.size X.env) fp) [] (wipe σ (own.map (·.2))) H { s with heap := pushCells (s.heap.push { cls := .type "dict", data := .dict #[] }) scope.names } := by
  have J := block_start I ok nd hfp
  refine ⟨J.ok.toTry _ _, J.os, J.bare, J.base, J.loc, J.cell, J.free, J.freeC, fun p hp => ?_, J.hok, J.len⟩
  have hp' : p ∈ X.pn := by
    have : p ∈ X.pn ++ [] := hp
    rw [List.append_nil] at this
    exact this
  obtain ⟨g1, g2, g3, g4, g5⟩ := I.pin p (List.mem_append_left _ hp')
  refine ⟨pushCells_keeps _ _ _ _ (Heap.get?_push_of_some _ g1), g2, Nat.ne_of_lt (Heap.lt_size g1), fun z => ?_, g5⟩
  rcases List.mem_cons.mp (I.stkSub _ z) with e | e
  · exact g3 e
  · exact g4 e
end
end KwX
set_option Elab.async false
set_option linter.all false
set_option maxRecDepth 100000
set_option maxHeartbeats 4000000
namespace KwX
open PySem PySem.Spec PyProof.Rows L2 HotX L2H
section
variable {X : Cx}
/-- [elt for tg in iter if ..] as a value, while an exception is handled -/
theorem pe_lcH {elt tg iter : Expr} {ifs : List Expr} {scope : Scope} {own : List (Str × Nat)} {pos : Pos} {wi : TI} {g : TG} {tt : TT} {te : TE} (hc : HotC X) (nd : X.N.Nodup) (hi : PIH X tg iter wi) (ok : BlkOk X.N X.env.scope scope own)
    (hg : ∀ (s : Shared) (H : Hp) (C : Addr) (cl : List (Str × Addr)) (fp : List Addr), PG (blkH X s H scope (compEnvC scope cl C X.env) fp) tg g) (ht : ∀ (s : Shared) (H : Hp) (C : Addr) (cl : List (Str × Addr)) (fp : List Addr), PTs (blkH X s H scope (compEnvC scope cl C X.env) fp) ifs tt)
    (he : ∀ (s : Shared) (H : Hp) (C : Addr) (cl : List (Str × Addr)) (fp : List Addr), PE (blkH X s H scope (compEnvC scope cl C X.env) fp) elt te) (hs : ∀ x, foldedSetIterable iter X.env x = pure x := by intro _; rfl) :
    PE X (.ListComp elt [⟨tg, iter, ifs, 0⟩] scope pos) (tLc wi g tt te (own.map (·.2))) := by
  constructor
  intro pins s0 σ H0 Q I want
  rw [eval_ListComp]
  have caught : ∀ y ∈ scope.names, y.2 = .free → ∃ c, X.env.cells.lookup y.1 = some c := by
    intro y hy e
    rcases ok.free y hy e with k | k
    · exact I.ok.has _ (.inl k)
    · exact I.ok.has _ (.inr k)
  refine wpAny_comprehension_free (use := none) rfl hs (closure_ok caught) ok.kind (fun y hy e => by rw [ok.uniq y hy, e]) (thn (hi.run pins s0 σ H0 _ I want) fun xv sa ha => thn ha fun itv sb hb => ?_)
  obtain ⟨it, fp, tn, J, Hb, rfl, Ib, T, tn0, free0, goal⟩ := hb
  refine wpAny_newObj_type (newEnv_comp ?_) (by show 0 ≤ sizeLine; decide)
  have newD : Hb sb.heap.objs.size = none := Ib.hok.fresh (Nat.le_refl _)
  obtain ⟨W, ⟨m0, w0⟩, turn⟩ := goal sb.heap.objs.size newD
  generalize eL : sb.heap.objs.size = L at newD w0 turn ⊢
  generalize eC : ({ sb with heap := sb.heap.push { cls := .type "list", data := .seq ([] : List Value).toArray } } : Shared) = sc
  have hpC : sc.heap = sb.heap.push { cls := .type "list", data := .seq ([] : List Value).toArray } := by rw [← eC]
  have Ic : Inv X pins σ (upd Hb L (.lst [])) sc := by
    rw [← eC]
    refine Ib.laid (t' := sb.toks) (fun b o e => Heap.get?_push_of_some _ e) (Nat.le_of_eq eL) ⟨Nat.zero_le _, [], 0, .nil, ?_⟩
    rw [← eL]
    exact Heap.get?_push_size _ rfl
  have small : ∀ b ∈ fp, b < sb.heap.objs.size := by
    intro b hb
    obtain ⟨o, e, _⟩ := T.obj _ _ tn0 b hb
    exact Heap.lt_size e
  have freeC : ∀ b ∈ fp, FpOk X pins (upd Hb L (.lst [])) b ∧ b < sc.heap.objs.size := by
    intro b hb
    have lt := small b hb
    refine ⟨⟨?_, (free0 b hb).2⟩, by rw [hpC, Heap.size_push]; exact Nat.lt_succ_of_lt lt⟩
    rw [upd_ne (by rw [← eL]; exact Nat.ne_of_lt lt)]
    exact (free0 b hb).1
  have tnC : tn 0 sc.heap := T.keep _ _ _ tn0 fun b _ o e => by
    rw [hpC]
    exact Heap.get?_push_of_some _ e
  have Id := blockH Ic ok nd freeC
  have pg := hg sc (upd Hb L (.lst [])) sc.heap.objs.size (cellsFrom (sc.heap.objs.size + 1) scope.names (cloFrom X.env.cells scope.names [])) fp
  have pt := ht sc (upd Hb L (.lst [])) sc.heap.objs.size (cellsFrom (sc.heap.objs.size + 1) scope.names (cloFrom X.env.cells scope.names [])) fp
  have pe := he sc (upd Hb L (.lst [])) sc.heap.objs.size (cellsFrom (sc.heap.objs.size + 1) scope.names (cloFrom X.env.cells scope.names [])) fp
  have none0 : ∀ b ∈ fp, (upd Hb L (.lst [])) b = none := fun b hb => (freeC b hb).1.1
  change codeAny _ _ (.compStart (.ListComp elt [⟨tg, iter, ifs, 0⟩] scope pos) 0 (.ref it) (.ref L) (compEnvC scope (cellsFrom (sc.heap.objs.size + 1) scope.names (cloFrom X.env.cells scope.names [])) sc.heap.objs.size X.env)) (compPost (model X.prog X.w) X.A X.xe none _ (.ref L) sc.heap.objs.size) { sc with heap := pushCells (sc.heap.push { cls := .type "dict", data := .dict #[] }) scope.names }
  generalize eE : compEnvC scope (cellsFrom (sc.heap.objs.size + 1) scope.names (cloFrom X.env.cells scope.names [])) sc.heap.objs.size X.env = ce at Id pg pt pe ⊢
  have locE : ce.locals = sc.heap.objs.size := by
    subst eE
    rfl
  generalize eH : upd Hb L (.lst []) = Hc at Ic Id pg pt pe w0 none0 freeC
  generalize eS : ({ sc with heap := pushCells (sc.heap.push { cls := .type "dict", data := .dict #[] }) scope.names } : Shared) = sd at Id ⊢
  have tnD : tn 0 sd.heap := T.keep _ _ _ tnC fun b _ o e => by
    rw [← eS]
    exact pushCells_keeps _ _ _ _ (Heap.get?_push_of_some _ e)
  have still : ∀ {τ : L2.St} {G : Hp} {sx : Shared}, Inv (blkH X sc Hc scope ce fp) [] τ G sx → (∀ b ∈ fp, G b = none) → ∀ b ∈ fp, FpOk (blkH X sc Hc scope ce fp) [] G b := by
    intro τ G sx Ix hn b hb
    refine ⟨hn b hb, (Ix.ok.exf b hb).1, Ix.ok.exfs b hb, .inl hb, fun x c e => (Ix.ok.exf b hb).2 x c e, fun p hp => ?_⟩
    have hp' : p ∈ X.pn ++ [] := hp
    rw [List.append_nil] at hp'
    exact (freeC b hb).1.2.2.2.2.2 p (List.mem_append_left _ hp')
  have loop : codeAny (model X.prog X.w) X.A (.compLoop (.ListComp elt [⟨tg, iter, ifs, 0⟩] scope pos) 0 (.ref it) (.ref L) ce) (compPost (model X.prog X.w) X.A X.xe none (fun v s1 => EP X pins σ Q v s1) (.ref L) sc.heap.objs.size) sd := by
    refine compLoop_any (fun n sx => ∃ i G, Inv (blkH X sc Hc scope ce fp) [] (wipe σ (own.map (·.2))) G sx ∧ tn i sx.heap ∧ (∀ b ∈ fp, G b = none) ∧ W i n G) ?_ m0 ⟨0, Hc, Id, tnD, none0, w0⟩
    rintro n s5 ⟨i, G5, I5, tn5, n5, w5⟩
    rcases turn i n G5 w5 with ⟨stop, fin⟩ | ⟨go, Nx, hNx, step⟩
    · refine thnF (T.done (blkH X sc Hc scope ce fp) rfl rfl rfl hc i [] s5 _ G5 (fun _ _ => False) I5 (still I5 n5) tn5 stop) fun r s6 got => ?_
      obtain ⟨rfl, I6⟩ := got
      have I7 : Inv X pins σ G5 s6 := Ic.call' (ch := fp) I6.os I6.base I6.hok I6.bare fun b hb => ⟨(freeC b hb).1.2.2.2.1, (freeC b hb).1.2.1, (freeC b hb).1.2.2.2.2.1, (freeC b hb).1.2.2.2.2.2⟩
      have noneC : G5 sc.heap.objs.size = none := by
        have z : G5 ce.locals = none := I6.free
        rw [locE] at z
        exact z
      obtain ⟨m, hn, _⟩ := I6.loc
      have hn' : s6.heap.Ns ce.locals m := hn
      rw [locE] at hn'
      refine ⟨m, hn', fun h'' sb' => ?_⟩
      obtain ⟨f0, f1, f2, f3, f4, f5⟩ := Ic.fpOk (Nat.le_refl _) noneC
      exact ⟨.ref L, G5, I7.turned (t' := s6.toks) (fun b o hb e => (sb'.2 b hb).trans e) f0 f1 f3 f4 f5, rfl, fin⟩
    · refine thnF (T.item (blkH X sc Hc scope ce fp) rfl rfl rfl hc i [] s5 _ G5 (fun _ _ => False) I5 (still I5 n5) tn5 go) fun r s6 got => ?_
      obtain ⟨u, rfl, h6⟩ := got
      refine thnF h6 fun _ s7 got7 => ?_
      obtain ⟨x, G7, I7, r7, y7, tn7, n7⟩ := got7
      have I7' := I7.pinned (still I7 n7) (T.obj _ _ tn7)
      refine thnF (pg.run _ s7 _ G7 x u _ I7' r7 (step x G7 y7)) fun _ s8 got8 => ?_
      obtain ⟨σ8, G8, I8, hw8, q8⟩ := got8
      refine thnF (pt.run _ s8 σ8 G8 _ I8 q8) fun b s9 got9 => ?_
      obtain ⟨G9, I9, q9⟩ := got9
      have over : ∀ {sx : Shared} {G : Hp}, Inv (blkH X sc Hc scope ce fp) ([] ++ pinsAt fp s7.heap) σ8 G sx → Nx G → ∃ m, m < n ∧ ∃ i G, Inv (blkH X sc Hc scope ce fp) [] (wipe σ (own.map (·.2))) G sx ∧ tn i sx.heap ∧ (∀ b ∈ fp, G b = none) ∧ W i m G := by
        intro sx G Ix nx
        obtain ⟨m', hm, w'⟩ := hNx G nx
        have held : ∀ b ∈ fp, ∀ o, s7.heap.get? b = some o → sx.heap.get? b = some o ∧ G b = none := fun b hb o e =>
          have z := Ix.pin (b, o) (List.mem_append_right _ (List.mem_append_right _ (mem_pinsAt hb e)))
          ⟨z.1, z.2.1⟩
        have len8 : (wipe σ (own.map (·.2))).length = σ8.length := by rw [← hw8, wipe_length]
        refine ⟨m', hm, i + 1, G, (Ix.unpinned (pins := [])).weak len8 (fun j v e => ?_), T.keep _ _ _ tn7 fun b hb o e => (held b hb o e).1, fun b hb => ?_, w'⟩
        · rw [← hw8] at e
          exact (wipe_some e).1
        · obtain ⟨o, e, _⟩ := T.obj _ _ tn7 b hb
          exact (held b hb o e).2
      cases b with
      | false =>
        simp only [Bool.false_eq_true, if_false] at q9 ⊢
        exact over I9 q9
      | true =>
        simp only [if_true] at q9 ⊢
        refine thnF (pe.run _ s9 σ8 G9 _ I9 q9) fun z s10 got10 => ?_
        obtain ⟨yv, G10, I10, r10, acc, hD10, hz10, nx⟩ := got10
        exact app_ok (X := blkH X sc Hc scope ce fp) I10 hD10 hz10 r10 fun s11 I11 => over I11 nx
  exact codeAny_compStart_list loop (T.self X.A 0 _ _ _ tnD loop)
end
end KwX
set_option Elab.async false
set_option linter.all false
set_option maxRecDepth 100000
set_option maxHeartbeats 4000000
/-! a lambda with parameters that captures nothing: made, handed on, called by a local name -/
namespace KwX
open PySem PySem.Spec PyProof.Rows L2 LamX NdefX
/-- the object at f is the lambda F (its words but the body), body b -/
def LamO (f : Addr) (F : NF) (b : Expr) : HO := .ext fun h => ∃ (od : Option Addr) (sl : Array (Option Value)) (pm ctv : Value), h.get? f = some (⟨.type "function", od, .func (PySem.W.kla_fn F.name F.qual F.params b F.scope F.cl pm (.ref F.c) ctv), sl⟩ : Obj)
theorem lamO_ne {f : Addr} {F : NF} {b : Expr} (ps : Array Value) : LamO f F b ≠ .tbl ps := fun z => by
  unfold LamO at z
  cases z
theorem lamO_at {P : Program} {w : World} {H : Hp} {h : Heap} {f : Addr} {F : NF} {b : Expr} (hok : HOk P w H h) (e : H f = some (LamO f F b)) :
    ∃ (od : Option Addr) (sl : Array (Option Value)) (pm ctv : Value), h.get? f = some (⟨.type "function", od, .func (PySem.W.kla_fn F.name F.qual F.params b F.scope F.cl pm (.ref F.c) ctv), sl⟩ : Obj) := (hok f _ e).1
section
variable {X : Cx} {pins : List (Addr × Obj)} {σ : L2.St} {H : Hp} {s : Shared}
theorem inv_lam {F : NF} {b : Expr} {o : Obj} {t' : Nat} {pm ctv : Value} (I : Inv X pins σ H s) (ho : o = { cls := .type "function", data := .func (PySem.W.kla_fn F.name F.qual F.params b F.scope F.cl pm (.ref F.c) ctv) }) :
    Inv X pins σ (upd H s.heap.objs.size (LamO s.heap.objs.size F b)) { s with heap := s.heap.push o, toks := t' } := by
  have at_ : (s.heap.push o).get? s.heap.objs.size = some o := Heap.get?_push_size _ (by rw [ho]; rfl)
  have at2 : (s.heap.push o).get? s.heap.objs.size = some { cls := .type "function", data := .func (PySem.W.kla_fn F.name F.qual F.params b F.scope F.cl pm (.ref F.c) ctv) } := by
    rw [at_, ho]
  exact I.laid (a := s.heap.objs.size) (fun c u e => Heap.get?_push_of_some _ e) (Nat.le_refl _) ⟨⟨_, _, pm, ctv, at2⟩, ⟨_, at2⟩, fun h1 h2 ⟨od, sl, p, t, z⟩ stay => ⟨od, sl, p, t, stay _ z⟩⟩
end
/-- lambda ..: body, as a value -/
def tLamV (T : List (Addr × Str)) (mk : Addr → NF) (b : Expr) : TE := fun σ H Q => Tabs T H ∧ ∀ (f c' : Addr) (H1 : Hp), ExtN H H1 → (∀ y, H1 y = none → H y = none) → Tabs T H1 → H f = none → H1 f = some (LamO f (mk c') b) → H1 c' = some (CodeO c' (mk c').qual) → Q (.ref f) H1
section
variable {X : Cx}
theorem pe_lamV {T : List (Addr × Str)} {c P : Addr} {params : Arguments} {body : Expr} {scope : Scope} {pos : Pos} (TB : TabB X.base X.mg c P) (hcode : X.env.code = .ref c) (hm : (P, X.env.qual ++ "<lambda>") ∈ T) (hu : ∀ p ∈ T, p.1 = P → p.2 = X.env.qual ++ "<lambda>")
    (hdef : defaultsOf params X.env = ([], [])) (nofree : ∀ y ∈ scope.names, y.2 ≠ .free) (hcl : ∀ cells, cloFrom cells scope.names [] = []) :
    PE X (.Lambda params body scope pos) (tLamV T (fun c' => ⟨"<lambda>", X.env.qual ++ "<lambda>", params, [], scope, [], c'⟩) body) := by
  constructor
  intro pins s σ H Q I want
  obtain ⟨tabs, k⟩ := want
  obtain ⟨ps, gP, tri, each⟩ := tabs _ hm
  refine PySem.W.kla_eval hdef ?_
  have clo : closureFor scope X.env = pure [] := by
    have := closure_ok (env := X.env) (scope := scope) (fun y hy e => absurd e (nofree y hy))
    rw [hcl] at this
    exact this
  have blt : s.heap.BuiltinsAt X.mg P := TB.bm.keeps I.bk
  have gP' : s.heap.get? P = some { cls := .none, data := .fields ps } := I.hok P _ gP
  cases found : codeAmong pos ps.toList with
  | some cv =>
    obtain ⟨c', rfl, hco⟩ := each pos cv found
    refine PySem.W.kla_makeFunctionHit (mg := X.mg) (c := c) (P := P) (ps := ps) clo I.ok.glob (I.mod.glob.keeps I.bk) hcode (TB.code.keeps I.bk) gP' tri found blt fun ctv hp tk keep _ => ?_
    have I1 : Inv X pins σ H { s with heap := hp, toks := tk } := I.kept keep
    have new1 : H hp.objs.size = none := I1.hok.fresh (Nat.le_refl _)
    have I2 := inv_lam (F := ⟨"<lambda>", X.env.qual ++ "<lambda>", params, [], scope, [], c'⟩) (b := body) (t' := tk) (pm := (X.mg "__name__").getD .none) (ctv := ctv) I1 rfl
    have past : ∀ b o, H b = some o → upd H hp.objs.size (LamO hp.objs.size ⟨"<lambda>", X.env.qual ++ "<lambda>", params, [], scope, [], c'⟩ body) b = some o := fun b o e => (upd_ne (ne_of_none e new1)).trans e
    exact ⟨.ref hp.objs.size, _, I2, rfl, k _ c' _ (ExtN.of past) (fun y e => upd_none e) (tabs.ext past) new1 upd_same (past _ _ hco)⟩
  | none =>
    refine PySem.W.kla_makeFunction (mg := X.mg) (c := c) (P := P) (ps := ps) clo I.ok.glob (I.mod.glob.keeps I.bk) hcode (TB.code.keeps I.bk) gP' tri found TB.gP blt fun c' ctv hp tk ext ge lt rec_ tab => ?_
    obtain ⟨c2, oc, vs, t, e2, hoc, hd, hv⟩ := rec_
    cases e2
    have newC : H c' = none := I.hok.fresh ge
    have I1 := inv_table (t' := tk) (more := #[rawInt pos.line, rawInt pos.col, .ref c']) (h' := hp) I gP (fun b o hb e => ext b o hb e) tab ge ⟨oc, vs, t, hoc, hd, hv⟩
    have past : ExtN H (upd (upd H P (.tbl (ps ++ #[rawInt pos.line, rawInt pos.col, .ref c']))) c' (CodeO c' (X.env.qual ++ "<lambda>"))) := by
      intro b o e n
      rw [upd_ne (ne_of_none e newC), upd_ne (fun z => n ps (Option.some.inj (e.symm.trans (by rw [z]; exact gP))))]
      exact e
    have app : (ps ++ #[rawInt pos.line, rawInt pos.col, .ref c']).toList = ps.toList ++ [rawInt pos.line, rawInt pos.col, .ref c'] := by simp
    have tabs1 : Tabs T (upd (upd H P (.tbl (ps ++ #[rawInt pos.line, rawInt pos.col, .ref c']))) c' (CodeO c' (X.env.qual ++ "<lambda>"))) := by
      intro p hp'
      by_cases same : p.1 = P
      · rw [hu p hp' same, same]
        refine ⟨_, by rw [upd_ne (ne_of_none gP newC), upd_same], by rw [app]; exact PySem.TriplesOk_snoc _ _ _ _ tri, fun p' cv hcv => ?_⟩
        rw [app] at hcv
        rcases among_app _ tri hcv with z | z
        · obtain ⟨c0, e1, e2⟩ := each p' cv z
          exact ⟨c0, e1, past _ _ e2 codeO_ne⟩
        · exact ⟨c', z, upd_same⟩
      · obtain ⟨ps', a1, a2, a3⟩ := tabs p hp'
        refine ⟨ps', by rw [upd_ne (ne_of_none a1 newC), upd_ne same]; exact a1, a2, fun p' cv hcv => ?_⟩
        obtain ⟨c0, e1, e2⟩ := a3 p' cv hcv
        exact ⟨c0, e1, past _ _ e2 codeO_ne⟩
    have newF := I1.hok.fresh (Nat.le_refl _)
    have I2 := inv_lam (F := ⟨"<lambda>", X.env.qual ++ "<lambda>", params, [], scope, [], c'⟩) (b := body) (t' := tk) (pm := (X.mg "__name__").getD .none) (ctv := ctv) I1 rfl
    refine ⟨.ref hp.objs.size, _, I2, rfl, k _ c' _ (fun b o e n => ?_) (fun b e => upd_none (upd_none (upd_none e))) (tabs1.ext fun b o e => ?_) (I.hok.fresh (Nat.le_trans ge (Nat.le_of_lt lt))) upd_same ?_⟩
    · have e1 := past b o e n
      exact (upd_ne (ne_of_none e1 newF)).trans e1
    · exact (upd_ne (ne_of_none e newF)).trans e
    · exact (upd_ne (Nat.ne_of_lt lt)).trans upd_same
end
/-- what a lambda of the words F, body b, promises wherever it lies -/
structure LOk (P : Program) (w : World) (K : PySem.W.Frag) (mg : Str → Option Value) (base : Heap) (CX : CXT) (k : Nat) (F : NF) (b : Expr) (ps : List Str) (sp : Sp) : Prop where
  len : ∀ vs H Q E, sp vs H Q E → vs.length = ps.length
  run : ∀ (f : Addr) (A : Around) (outer : List Env) (s : Shared) (H : Hp) (us : List Value) (vs : List V) (Q : VK) (E : XK), Room k A → Env0 P w K mg base A outer s H → H f = some (LamO f F b) → H F.c = some (CodeO F.c F.qual) → Vals vs us → sp vs H Q E →
    codeAny (model P w) A (.call (.ref f) ⟨us, []⟩) (CR CX outer P w H s Q E) s
section
variable {CX : CXT} {P : Program} {w : World} {K : PySem.W.Frag} {mg : Str → Option Value} {base : Heap} {N ps : List Str} {F : NF} {b : Expr} {k j : Nat} {sp : Sp}
theorem lok_of (S : NScope N ps [] F.scope) (cl0 : F.cl = []) (hb : ∀ (pm ctv : Value) (us : List Value), us.length = ps.length → bindArgs (PySem.W.kla_fn F.name F.qual F.params b F.scope F.cl pm (.ref F.c) ctv) ⟨us, []⟩ = pure (ps.zip us)) (len : ∀ vs H Q E, sp vs H Q E → vs.length = ps.length)
    (body : ∀ (f : Addr) (A : Around) (outer : List Env) (s : Shared) (H : Hp) (vs : List V) (Q : VK) (E : XK), Room k (A.deeper (envF F f s.heap.objs.size)) → sp vs H Q E → ∃ t, PE (ncx CX P w K mg base N F f A outer s H E) b t ∧ t (startF N vs []) H Q) : LOk P w K mg base CX (k + 1) F b ps sp := by
  refine ⟨len, fun f A outer s H us vs Q E hr e0 hf hc r hsp => ?_⟩
  have hl := len _ _ _ _ hsp
  have lim : s.heap.NoLimit := e0.mod.nolimit.keeps fun b o e => (e0.bs b o e).1
  obtain ⟨od, sl, pm, ctv, ho⟩ := lamO_at e0.hok hf
  refine PySem.W.kla_callFunE hr.depth ho rfl S.co S.gen rfl (codeO_at e0.hok hc) ?_
  rw [hb pm ctv us (by rw [← r.length]; exact hl)]
  refine wpAny_pure (wpAny_newFunctionEnv S.nocell (fun ⟨n, _⟩ hy => S.par n (List.of_mem_zip hy).1) (fun hp hns hsb => ⟨lim.fresh _ hsb, ?_⟩) S.kind)
  change codeAny _ _ (.expr b (envF F f s.heap.objs.size)) _ _
  have kp : ∀ b o, s.heap.get? b = some o → hp.get? b = some o := fun b o e => hsb.extBut b o (Nat.ne_of_lt (Heap.lt_size e)) (Heap.get?_push_of_some _ e)
  obtain ⟨t, ht, hq⟩ := body f A outer s H vs Q E (hr.deeper _) hsp
  have C : CellsAt F.cl [] [] s.heap H := by
    rw [cl0]
    exact ⟨rfl, (fun y c e => by cases e), (fun x y c e => by cases e), (fun i y e => by cases e)⟩
  have I : Inv (ncx CX P w K mg base N F f A outer s H E) [] (startF N vs []) H { s with heap := hp, toks := s.toks + (ps.zip us).length } := inv_startN S hr.hd e0 hl r C hns kp
  refine PySem.W.kla_codeExpr (wpAny_mono (ht.run [] _ _ H Q I hq) (fun v s' got => ?_) fun e s' got => got)
  obtain ⟨w', H', J, rv, q⟩ := got
  exact ⟨w', H', J.os, J.bare, J.base, J.hok, rv, q⟩
end
/-- x(e, ..), x a local name that holds a lambda of the words F c', body b -/
def tCallV (mk : Addr → NF) (b : Expr) (i : Nat) (sp : Sp) (E : L2.St → XK) (t : TA) : TE := fun σ H Q => ∃ f c', σ[i]? = some (some (.ref f)) ∧ H f = some (LamO f (mk c') b) ∧ t σ H fun vs H1 => H1 f = some (LamO f (mk c') b) ∧ H1 (mk c').c = some (CodeO (mk c').c (mk c').qual) ∧ sp vs H1 Q (E σ)
section
variable {X : Cx} {CX : CXT} {mk : Addr → NF} {b : Expr} {ps : List Str} {i j k : Nat} {x : Str} {sp : Sp} {E : L2.St → XK} {t : TA} {e : Expr} {es : List Expr} {p pos : Pos}
theorem lamAt_of {pins : List (Addr × Obj)} {σ : L2.St} {H : Hp} {s : Shared} {f : Addr} {F : NF} (I : Inv X pins σ H s) (e : H f = some (LamO f F b)) : PySem.W.FnAt f s.heap := by
  obtain ⟨od, sl, pm, ctv, ho⟩ := lamO_at I.hok e
  exact ⟨_, od, _, sl, ho⟩
theorem pe_callV (L : ∀ c', LOk X.prog X.w X.K X.mg X.base CX k (mk c') b ps sp) (hr : Room j X.A) (hk : k ≤ j) (hx : ∀ σ, PassesAt CX X σ (E σ)) (hN : X.N[i]? = some x) (hv : Vis X.env.scope x) (ha : PA X (e :: es) t)
    (hd : (x == ("__debug__" : Str)) = false := by decide) (hcd : (x == ("__classdict__" : Str)) = false := by decide)
    (he : starEach (e :: es) X.env = (false, eval e X.env) :: starEach es X.env := by rfl) (hpl : (backTo pos (starEach es X.env)).any (·.1) = false := by rfl) :
    PE X (.Call (.Name x p) (e :: es) [] pos) (tCallV mk b i sp E t) := by
  constructor
  intro pins s σ H Q I want
  obtain ⟨f, c', hs, hf, ht⟩ := want
  refine wpAny_Call_Name_kw (thn ((pe_var (pos := p) hN hv hd hcd).run pins s σ H (fun v H1 => v = .ref f ∧ H1 = H) I ⟨.ref f, hs, rfl, rfl⟩) fun u s1 got => ?_)
  obtain ⟨v, H1, I1, r1, ev, eH⟩ := got
  subst ev
  rw [eH] at I1
  obtain rfl : u = Value.ref f := r1
  refine PySem.W.callWith_F (first := []) (lamAt_of I1 hf) (thn (ha.run pos pins s1 σ H _ I1 ht) fun us s2 got2 => ?_) he hpl
  obtain ⟨vs, H2, I2, r, h1, h2, q⟩ := got2
  refine ⟨lamAt_of I2 h1, ?_⟩
  change wpAny _ _ (call (.ref f) us) _ _ _
  refine wpAny_call (codeAny_mono ((L c').run f X.A X.stack s2 H2 us vs Q (E σ) (hr.mono hk) I2.env0 h1 h2 r q) fun res s3 got3 => ?_)
  cases res with
  | error ev => exact hx σ pins H2 s2 ev s3 I2 got3
  | ok fl =>
    cases fl with
    | ret u => exact I2.after got3
    | next => exact False.elim got3
    | brk => exact False.elim got3
    | cont => exact False.elim got3
end
end KwX
set_option Elab.async false
set_option linter.all false
set_option maxRecDepth 100000
set_option maxHeartbeats 4000000
namespace Kw
open PySem PySem.Spec PyProof.Rows L2 Evl KwX NdefX LamX
/-- what an error class of the program, made of a text, must say -/
structure ExcT (K : PySem.W.Frag) (mg : Str → Option Value) (x : Str) (C : Addr) : Prop where
  g : mg x = some (.ref C)
  q : PySem.W.excIn K C [.type "ValueError", .type "Exception", .type "BaseException", .type "object"] "ValueError.__new__" = true
  k : PySem.W.keepIn K (.ref C) = true
  b : PySem.W.subIn K (.ref C) (.type "BaseException") = some true
  t : PySem.W.typeIn K (.ref C) = some (.type "type")
theorem keepN {H H' : Hp} (e : ExtN H H') : KeepT H H' := fun b xs r => by
  rcases r with h | ⟨o, h⟩
  · exact .inl (e b _ h fun ps z => by cases z)
  · exact .inr ⟨o, e b _ h fun ps z => by cases z⟩
theorem ExtN.ex {H H' : Hp} (e : Ex H H') : ExtN H H' := fun b o h _ => e b o h
section
variable {P : Program} {w : World} {K : PySem.W.Frag} {mg : Str → Option Value} {base : Heap}
/-- a def that may raise -/
theorem okN {x qual : Str} {st : Stmt} {f : Addr} {fd : FuncData} {N ps : List Str} {k : Nat} {sp : Sp} (F : Fun K x qual st f fd) (S : FnScope N ps (defScope st)) (len : ∀ vs H Q E, sp vs H Q E → vs.length = ps.length)
    (body : ∀ (cdv : Value) (A : Around) (outer : List Env) (s : Shared) (H : Hp) (vs : List V) (Q : VK) (E : XK), Room k (A.deeper (envOfC qual (defScope st) s.heap.objs.size f cdv)) → sp vs H Q E →
      ∃ t, PSs (cxOf (L2N.CX P w) P w K mg base N qual (defScope st) f cdv A outer s H E) (defBody st) t ∧ t { nx := fun _ H' => Q .non H', rt := Q } (start N vs) H) : FnOk P w K mg base (L2N.CX P w) (k + 1) f fd ps sp := by
  obtain ⟨oc, od, kV, doc, pm, an, cdv, ct, osl, rfl, lk, hcd⟩ := F.ex
  exact fn_of lk hcd S len fun A outer s H vs Q E hr hsp => body cdv A outer s H vs Q E hr hsp
/-- a def that makes lambdas: its code's table is known -/
theorem okT {x : Str} {st : Stmt} {f c : Addr} {N ps : List Str} {k : Nat} {sp : Sp} {kV doc pm ct oc : Value} {an od : Option Addr} {osl : Array (Option Value)} (lk : K.lookup f = some ⟨oc, od, .func (PySem.W.fnOf x x (defArgs st) (defBody st) (defScope st) .none kV doc pm an (.ref c) ct), osl⟩) (hcd : PySem.W.codeIn K (.ref c) x = true)
    (S : FnScope N ps (defScope st)) (len : ∀ vs H Q E, sp vs H Q E → vs.length = ps.length)
    (body : ∀ (A : Around) (outer : List Env) (s : Shared) (H : Hp) (vs : List V) (Q : VK) (E : XK), Room k (A.deeper (envOfC x (defScope st) s.heap.objs.size f (.ref c))) → sp vs H Q E →
      ∃ t, PSs (cxOf CX0 P w K mg base N x (defScope st) f (.ref c) A outer s H E).nox (defBody st) t ∧ t { nx := fun _ H' => Q .non H', rt := Q } (start N vs) H) : FnOk P w K mg base CX0 (k + 1) f (PySem.W.fnOf x x (defArgs st) (defBody st) (defScope st) .none kV doc pm an (.ref c) ct) ps sp :=
  fn_of lk hcd S len fun A outer s H vs Q E hr h => by
    obtain ⟨t, h1, h2⟩ := body A outer s H vs Q E hr h
    exact ⟨t, h1.nox, h2⟩
/-- lambda a, b, c: x(a, b) -/
def spLam2 (spX : Sp) : Sp := fun vs H Q E => ∃ (v y z : V), vs = [v, y, z] ∧ spX [v, y] H Q E
def spLam1 (spX : Sp) : Sp := fun vs H Q E => ∃ (v y z : V), vs = [v, y, z] ∧ spX [v] H Q E
theorem lok_2 {f : Addr} {fd : FuncData} {k : Nat} {F : NF} {x : Str} {st : Stmt} {ps : List Str} {spX : Sp} {pp p1 p2 pos : Pos} (S : NScope ["a", "b", "c"] ["a", "b", "c"] [] F.scope) (cl0 : F.cl = []) (gl : F.scope.names.lookup x = some NameKind.globalImplicit)
    (hb : ∀ (pm ctv : Value) (us : List Value), us.length = 3 → bindArgs (PySem.W.kla_fn F.name F.qual F.params (.Call (.Name x pp) [.Name "a" p1, .Name "b" p2] [] pos) F.scope F.cl pm (.ref F.c) ctv) ⟨us, []⟩ = pure ((["a", "b", "c"] : List Str).zip us))
    (DL : Df K mg x st ps f fd) (GL : FnOk P w K mg base (L2N.CX P w) k f fd ps spX) (hx : (x == ("__debug__" : Str)) = false := by decide) :
    LOk P w K mg base (L2N.CX P w) (k + 1) F (.Call (.Name x pp) [.Name "a" p1, .Name "b" p2] [] pos) ["a", "b", "c"] (spLam2 spX) := by
  refine lok_of S cl0 hb (fun vs H Q E h => ?_) (fun g A outer s H vs Q E hr h => ?_)
  · obtain ⟨v, x, z, rfl, _⟩ := h
    rfl
  · obtain ⟨v, y, z, rfl, h⟩ := h
    refine ⟨tCallS spX (fun σ => WE (fun cls d _ H => E cls d H) σ) (tCons (tVar 0) (tCons (tVar 1) tNil)), pe_callS GL hr gl DL.g DL.F.kp DL.b (fun σ => L2N.passAt (L2N.takes_of rfl rfl rfl rfl) σ) (pa_cons (pe_var (i := 0) rfl (.inl (S.par "a" (by decide +kernel)))) (pa_cons (pe_var (i := 1) rfl (.inl (S.par "b" (by decide +kernel)))) pa_nil)) hx, ?_⟩
    exact ⟨v, rfl, y, rfl, h⟩
theorem lok_1 {f : Addr} {fd : FuncData} {k : Nat} {F : NF} {x : Str} {st : Stmt} {ps : List Str} {spX : Sp} {pp p1 pos : Pos} (S : NScope ["a", "b", "c"] ["a", "b", "c"] [] F.scope) (cl0 : F.cl = []) (gl : F.scope.names.lookup x = some NameKind.globalImplicit)
    (hb : ∀ (pm ctv : Value) (us : List Value), us.length = 3 → bindArgs (PySem.W.kla_fn F.name F.qual F.params (.Call (.Name x pp) [.Name "a" p1] [] pos) F.scope F.cl pm (.ref F.c) ctv) ⟨us, []⟩ = pure ((["a", "b", "c"] : List Str).zip us))
    (DL : Df K mg x st ps f fd) (GL : FnOk P w K mg base (L2N.CX P w) k f fd ps spX) (hx : (x == ("__debug__" : Str)) = false := by decide) :
    LOk P w K mg base (L2N.CX P w) (k + 1) F (.Call (.Name x pp) [.Name "a" p1] [] pos) ["a", "b", "c"] (spLam1 spX) := by
  refine lok_of S cl0 hb (fun vs H Q E h => ?_) (fun g A outer s H vs Q E hr h => ?_)
  · obtain ⟨v, x, z, rfl, _⟩ := h
    rfl
  · obtain ⟨v, y, z, rfl, h⟩ := h
    refine ⟨tCallS spX (fun σ => WE (fun cls d _ H => E cls d H) σ) (tCons (tVar 0) tNil), pe_callS GL hr gl DL.g DL.F.kp DL.b (fun σ => L2N.passAt (L2N.takes_of rfl rfl rfl rfl) σ) (pa_cons (pe_var (i := 0) rfl (.inl (S.par "a" (by decide +kernel)))) pa_nil) hx, ?_⟩
    exact ⟨v, rfl, h⟩
end
/-! ### where the lambdas stand in a text -/
def stBody : Stmt → List Stmt
  | .For _ _ l _ _ => l
  | .If _ l _ _ => l
  | .While _ l _ _ => l
  | _ => []
def stEx : Stmt → Expr
  | .If t _ _ _ => t
  | .Assign _ e _ => e
  | .Return (some e) _ => e
  | .Expr e _ => e
  | _ => .Constant .none 0 ⟨0, 0, 0, 0⟩
def exLeft : Expr → Expr
  | .Compare l _ _ _ => l
  | .Subscript l _ _ => l
  | .UnaryOp _ l _ => l
  | e => e
def exArg (i : Nat) : Expr → Expr
  | .Call _ as _ _ => as.getD i (.Constant .none 0 ⟨0, 0, 0, 0⟩)
  | .BoolOp _ as _ => as.getD i (.Constant .none 0 ⟨0, 0, 0, 0⟩)
  | e => e
def lamPs : Expr → Arguments
  | .Lambda p _ _ _ => p
  | _ => ⟨[], [], none, [], [], none, []⟩
def lamBd : Expr → Expr
  | .Lambda _ b _ _ => b
  | e => e
def lamSc : Expr → Scope → Scope
  | .Lambda _ _ s _, _ => s
  | _, s => s
def mkLam (q : Str) (e : Expr) (s : Scope) (c' : Addr) : NF := ⟨"<lambda>", q ++ ".<locals>." ++ "<lambda>", lamPs e, [], lamSc e s, [], c'⟩
end Kw
set_option Elab.async false
set_option linter.all false
set_option maxRecDepth 100000
set_option maxHeartbeats 4000000
namespace Kw
open PySem PySem.Spec PyProof.Rows L2 Evl KwX NdefX LamX
section
variable {K : PySem.W.Frag} {H H' : Hp}
theorem sqL_n {a : Addr} {xs : List V} (e : ExtN H H') (h : SqL K H a xs) : SqL K H' a xs := by
  rcases h with (h | ⟨o, h⟩) | h
  · exact .inl (.inl (e _ _ h fun ps z => by cases z))
  · exact .inl (.inr ⟨o, e _ _ h fun ps z => by cases z⟩)
  · exact .inr h
mutual
theorem dp_n (e : ExtN H H') : ∀ (d : PyData) (v : V), Dp K H v d → Dp K H' v d
  | .none, _, h => by cases h; exact .non
  | .bool b, _, h => by cases h; exact .bl b
  | .int i, _, h => by cases h; exact .int i
  | .str x, _, h => by cases h; exact .str x
  | .list ds, _, h => by
    cases h with
    | lst h a => exact .lst (sqL_n e h) (dpA_n e ds _ a)
  | .tuple ds, _, h => by
    cases h with
    | tup h a => exact .tup (keep_t (keepN e) h) (dpA_n e ds _ a)
  | .dict _, _, h => by cases h
theorem dpA_n (e : ExtN H H') : ∀ (ds : List PyData) (vs : List V), DpAll K H vs ds → DpAll K H' vs ds
  | [], _, h => by cases h; exact .nil
  | d :: ds, _, h => by
    cases h with
    | cons a b => exact .cons (dp_n e d _ a) (dpA_n e ds _ b)
end
end
/-! ### displays of data -/
def EvD (K : PySem.W.Frag) (te : TE) (σ : L2.St) (H : Hp) (d : PyData) : Prop := EvP te σ H (fun v H' => Dp K H' v d)
def EvDA (K : PySem.W.Frag) (ta : TA) (σ : L2.St) (H : Hp) (ds : List PyData) : Prop := ∀ H1, Ex H H1 → ∀ Q : List V → Hp → Prop, (∀ vs H2, Ex H1 H2 → DpAll K H2 vs ds → Q vs H2) → ta σ H1 Q
section
variable {K : PySem.W.Frag} {σ : L2.St} {H H' : Hp} {ta tb tc te tl : TE} {t u : TT} {x y z v : V} {r r' : R2} {d : PyData} {ds : List PyData} {D : Ends} {g : TG} {tu tz : TS}
theorem ed_of (h : Ev te σ H v) (hd : Dp K H v d) : EvD K te σ H d := fun H1 e Q q => h H1 e Q fun H2 e2 => q v H2 e2 (dp_ex (e.trans e2) _ _ hd)
theorem ed_non : EvD K (tC .non) σ H .none := ed_of ev_c .non
theorem ed_bl {b : Bool} : EvD K (tC (.bl b)) σ H (.bool b) := ed_of ev_c (.bl b)
theorem ed_int {i : Int} : EvD K (tC (.int i)) σ H (.int i) := ed_of ev_c (.int i)
theorem ed_str {s : Str} : EvD K (tC (.str s)) σ H (.str s) := ed_of ev_c (.str s)
theorem ed_neg {i : Int} : EvD K (tUn (rU fun i => .int (-i)) (tC (.int i))) σ H (.int (-i)) := ed_of (ev_un ev_c ru_neg) (.int _)
theorem ed_var {i : Nat} (h : σ[i]? = some (some v)) (hd : Dp K H v d) : EvD K (tVar i) σ H d := ed_of (ev_var h) hd
theorem da_nil : EvDA K tNil σ H [] := fun H1 _ Q q => q [] H1 (Ex.refl H1) .nil
theorem da_cons {ta : TA} (h : EvD K te σ H d) (hr : EvDA K ta σ H ds) : EvDA K (tCons te ta) σ H (d :: ds) := fun H1 e Q q =>
  h H1 e _ fun v H2 e2 hv => hr H2 (e.trans e2) _ fun vs H3 e3 hvs => q (v :: vs) H3 (e2.trans e3) (.cons (dp_ex e3 _ _ hv) hvs)
theorem ed_tup {ta : TA} (h : EvDA K ta σ H ds) (hl : ds.length ≤ 1000) : EvD K (tTup ta) σ H (.tuple ds) := fun H1 e Q q =>
  h H1 e _ fun vs H2 e2 hvs => ⟨sz_of (by rw [dpA_len hvs]; omega), fun p hp => q (.ref p) _ (e2.trans (Ex.new hp)) (.tup (st_of upd_same) (dpA_ex (Ex.new hp) _ _ hvs))⟩
theorem ed_lst {ta : TA} (h : EvDA K ta σ H ds) (hl : ds.length ≤ 1000) : EvD K (tLst ta) σ H (.list ds) := fun H1 e Q q =>
  h H1 e _ fun vs H2 e2 hvs => ⟨sz_of (by rw [dpA_len hvs]; omega), fun p hp => q (.ref p) _ (e2.trans (Ex.new hp)) (.lst (sq_of upd_same) (dpA_ex (Ex.new hp) _ _ hvs))⟩
/-- a for over a displayed tuple -/
theorem for_DT {ta : TA} (h : EvDA K ta σ H ds) (hl : ds.length ≤ 1000) (k : ∀ p vs H1, Ex H H1 → H1 p = some (.tup vs) → DpAll K H1 vs ds → tFor (fun _ H R => R (Itt K p) H) g tu D σ H1) : tFor (iTup K (tTup ta)) g tu D σ H :=
  h H (Ex.refl H) _ fun vs H2 e2 hvs => ⟨sz_of (by rw [dpA_len hvs]; omega), fun p hp => ⟨p, rfl, ⟨vs, st_of upd_same⟩, k p vs _ (e2.trans (Ex.new hp)) upd_same (dpA_ex (Ex.new hp) _ _ hvs)⟩⟩
theorem q_for_DT {ta : TA} (h : EvDA K ta σ H ds) (hl : ds.length ≤ 1000) (k : ∀ p vs H1, Ex H H1 → H1 p = some (.tup vs) → DpAll K H1 vs ds → tFor (fun _ H R => R (Itt K p) H) g tu { D with nx := tz D } σ H1) : tSeq (tFor (iTup K (tTup ta)) g tu) tz D σ H := for_DT h hl k
theorem for_src (h : tl σ H fun v H1 => ∃ a, v = .ref a ∧ (∃ xs, SqL K H1 a xs) ∧ tFor (fun _ H R => R (Itl K a) H) g tu D σ H1) : tFor (iList K tl) g tu D σ H := h
theorem q_for_src (h : tl σ H fun v H1 => ∃ a, v = .ref a ∧ (∃ xs, SqL K H1 a xs) ∧ tFor (fun _ H R => R (Itl K a) H) g tu { D with nx := tz D } σ H1) : tSeq (tFor (iList K tl) g tu) tz D σ H := h
theorem call_src {sp : Sp} {ta : TA} {E : XK} {vs : List V} {Q : VK} (h : EvA ta σ H vs) (k : ∀ H1, Ex H H1 → sp vs H1 Q E) : tCall sp [] E ta σ H Q := h H (Ex.refl H) _ fun H1 e => by
  rw [List.append_nil]
  exact k H1 e
end
end Kw
set_option Elab.async false
set_option linter.all false
set_option maxRecDepth 100000
set_option maxHeartbeats 4000000
/-! an error class with its own __init__, raised where nothing is handled (L2N) -/
namespace KwX
open PySem PySem.Spec PyProof.Rows L2
theorem mk_init {X : Cx} {CX : CXT} {nm0 : Str} {C fI : Addr} {k : Nat} {fd : FuncData} {ps : List Str} {sp : Sp} {e0 : Expr} {es0 : List Expr} {ta : TA} {pA pB : Pos} {ds : List Value} {dvs : List V}
    (O : OexC X.K C) (fi : PySem.W.findIn X.K (.ref C) "__init__" = some (some (.ref fI))) (fty : PySem.W.typeIn X.K (.ref fI) = some (.type "function"))
    (G1 : FnOk X.prog X.w X.K X.mg X.base CX k fI fd ps sp) (room : Room (k + 1) X.A) (bn : Binds X.K fd ps ds) (vds : Vals dvs ds) (pass : Passes CX X (fun _ _ _ => False)) (gl : Gl X nm0) (mx : X.mg nm0 = some (.ref C)) (args : PA X (e0 :: es0) ta)
    (ndb : (nm0 == ("__debug__" : Str)) = false := by decide) (st1 : starEach (e0 :: es0) X.env = (false, eval e0 X.env) :: starEach es0 X.env := by rfl) (st2 : (backTo pB (starEach es0 X.env)).any (·.1) = false := by rfl) :
    L2N.PMk X (.Call (.Name nm0 pA) (e0 :: es0) [] pB) (tMkO C sp dvs ta) := by
  intro pins s0 τ G Q J want
  obtain ⟨c1, c2, c3, c4, c5, c6, c7, c8, c9, c10, c11, c12, c13, c14, c15, lkC, chain⟩ := O.cls
  refine wpAny_Call_Name_kw (ld_glob J gl mx ?_ ndb)
  refine PySem.W.callWith_K (h₀ := X.base) J.ok.mod.kin O.kC (thn (args.run pB pins s0 τ G _ J want) fun us s1 ⟨vs, G1', J1, rel1, small, want1⟩ => ⟨J1.kIn, ?_⟩) st1 st2
  show wpAny _ _ (call (.ref C) us) _ _ _
  obtain ⟨hp, gn, dr, tk, os⟩ := s1
  have big : hp.objs.size ≤ hp.objs.size + 1 := Nat.le_succ _
  have free1 : G1' (hp.objs.size + 1) = none := J1.hok.fresh big
  have ask := want1 (hp.objs.size + 1) free1
  have old : ∀ b o, hp.get? b = some o → ((hp.push (PySem.W.kdv_tup us)).push (PySem.HandSPX.excO C hp.objs.size)).get? b = some o := fun b o e => Heap.get?_push_of_some _ (Heap.get?_push_of_some _ e)
  have there : ((hp.push (PySem.W.kdv_tup us)).push (PySem.HandSPX.excO C hp.objs.size)).get? (hp.objs.size + 1) = some (PySem.HandSPX.excO C hp.objs.size) := by heap_get
  have J2 : Inv X pins τ (upd G1' (hp.objs.size + 1) (exo (hp.objs.size + 1) C none)) ⟨(hp.push (PySem.W.kdv_tup us)).push (PySem.HandSPX.excO C hp.objs.size), gn, dr, tk, os⟩ :=
    J1.laid (t' := tk) (a := hp.objs.size + 1) (o := exo (hp.objs.size + 1) C none) (h' := (hp.push (PySem.W.kdv_tup us)).push (PySem.HandSPX.excO C hp.objs.size)) old big (exo_ok there)
  have rel2 : Vals (V.ref (hp.objs.size + 1) :: (vs ++ dvs)) (Value.ref (hp.objs.size + 1) :: (us ++ ds)) := .cons rfl (rel1.append vds)
  have lens : (Value.ref (hp.objs.size + 1) :: us ++ ds).length = ps.length := (rel2.length.symm.trans (G1.len _ _ _ _ ask))
  have few : us.length ≤ sizeLine := by rw [← Paired.length rel1, sizeLine_eq]; omega
  refine wpAny_call (PySem.HandSPX.call_own F.excBase_ValueError (fun Y => PySem.HandSPX.refsVE_contains Y c5 chain) (J1.kIn _ _ lkC) (PySem.W.looks_findIn J1.kIn fi) (fun self => PySem.W.bind_fn J1.kIn self fty) few
    (codeAny_mono (G1.run _ X.stack _ _ ⟨Value.ref (hp.objs.size + 1) :: us, []⟩ (Value.ref (hp.objs.size + 1) :: (us ++ ds)) _ _ (fun _ _ _ => False) (room.make C us []) (J2.env0.make C us []) (bn _ (Value.ref (hp.objs.size + 1) :: us) J2.kIn lens) rel2 ask) fun r s' got => ?_))
  match r, got with
  | .error er, got => exact pass pins τ _ _ er s' J2 got
  | .ok .next, got => exact got.elim
  | .ok .brk, got => exact got.elim
  | .ok .cont, got => exact got.elim
  | .ok (.ret u), got =>
    obtain ⟨v, G2, eos, bare2, un2, hok2, rv, ev, dd, fs, ea, ed, fr, last⟩ := got
    subst ev
    obtain ⟨h2, g2, d2, t2, os2⟩ := s'
    obtain ⟨t0, Gh, J3, kG, gone, obj, na⟩ := mk_end0 (d2 := d2) (t2 := t2) J1 big old un2 hok2 eos bare2 ea ed fr
    exact ⟨rv, hp.objs.size + 1, _, _, ⟨Gh, g2, d2, t2, os2⟩, _, .ref C, some dd, rfl, J3, kG, gone, obj, ⟨rfl, rfl, fun vs hv => by cases hv; rfl⟩, rfl, rfl, na, rfl, bare2, raises_own O.exC O.tyC, last⟩
end KwX
set_option Elab.async false
set_option linter.all false
set_option maxRecDepth 100000
set_option maxHeartbeats 4000000
/-! isinstance of a caught error that has a dict -/
namespace KwX
open PySem PySem.Spec PySem.Calls PyProof.Rows PySem.W
section
variable {prog : Program} {w : World} {A : Around} {E : Value → Shared → Prop} {s : Shared} {K : Frag} {x D : Addr} {ox : Obj} {od : Option Obj}
theorem cls_find {C : Addr} {nm : Str} {a g : Value} (some_ : (clsIn K C).isSome = true) (f1 : findIn K (.ref C) nm = some (some a)) (f2 : specialIn K a "__get__" = some (some g)) (f3 : takesIn K a = some true) : findObj K C od nm = some (.bind g a) := by
  obtain ⟨cd, e⟩ := Option.isSome_iff_exists.mp some_
  unfold findObj; rw [e, Option.bind_some, f1, Option.bind_some]; simp [f2, f3]
theorem cls_of {Q : Option Value → Shared → Prop} (T : L2.ExcC K D) (X : K.In s.heap) (I : InstAt s.heap x ox D od) (h : Q (some (.ref D)) { s with toks := s.toks + 1 }) : wpAny (model prog w) A (getAttr? (.ref x) "__class__") Q E s := by
  have fo : findObj K D od "__class__" = some (.bind (.builtin "getset_descriptor.__get__") (.builtin "object.__class__")) := cls_find (by obtain ⟨cd, e, _⟩ := any_some T.hd; rw [e]; rfl) T.ha T.hn T.ht
  obtain ⟨hp, gn, dr, tk, os⟩ := s
  have M0 := I.type (M := model prog w)
  have M1 := looks_findIn (M := model prog w) X T.hg
  have M2 := looks_findIn (M := model prog w) X T.hk
  have M3 := looks_find (M := model prog w) X I fo
  have isB : Looks (model prog w) hp (isInstance (.ref x) (.type "BaseException")) true := M0.andThen (looks_subIn X T.hs)
  have n0 : (false && onTheHeap (Value.builtin "BaseException.__getattribute__")) = false := rfl
  have n2 : (Value.builtin "BaseException.__getattribute__" == Value.builtin "object.__getattribute__") = false := by decide +kernel
  have n1 : (onTheHeap (Value.ref D) && Value.builtin "BaseException.__getattribute__" == Value.builtin "object.__getattribute__") = false := by rw [n2]; rfl
  unfold getAttr? getAttrBy? getAttrBy; refine wpAny_bind (wpAny_mkText (wpAny_bind (wpAny_attempt (wpAny_holding (wpAny_bind (M0.at (wpAny_bind (M1.at ?_))))))))
  show wpAny _ _ (if (onTheHeap (Value.ref D) && Value.builtin "BaseException.__getattribute__" == Value.builtin "object.__getattribute__") = true then _ else _) _ _ _; rw [n1, if_neg Bool.false_ne_true]
  unfold getAttrByItsOwn hookBefore; refine wpAny_bind ?_; rw [if_pos (show onTheHeap (Value.ref D) = true from rfl)]
  refine M2.at (wpAny_bind (wpAny_attempt (wpAny_holding ?_))); unfold callGetattribute; rw [n0, if_neg Bool.false_ne_true]
  unfold boundAndCalled; rw [PySem.F.excAttr_ValueError.ga.bind (.ref x)]; refine wpAny_bind (wpAny_pure ?_)
  show wpAny _ _ (call (.builtin "BaseException.__getattribute__") [.ref x, .str "__class__" tk]) _ _ _; refine wpAny_call (codeAny_call_builtin PySem.F.excAttr_ValueError.ga.plain PySem.F.entry_bexc_ga ?_)
  refine @check_slot (model prog w) _ _ ⟨hp, gn, dr, tk + 1, os⟩ "BaseException.__getattribute__" "BaseException" "__getattribute__" (.ref x) [.str "__class__" tk] [] _ (by decide +kernel) (by decide +kernel) isB (PySem.F.args_bexc_ga (.ref x) (.str "__class__" tk)) ?_
  unfold Builtin.«object.__getattribute__»; refine wpAny_bind (wpAny_of_eq (a := ((Value.ref x : Value), [Value.str "__class__" tk])) (by first | rfl | (simp only [slotArgs]; rfl)) ?_)
  refine wpAny_bind (wpAny_pure (wpAny_bind (M0.at (wpAny_bind (M3.at ?_)))))
  show wpAny _ _ (holding [Value.builtin "object.__class__"] (call (.builtin "getset_descriptor.__get__") [.builtin "object.__class__", .ref x, .ref D]) >>= ret) _ _ _; refine wpAny_bind (wpAny_holding (wpAny_call (class_get (s := ⟨hp, gn, dr, tk + 1, os⟩) (ox := ox) (od := od) X I T.hm (wpAny_pure ?_))))
  show wpAny _ _ (handedOut (.ref D)) _ _ _; rw [handedOut_of (v := .ref D) rfl]
  first
    | exact wpAny_pure (wpAny_pure h) | exact wpAny_pure h | exact wpAny_pure (wpAny_bind (wpAny_pure (wpAny_pure h)))
theorem kit_dict (T : L2.ExcC K D) : KitX K (.ref x) (.ref D) (fun h => InstAt h x ox D od) where
  ty := fun _ _ _ I => I.type
  it := fun _ _ X _ => by
    obtain ⟨cd0, e0, _⟩ := any_some T.hd; unfold clsIn at e0
    split at e0
    · rename_i lk; intro A1 Q1 E1 s1 kp q; unfold isType loadHead; exact wpAny_bind (wpAny_loadPart (kp _ _ (X _ _ lk)) (wpAny_pure q))
    · cases e0
  ne := (handS_kitx_exc (ox := ox) (x := x) T.hg T.hk T.hs T.hd T.ha T.hn T.ht T.hm).ne
  ca := fun X I k => cls_of T X I k
end
end KwX
namespace KwX
open PySem PySem.Spec PyProof.Rows L2
/-- isinstance(e, c), e the error that the suite holds, with its dict -/
def rIsD (K : PySem.W.Frag) (D a : Addr) (d : Option Addr) : List V → Hp → VK → Prop := fun xs H Q => ∃ (c : V) (cv : Value) (b : Bool) (dd : Addr) (fs : List (Str × V)), xs = [.ref a, c] ∧ d = some dd ∧ H dd = some (.xd fs) ∧ (∀ u, RelV c u → u = cv) ∧ PySem.W.kitOne K (.ref D) cv = some b ∧ Q (.bl b) H
theorem call_isD {X : Cx} {a D : Addr} {d : Option Addr} {oe : Obj} {pn : List (Addr × Obj)} (T : ExcC X.K D) (zc : Zc (.ref D) d oe) (flds : ∃ vs, oe.data = .fields vs) : CallR (X.suite a ((a, oe) :: pn)) (.builtin "isinstance") (rIsD X.K D a d) := by
  intro pins s σ H xs us Q I r h
  obtain ⟨c, cv, b, dd, fs, rfl, rfl, hdd, only, kit, q⟩ := h
  match us, r with
  | [_, _], .cons rx (.cons rt .nil) =>
    cases rx
    have ec := only _ rt
    subst ec
    obtain ⟨stands, _⟩ := I.pin (a, oe) (List.mem_append.mpr (.inl List.mem_cons_self))
    obtain ⟨vs, hv⟩ := flds
    have ok0 : ObjOk X.prog X.w H s.heap dd (.xd fs) := I.hok dd _ hdd
    obtain ⟨m0, ns0, _⟩ := ok0
    obtain ⟨od, hod, _⟩ := lookIn_ns ns0
    have J : PySem.W.InstAt s.heap a oe D (some od) := ⟨stands, zc.1, by unfold PySem.W.notCls; rw [hv] <;> rfl, by rw [zc.2]; exact hod⟩
    exact PySem.W.kia_one (kit_dict T) I.kIn J kit (fun z => nomatch z) fun tk => ⟨.bl b, H, I.kept (t' := tk) fun _ _ z => z, rfl, q⟩
end KwX
set_option Elab.async false
set_option linter.all false
set_option maxRecDepth 100000
set_option maxHeartbeats 4000000
namespace Kw
open PySem PySem.Spec PyProof.Rows L2 Evl KwX NdefX LamX
abbrev sRef : Stmt := topS 33
theorem scRef : FnScope ["call", "one", "two", "three", "kin", "e", "words", "word", "there"] ["call", "one", "two", "three"] (defScope sRef) := ⟨rfl, rfl, rfl, by decide +kernel, rfl, by decide +kernel, by decide +kernel⟩
def cnames : List Str := ["NoHouse", "NoColour", "NoRow", "NoBoxes", "NoLaying", "NoNumber", "NoBox", "NoKey", "Locks", "Unlike", "Open", "Shut", "Full", "NothingLeft"]
def nmC (i : Nat) : Str := cnames.getD i default
def resV (bs : Nat → Bool) : List V := (((List.range 14).filter bs).map fun i => V.str (nmC i)) ++ [.bl true]
/-- what the names that _law_refused looks up are; C: the class that was raised -/
structure RefT (K : PySem.W.Frag) (mg : Str → Option Value) (C : Addr) (d : Nat → Addr) (bs : Nat → Bool) (dT dL dB : Addr) : Prop where
  mT : mg "TooMany" = some (.ref dT)
  mL : mg "Locked" = some (.ref dL)
  mB : mg "BoxError" = some (.ref dB)
  m : ∀ i, i < 14 → mg (nmC i) = some (.ref (d i))
  eT : PySem.W.exmOne K (.ref C) (.ref dT) = some false
  eL : PySem.W.exmOne K (.ref C) (.ref dL) = some false
  eB : PySem.W.exmOne K (.ref C) (.ref dB) = some true
  kit : ∀ i, i < 14 → PySem.W.kitOne K (.ref C) (.ref (d i)) = some (bs i)
  kitV : PySem.W.kitOne K (.ref C) (.type "ValueError") = some true
  ec : ExcC K C
  isi : mg "isinstance" = none
  ve : mg "ValueError" = none
theorem takes0N {X : Cx} : L2N.Takes X (fun _ _ _ _ => False) := fun _ _ x => by
  obtain ⟨_, _, _, _, _, _, _, _, _, _, _, _, _, _, _, _, z⟩ := x
  exact z.elim
theorem pss_pre {X : Cx} {l : List Stmt} {t : TS} {φ : Prop} (h : φ → PSs X l t) : PSs X l (fun D σ H => φ ∧ t D σ H) := ⟨fun pins s σ H D I w => (h w.1).run pins s σ H D I w.2⟩
theorem pss_no {X : Cx} {l : List Stmt} : PSs X l (fun _ _ _ => False) := ⟨fun _ _ _ _ _ _ w => False.elim w⟩
section
variable (K : PySem.W.Frag) (C a : Addr) (d : Nat → Addr)
def tIsC (v : V) : TE := tCB (rIsE K C a) (tCons (tVar 5) (tCons (tC v) tNil))
def tPr (i : Nat) : TE := tTup (tCons (tC (.str (nmC i))) (tCons (tIsC K C a (.ref (d i))) tNil))
def tW1 (i : Nat) : TS := tAsg (tOp rCat (tVar 6) (tLst (tCons (tPr K C a d i) tNil))) (gName 6)
def tW2 (i : Nat) : TS := tAsg (tOp rCat (tVar 6) (tLst (tCons (tPr K C a d i) (tCons (tPr K C a d (i + 1)) tNil)))) (gName 6)
def tKin : TS := tAsg (tOp rCat (tLc (iList K (tVar 6)) (gTup K 2 (gCons (gName 7) (gCons (gName 8) gNil))) (tB (tVar 8)) (tVar 7) [7, 8]) (tLst (tCons (tIsC K C a (.ty "ValueError")) tNil))) (gName 4)
def tSui : TS := tSeq (tAsg (tLst (tCons (tPr K C a d 0) (tCons (tPr K C a d 1) tNil))) (gName 6)) (tSeq (tW1 K C a d 2) (tSeq (tW2 K C a d 3) (tSeq (tW2 K C a d 5) (tSeq (tW2 K C a d 7) (tSeq (tW1 K C a d 9) (tSeq (tW2 K C a d 10) (tSeq (tW1 K C a d 12)
  (tSeq (tDrop (tBM K "list" rAppend (tVar 6) (tCons (tPr K C a d 13) tNil))) (tKin K C a)))))))))
end
theorem boot_ValueError : bootBuiltins "ValueError" = some (.type "ValueError") := by decide +kernel
def spRef (K : PySem.W.Frag) (mk : Addr → NF) (b : Expr) (spL : Sp) (C : Addr) (bs : Nat → Bool) : Sp := fun vs H Q _ => ∃ (f c' : Addr) (v1 v2 v3 : V), vs = [.ref f, v1, v2, v3] ∧ H f = some (LamO f (mk c') b) ∧ H (mk c').c = some (CodeO (mk c').c (mk c').qual) ∧
  (∀ H1, Ex H H1 → ∀ (Q' : VK) (E' : XK), (∀ H2, Ex H1 H2 → E' (.ref C) none H2) → spL [v1, v2, v3] H1 Q' E') ∧ ∀ p H2, H p = none → Ex H H2 → H2 p = some (.lst (resV bs)) → Q (.ref p) H2
section
variable {P : Program} {w : World} {K : PySem.W.Frag} {mg : Str → Option Value} {base : Heap}
def tRef (K : PySem.W.Frag) (mk : Addr → NF) (b : Expr) (spL : Sp) (C : Addr) (d : Nat → Addr) (dT dL dB : Addr) : TS :=
  tSeq (tAsg (tLst tNil) (gName 4)) (tSeq (fun D σ H => tDrop (tCallV mk b 0 spL (fun σ => WE (wAsM K 5 (fun _ _ _ _ => False) D [(.ref dT, fun _ _ _ => (fun _ _ _ => False)), (.ref dL, fun _ _ _ => (fun _ _ _ => False)), (.ref dB, fun a cls dd => fun D σ H => (cls = .ref C ∧ dd = none) ∧ tSui K C a d D σ H)]) σ)
    (tCons (tVar 1) (tCons (tVar 2) (tCons (tVar 3) tNil)))) D σ H) (tRet (tVar 4)))
theorem ok_ref' {f : Addr} {fd : FuncData} {k : Nat} {mk : Addr → NF} {b : Expr} {ps : List Str} {spL : Sp} {C dT dL dB : Addr} {d : Nat → Addr} {bs : Nat → Bool} (F : Fun K "_law_refused" "_law_refused" sRef f fd) (T : RefT K mg C d bs dT dL dB) (L : ∀ c', LOk P w K mg base (L2N.CX P w) k (mk c') b ps spL)
    (core : ∀ (f c' : Addr) (v1 v2 v3 : V) (H : Hp) (Q : VK) (nx bk ct : L2.St → Hp → Prop), H f = some (LamO f (mk c') b) → H (mk c').c = some (CodeO (mk c').c (mk c').qual) → ((∀ H1, Ex H H1 → ∀ (Q' : VK) (E' : XK), (∀ H2, Ex H1 H2 → E' (.ref C) none H2) → spL [v1, v2, v3] H1 Q' E')) → (∀ p H2, H p = none → Ex H H2 → H2 p = some (.lst (resV bs)) → Q (.ref p) H2) →
      tRef K mk b spL C d dT dL dB ⟨nx, Q, bk, ct⟩ [some (.ref f), some v1, some v2, some v3, none, none, none, none, none] H) : FnOk P w K mg base CX0 (k + 1) f fd ["call", "one", "two", "three"] (spRef K mk b spL C bs) := by
  refine F.ok scRef (fun vs H Q E h => ?_) (fun cdv A outer s H vs Q E hr h => ?_)
  · obtain ⟨f, c', v1, v2, v3, rfl, _⟩ := h
    rfl
  · obtain ⟨f, c', v1, v2, v3, rfl, hf, hc, q, qq⟩ := h
    refine ⟨tRef K mk b spL C d dT dL dB, pss_cons (ps_set (i := 4) scRef.nd rfl (.inl rfl) (pe_lst pa_nil))
      (pss_cons (ps_try_asM (j := 5) (n := "e") (Wo := fun _ _ _ _ => False) (tb := fun W => tDrop (tCallV mk b 0 spL (fun σ => WE W σ) (tCons (tVar 1) (tCons (tVar 2) (tCons (tVar 3) tNil))))) rfl rfl scRef.nd rfl rfl takes0N
        (fun W pp xe tk _ => pss_one (ps_expr (pe_callV (E := fun σ => WE W σ) (j := k) L hr (Nat.le_refl k) (fun σ => L2N.passAt tk σ) rfl (.inl rfl) (pa_cons (pv 1) (pa_cons (pv 2) (pa_cons (pv 3) pa_nil))))))
        (.cons ⟨rfl, by decide, .inl T.mT⟩ (fun _ _ _ _ _ _ _ => pss_no) (.cons ⟨rfl, by decide, .inl T.mL⟩ (fun _ _ _ _ _ _ _ => pss_no) (.cons ⟨rfl, by decide, .inl T.mB⟩ (fun a oe cls dd pn hz hfs => pss_pre fun hcd => ?_) .nil))))
      (pss_one (ps_ret (pv 4)))), core f c' v1 v2 v3 H _ _ _ _ hf hc q qq⟩
    obtain ⟨rfl, rfl⟩ := hcd
    have hot : ∀ X : Cx, L2H.HotC (X.suite a ((a, oe) :: pn)) := fun X => by
      obtain ⟨vs, hv⟩ := hfs
      exact ⟨(a, oe), ⟨rfl, vs, hv, hz.2.2 vs hv⟩, List.mem_cons_self⟩
    have isE := fun (X : Cx) (ec : ExcC X.K C) => call_isE (X := X) (a := a) (pn := pn) ec hz.zc hfs
    exact (pss_cons (ps_set (i := 6) scRef.nd rfl (.inl rfl) (pe_lst (pa_cons (pe_tup (pa_cons pe_str (pa_cons (pe_callB (isE _ T.ec) (by rfl) T.isi boot_isinstance (pa_cons (pv 5) (pa_cons (pe_glob (v := .ref (d 0)) (by rfl) (T.m 0 (by decide)) rfl) pa_nil))) pa_nil))) (pa_cons (pe_tup (pa_cons pe_str (pa_cons (pe_callB (isE _ T.ec) (by rfl) T.isi boot_isinstance (pa_cons (pv 5) (pa_cons (pe_glob (v := .ref (d 1)) (by rfl) (T.m 1 (by decide)) rfl) pa_nil))) pa_nil))) pa_nil))))
          (pss_cons (ps_set (i := 6) scRef.nd rfl (.inl rfl) (pe_op op_cat (pv 6) (pe_lst (pa_cons (pe_tup (pa_cons pe_str (pa_cons (pe_callB (isE _ T.ec) (by rfl) T.isi boot_isinstance (pa_cons (pv 5) (pa_cons (pe_glob (v := .ref (d 2)) (by rfl) (T.m 2 (by decide)) rfl) pa_nil))) pa_nil))) pa_nil))))
          (pss_cons (ps_set (i := 6) scRef.nd rfl (.inl rfl) (pe_op op_cat (pv 6) (pe_lst (pa_cons (pe_tup (pa_cons pe_str (pa_cons (pe_callB (isE _ T.ec) (by rfl) T.isi boot_isinstance (pa_cons (pv 5) (pa_cons (pe_glob (v := .ref (d 3)) (by rfl) (T.m 3 (by decide)) rfl) pa_nil))) pa_nil))) (pa_cons (pe_tup (pa_cons pe_str (pa_cons (pe_callB (isE _ T.ec) (by rfl) T.isi boot_isinstance (pa_cons (pv 5) (pa_cons (pe_glob (v := .ref (d 4)) (by rfl) (T.m 4 (by decide)) rfl) pa_nil))) pa_nil))) pa_nil)))))
          (pss_cons (ps_set (i := 6) scRef.nd rfl (.inl rfl) (pe_op op_cat (pv 6) (pe_lst (pa_cons (pe_tup (pa_cons pe_str (pa_cons (pe_callB (isE _ T.ec) (by rfl) T.isi boot_isinstance (pa_cons (pv 5) (pa_cons (pe_glob (v := .ref (d 5)) (by rfl) (T.m 5 (by decide)) rfl) pa_nil))) pa_nil))) (pa_cons (pe_tup (pa_cons pe_str (pa_cons (pe_callB (isE _ T.ec) (by rfl) T.isi boot_isinstance (pa_cons (pv 5) (pa_cons (pe_glob (v := .ref (d 6)) (by rfl) (T.m 6 (by decide)) rfl) pa_nil))) pa_nil))) pa_nil)))))
          (pss_cons (ps_set (i := 6) scRef.nd rfl (.inl rfl) (pe_op op_cat (pv 6) (pe_lst (pa_cons (pe_tup (pa_cons pe_str (pa_cons (pe_callB (isE _ T.ec) (by rfl) T.isi boot_isinstance (pa_cons (pv 5) (pa_cons (pe_glob (v := .ref (d 7)) (by rfl) (T.m 7 (by decide)) rfl) pa_nil))) pa_nil))) (pa_cons (pe_tup (pa_cons pe_str (pa_cons (pe_callB (isE _ T.ec) (by rfl) T.isi boot_isinstance (pa_cons (pv 5) (pa_cons (pe_glob (v := .ref (d 8)) (by rfl) (T.m 8 (by decide)) rfl) pa_nil))) pa_nil))) pa_nil)))))
          (pss_cons (ps_set (i := 6) scRef.nd rfl (.inl rfl) (pe_op op_cat (pv 6) (pe_lst (pa_cons (pe_tup (pa_cons pe_str (pa_cons (pe_callB (isE _ T.ec) (by rfl) T.isi boot_isinstance (pa_cons (pv 5) (pa_cons (pe_glob (v := .ref (d 9)) (by rfl) (T.m 9 (by decide)) rfl) pa_nil))) pa_nil))) pa_nil))))
          (pss_cons (ps_set (i := 6) scRef.nd rfl (.inl rfl) (pe_op op_cat (pv 6) (pe_lst (pa_cons (pe_tup (pa_cons pe_str (pa_cons (pe_callB (isE _ T.ec) (by rfl) T.isi boot_isinstance (pa_cons (pv 5) (pa_cons (pe_glob (v := .ref (d 10)) (by rfl) (T.m 10 (by decide)) rfl) pa_nil))) pa_nil))) (pa_cons (pe_tup (pa_cons pe_str (pa_cons (pe_callB (isE _ T.ec) (by rfl) T.isi boot_isinstance (pa_cons (pv 5) (pa_cons (pe_glob (v := .ref (d 11)) (by rfl) (T.m 11 (by decide)) rfl) pa_nil))) pa_nil))) pa_nil)))))
          (pss_cons (ps_set (i := 6) scRef.nd rfl (.inl rfl) (pe_op op_cat (pv 6) (pe_lst (pa_cons (pe_tup (pa_cons pe_str (pa_cons (pe_callB (isE _ T.ec) (by rfl) T.isi boot_isinstance (pa_cons (pv 5) (pa_cons (pe_glob (v := .ref (d 12)) (by rfl) (T.m 12 (by decide)) rfl) pa_nil))) pa_nil))) pa_nil))))
          (pss_cons (ps_expr (pe_bm PySem.F.plainAttrs_list PySem.F.slot_list_append PySem.F.type_list_append mt_append (pv 6) (pa_cons (pe_tup (pa_cons pe_str (pa_cons (pe_callB (isE _ T.ec) (by rfl) T.isi boot_isinstance (pa_cons (pv 5) (pa_cons (pe_glob (v := .ref (d 13)) (by rfl) (T.m 13 (by decide)) rfl) pa_nil))) pa_nil))) pa_nil)))
          (pss_one (ps_set (i := 4) scRef.nd rfl (.inl rfl) (pe_op op_cat (pe_lcH (own := [("word", 7), ("there", 8)]) (g := gTup K 2 (gCons (gName 7) (gCons (gName 8) gNil))) (tt := tB (tVar 8)) (te := tVar 7) (hot _) scRef.nd (pi_listH (pv 6)) (blkOk_by (N := ["call", "one", "two", "three", "kin", "e", "words", "word", "there"]) (sc := defScope sRef) (by decide +kernel))
          (fun _ _ _ _ _ => pg_tupH (hot _) (pgs_cons (pg_name (i := 7) scRef.nd rfl (.inl rfl)) (pgs_cons (pg_name (i := 8) scRef.nd rfl (.inl rfl)) pgs_nil))) (fun _ _ _ _ _ => pts_one (pt_val (pv 8))) (fun _ _ _ _ _ => pv 7))
          (pe_lst (pa_cons (pe_callB (isE _ T.ec) (by rfl) T.isi boot_isinstance (pa_cons (pv 5) (pa_cons (pe_bltn (v := .ty "ValueError") (by rfl) T.ve boot_ValueError rfl) pa_nil))) pa_nil))))))))))))))
end
end Kw
set_option Elab.async false
set_option linter.all false
set_option maxRecDepth 100000
set_option maxHeartbeats 4000000
namespace Kw
open PySem PySem.Spec PyProof.Rows L2 Evl KwX NdefX LamX
def PairAt (K : PySem.W.Frag) (bs : Nat → Bool) (H : Hp) (v : V) (i : Nat) : Prop := ∃ t, v = .ref t ∧ SqT K H t [.str (nmC i), .bl (bs i)]
def WdAt (K : PySem.W.Frag) (bs : Nat → Bool) (H : Hp) (l : Addr) (n : Nat) : Prop := ∃ vs, H l = some (.lst vs) ∧ Paired (PairAt K bs H) vs (List.range n)
section
variable {K : PySem.W.Frag} {mg : Str → Option Value} {C a dT dL dB : Addr} {d : Nat → Addr} {bs : Nat → Bool} {σ : L2.St} {H H' : Hp} {D : Ends} {tz : TS}
theorem PairAt.ex {v : V} {i : Nat} (e : Ex H H') (h : PairAt K bs H v i) : PairAt K bs H' v i := by
  obtain ⟨t, h1, h2⟩ := h
  exact ⟨t, h1, ex_t e h2⟩
theorem ev_isC (T : RefT K mg C d bs dT dL dB) (h5 : σ[5]? = some (some (.ref a))) {i : Nat} (hi : i < 14) : Ev (tIsC K C a (.ref (d i))) σ H (.bl (bs i)) := fun H1 e Q q =>
  ⟨.ref a, h5, .ref (d i), .ref (d i), bs i, rfl, fun u r => r, T.kit i hi, q H1 (Ex.refl H1)⟩
theorem ev_isV (T : RefT K mg C d bs dT dL dB) (h5 : σ[5]? = some (some (.ref a))) : Ev (tIsC K C a (.ty "ValueError")) σ H (.bl true) := fun H1 e Q q =>
  ⟨.ref a, h5, .ty "ValueError", .type "ValueError", true, rfl, fun u r => r, T.kitV, q H1 (Ex.refl H1)⟩
theorem eu_pr (T : RefT K mg C d bs dT dL dB) (h5 : σ[5]? = some (some (.ref a))) {i : Nat} (hi : i < 14) : EvU (tPr K C a d i) σ H [.str (nmC i), .bl (bs i)] :=
  eu_tup (ea_cons ev_c (ea_cons (ev_isC T h5 hi) ea_nil)) (by show 2 ≤ 100000; decide)
theorem q_cat1U {te : TE} {xs vs : List V} {i j : Nat} {l : Addr} (h : EvU te σ H xs) (hj : σ[j]? = some (some (.ref l))) (hl : H l = some (.lst vs)) (len : vs.length ≤ 1000) (k : ∀ r t H1, H r = none → Ex H H1 → H1 t = some (.tup xs) → H1 r = some (.lst (vs ++ [.ref t])) → tz D (σ.set i (some (.ref r))) H1) :
    tSeq (tAsg (tOp rCat (tVar j) (tLst (tCons te tNil))) (gName i)) tz D σ H := by
  refine ⟨.ref l, hj, h H (Ex.refl H) _ fun t H1 nt e1 ht => ⟨by show 1 ≤ sizeLine; decide, fun q hq => ⟨l, q, vs, [.ref t], rfl, rfl, (Ex.new hq) _ _ (e1 _ _ hl), upd_same, sz_of (by rw [List.length_singleton]; omega), fun r hr => ?_⟩⟩⟩
  have e2 := (Ex.new (o := .lst [.ref t]) hq).trans (Ex.new (o := .lst (vs ++ [.ref t])) hr)
  exact k r t _ (fresh_back (e1.trans (Ex.new hq)) hr) (e1.trans e2) (e2 _ _ ht) upd_same
theorem q_cat2U {te tu : TE} {xs ys vs : List V} {i j : Nat} {l : Addr} (h : EvU te σ H xs) (h' : ∀ H1, EvU tu σ H1 ys) (hj : σ[j]? = some (some (.ref l))) (hl : H l = some (.lst vs)) (len : vs.length ≤ 1000)
    (k : ∀ r t u H1, Ex H H1 → H1 t = some (.tup xs) → H1 u = some (.tup ys) → H1 r = some (.lst (vs ++ [.ref t, .ref u])) → tz D (σ.set i (some (.ref r))) H1) : tSeq (tAsg (tOp rCat (tVar j) (tLst (tCons te (tCons tu tNil)))) (gName i)) tz D σ H := by
  refine ⟨.ref l, hj, h H (Ex.refl H) _ fun t H1 nt e1 ht => h' H1 H1 (Ex.refl H1) _ fun u H2 nu e2 hu => ⟨by show 2 ≤ sizeLine; decide, fun q hq => ⟨l, q, vs, [.ref t, .ref u], rfl, rfl, (Ex.new hq) _ _ (e2 _ _ (e1 _ _ hl)), upd_same, sz_of (by show vs.length + 2 ≤ _; omega), fun r hr => ?_⟩⟩⟩
  have e3 := (Ex.new (o := .lst [.ref t, .ref u]) hq).trans (Ex.new (o := .lst (vs ++ [.ref t, .ref u])) hr)
  exact k r t u _ ((e1.trans e2).trans e3) (e3 _ _ (e2 _ _ ht)) (e3 _ _ hu) upd_same
theorem q_lst2U {te tu : TE} {xs ys : List V} {i : Nat} (h : EvU te σ H xs) (h' : ∀ H1, EvU tu σ H1 ys) (k : ∀ r t u H1, Ex H H1 → H1 t = some (.tup xs) → H1 u = some (.tup ys) → H1 r = some (.lst [.ref t, .ref u]) → tz D (σ.set i (some (.ref r))) H1) :
    tSeq (tAsg (tLst (tCons te (tCons tu tNil))) (gName i)) tz D σ H :=
  h H (Ex.refl H) _ fun t H1 nt e1 ht => h' H1 H1 (Ex.refl H1) _ fun u H2 nu e2 hu => ⟨by show 2 ≤ sizeLine; decide, fun q hq => k q t u _ ((e1.trans e2).trans (Ex.new hq)) ((Ex.new hq) _ _ (e2 _ _ ht)) ((Ex.new hq) _ _ hu) upd_same⟩
theorem q_appUt {te : TE} {xs vs : List V} {j : Nat} {l : Addr} (h : EvU te σ H xs) (hj : σ[j]? = some (some (.ref l))) (hl : H l = some (.lst vs)) (len : vs.length ≤ 1000) (k : ∀ t H1, Ex H H1 → H1 t = some (.tup xs) → H1 l = some (.lst vs) → tz D σ (upd H1 l (.lst (vs ++ [.ref t])))) :
    tSeq (tDrop (tBM K "list" rAppend (tVar j) (tCons te tNil))) tz D σ H :=
  ⟨.ref l, hj, .inl ⟨rfl, _, sq_of hl⟩, h H (Ex.refl H) _ fun t H1 nt e1 ht => ⟨l, vs, .ref t, rfl, rfl, e1 _ _ hl, sz_lt (by omega), k t H1 e1 ht (e1 _ _ hl)⟩⟩
theorem w1 (T : RefT K mg C d bs dT dL dB) (h5 : σ[5]? = some (some (.ref a))) {l : Addr} {n : Nat} (hn : n < 14) (h6 : σ[6]? = some (some (.ref l))) (hW : WdAt K bs H l n) (k : ∀ r H1, H r = none → Ex H H1 → WdAt K bs H1 r (n + 1) → tz D (σ.set 6 (some (.ref r))) H1) :
    tSeq (tW1 K C a d n) tz D σ H := by
  obtain ⟨vs, hl, hp⟩ := hW
  have len : vs.length = n := by rw [paired_len hp, List.length_range]
  refine q_cat1U (eu_pr T h5 hn) h6 hl (by omega) fun r t H1 nr e ht hr => k r H1 nr e ⟨vs ++ [.ref t], hr, ?_⟩
  rw [List.range_succ]
  exact paired_app (paired_imp hp fun _ _ x => x.ex e) ⟨t, rfl, st_of ht⟩
theorem w2 (T : RefT K mg C d bs dT dL dB) (h5 : σ[5]? = some (some (.ref a))) {l : Addr} {n : Nat} (hn : n + 1 < 14) (h6 : σ[6]? = some (some (.ref l))) (hW : WdAt K bs H l n) (k : ∀ r H1, Ex H H1 → WdAt K bs H1 r (n + 2) → tz D (σ.set 6 (some (.ref r))) H1) :
    tSeq (tW2 K C a d n) tz D σ H := by
  obtain ⟨vs, hl, hp⟩ := hW
  have len : vs.length = n := by rw [paired_len hp, List.length_range]
  refine q_cat2U (eu_pr T h5 (by omega)) (fun H1 => eu_pr T h5 hn) h6 hl (by omega) fun r t u H1 e ht hu hr => k r H1 e ⟨vs ++ [.ref t, .ref u], hr, ?_⟩
  rw [List.range_succ, List.range_succ, show vs ++ [V.ref t, V.ref u] = (vs ++ [.ref t]) ++ [.ref u] by simp]
  exact paired_app (paired_app (paired_imp hp fun _ _ x => x.ex e) ⟨t, rfl, st_of ht⟩) ⟨u, rfl, st_of hu⟩
theorem sui_ok (T : RefT K mg C d bs dT dL dB) {y0 y1 y2 y3 y4 : Option V} (k : ∀ p y6 y7 y8 H1, H p = none → Ex H H1 → H1 p = some (.lst (resV bs)) → D.nx [y0, y1, y2, y3, some (.ref p), some (.ref a), y6, y7, y8] H1) :
    tSui K C a d D [y0, y1, y2, y3, y4, some (.ref a), none, none, none] H := by
  refine q_lst2U (i := 6) (eu_pr T rfl (by decide)) (fun H1 => eu_pr T rfl (by decide)) fun q t u G0 f0 ht hu hq => ?_
  have g0 : WdAt K bs G0 q 2 := ⟨_, hq, .cons ⟨t, rfl, st_of ht⟩ (.cons ⟨u, rfl, st_of hu⟩ .nil)⟩
  refine w1 T rfl (by decide) rfl g0 fun q1 G1 _ f1 g1 => ?_
  refine w2 T rfl (by decide) rfl g1 fun q2 G2 f2 g2 => ?_
  refine w2 T rfl (by decide) rfl g2 fun q3 G3 f3 g3 => ?_
  refine w2 T rfl (by decide) rfl g3 fun q4 G4 f4 g4 => ?_
  refine w1 T rfl (by decide) rfl g4 fun q5 G5 _ f5 g5 => ?_
  refine w2 T rfl (by decide) rfl g5 fun q6 G6 f6 g6 => ?_
  refine w1 T rfl (by decide) rfl g6 fun q7 G7 n7 f7 g7 => ?_
  have eB := ((((((f0.trans f1).trans f2).trans f3).trans f4).trans f5).trans f6).trans f7
  obtain ⟨vs, hl, hp⟩ := g7
  have len : vs.length = 13 := by rw [paired_len hp, List.length_range]
  have nH : H q7 = none := fresh_back ((((((f0.trans f1).trans f2).trans f3).trans f4).trans f5).trans f6) n7
  refine q_appUt (K := K) (eu_pr T rfl (by decide)) rfl hl (by omega) fun t9 G8 e8 ht8 hl8 => ?_
  have kp := KeepT.lst (ys := vs ++ [.ref t9]) hl8
  have eC : Ex H (upd G8 q7 (.lst (vs ++ [.ref t9]))) := Ex.mut (eB.trans e8) nH
  have hq9 : upd G8 q7 (.lst (vs ++ [.ref t9])) q7 = some (.lst (vs ++ [.ref t9])) := upd_same
  have hp9 : Paired (PairAt K bs (upd G8 q7 (.lst (vs ++ [.ref t9])))) (vs ++ [.ref t9]) (List.range 14) := by
    rw [List.range_succ]
    refine paired_app (paired_imp hp fun _ _ x => ?_) ⟨t9, rfl, keep_t kp (st_of ht8)⟩
    obtain ⟨z, z1, z2⟩ := x
    exact ⟨z, z1, keep_t ((KeepT.ex e8).trans kp) z2⟩
  generalize upd G8 q7 (.lst (vs ++ [.ref t9])) = G at eC hq9 hp9
  have len9 : (vs ++ [V.ref t9]).length = 14 := by rw [List.length_append, List.length_singleton, len]
  refine s_asgL (i := 4) (xs := resV bs) (el_catN (el_lc (ew_list (K := K) (ev_var (v := .ref q7) rfl) (sq_of hq9)) (by omega) bs (fun i => .str (nmC i)) (by rw [len9]) (fun i x H1 H2 Q e hi hy kk => ?_)) (el_lst (ea_cons (ev_isV T rfl) ea_nil) (by show 1 ≤ 100000; decide)) ?_) fun p G9 np e9 hpp => k p _ _ _ G9 (fresh_back eC np) (eC.trans e9) hpp
  · obtain ⟨rfl, hx⟩ := hy
    obtain ⟨j, hj, t, rfl, ht⟩ := paired_get hp9 hx
    have hji : j = i := by
      rw [len9] at hi
      rw [List.getElem?_range hi] at hj
      exact (Option.some.inj hj).symm
    subst hji
    refine ⟨t, _, rfl, ex_t e ht, rfl, .str (nmC j), [.bl (bs j)], rfl, .bl (bs j), [], rfl, rfl, kk _ _ (Ex.refl _) rfl (et_B (ev_var rfl)) fun _ => ev_var rfl⟩
  · rw [List.length_map]
    have := List.length_filter_le bs (List.range 14)
    rw [List.length_range] at this
    show _ + 1 ≤ 100000
    omega
theorem ref_core {mk : Addr → NF} {b : Expr} {spL : Sp} (T : RefT K mg C d bs dT dL dB) {f c' : Addr} {v1 v2 v3 : V} {Q : VK} {nx bk ct : L2.St → Hp → Prop} (hf : H f = some (LamO f (mk c') b)) (hc : H (mk c').c = some (CodeO (mk c').c (mk c').qual))
    (q : ∀ H1, Ex H H1 → ∀ (Q' : VK) (E' : XK), (∀ H2, Ex H1 H2 → E' (.ref C) none H2) → spL [v1, v2, v3] H1 Q' E') (qq : ∀ p H2, H p = none → Ex H H2 → H2 p = some (.lst (resV bs)) → Q (.ref p) H2) :
    tRef K mk b spL C d dT dL dB ⟨nx, Q, bk, ct⟩ [some (.ref f), some v1, some v2, some v3, none, none, none, none, none] H := by
  refine q_asgL (i := 4) (xs := []) (el_lst ea_nil (by decide)) fun kp H1 n1 e1 hk => ?_
  refine ⟨f, c', rfl, e1 _ _ hf, v1, rfl, v2, rfl, v3, rfl, e1 _ _ hf, e1 _ _ hc, ?_⟩
  refine q H1 e1 _ _ fun H2 e2 => ?_
  refine ⟨false, T.eT, (fun h => by cases h), fun _ => ⟨false, T.eL, (fun h => by cases h), fun _ => ⟨true, T.eB, fun _ a na => ⟨⟨rfl, rfl⟩, ?_⟩, fun h => by cases h⟩⟩⟩
  refine sui_ok (a := a) T fun p y6 y7 y8 H3 np e3 hp => ?_
  exact ⟨.ref p, rfl, qq p H3 (fresh_back (e1.trans e2) np) ((e1.trans e2).trans e3) hp⟩
end
end Kw
set_option Elab.async false
set_option linter.all false
set_option maxRecDepth 100000
set_option maxHeartbeats 4000000
namespace Kw
open PySem PySem.Spec PyProof.Rows L2 Evl KwX NdefX LamX
/-! ### an error with a field -/
abbrev sTMI : Stmt := sMt 16 0
abbrev sLkI : Stmt := sMt 17 0
theorem scTMI : FnScope ["self", "most"] ["self", "most"] (defScope sTMI) := ⟨rfl, rfl, rfl, by decide +kernel, rfl, by decide +kernel, by decide +kernel⟩
theorem scLkI : FnScope ["self", "colour"] ["self", "colour"] (defScope sLkI) := ⟨rfl, rfl, rfl, by decide +kernel, rfl, by decide +kernel, by decide +kernel⟩
/-- __init__(self, v): self.f = v -/
def spIni (C : Addr) (f : Str) : Sp := fun vs H Q _ => ∃ (a : Addr) (v : V), vs = [.ref a, v] ∧ H a = some (exo a C none) ∧ ∀ dx, H dx = none → dx ≠ a → Q .non (upd (upd H dx (exd dx [(f, v)])) a (exo a C (some dx)))
structure IniT (K : PySem.W.Frag) (mg : Str → Option Value) (nm f : Str) (C fI : Addr) (fd : FuncData) : Prop where
  O : OexC K C
  i : PySem.W.findIn K (.ref C) "__init__" = some (some (.ref fI))
  ty : PySem.W.typeIn K (.ref fI) = some (.type "function")
  g : mg nm = some (.ref C)
  bn : Binds K fd ["self", f] []
section
variable {P : Program} {w : World} {K : PySem.W.Frag} {mg : Str → Option Value} {base : Heap}
theorem ok_tmi {f : Addr} {fd : FuncData} {k : Nat} {C : Addr} (F : Fun K "__init__" "TooMany.__init__" sTMI f fd) (O : OexC K C) (no : PySem.W.findIn K (.ref C) "most" = some none) : FnOk P w K mg base CX0 (k + 1) f fd ["self", "most"] (spIni C "most") := by
  refine F.ok scTMI (fun vs H Q E h => ?_) (fun cdv A outer s H vs Q E hr h => ?_)
  · obtain ⟨a, v, rfl, _⟩ := h
    rfl
  · obtain ⟨a, v, rfl, ha, q⟩ := h
    exact ⟨_, pss_one (ps_ost (pv 0) (pv 1)), v, rfl, .ref a, rfl, a, C, rfl, O, no, .inl ⟨ha, q⟩⟩
theorem ok_lki {f : Addr} {fd : FuncData} {k : Nat} {C : Addr} (F : Fun K "__init__" "Locked.__init__" sLkI f fd) (O : OexC K C) (no : PySem.W.findIn K (.ref C) "colour" = some none) : FnOk P w K mg base CX0 (k + 1) f fd ["self", "colour"] (spIni C "colour") := by
  refine F.ok scLkI (fun vs H Q E h => ?_) (fun cdv A outer s H vs Q E hr h => ?_)
  · obtain ⟨a, v, rfl, _⟩ := h
    rfl
  · obtain ⟨a, v, rfl, ha, q⟩ := h
    exact ⟨_, pss_one (ps_ost (pv 0) (pv 1)), v, rfl, .ref a, rfl, a, C, rfl, O, no, .inl ⟨ha, q⟩⟩
end
/-- C(v): raised, with v in its dict -/
theorem mk_ini {C : Addr} {f : Str} {v : V} {ta : TA} {σ : L2.St} {H : Hp} {Q : XK} (h : EvA ta σ H [v]) (q : ∀ dd H', Ex H H' → H' dd = some (.xd [(f, v)]) → Q (.ref C) (some dd) H') : tMkO C (spIni C f) [] ta σ H Q := by
  refine h H (Ex.refl H) _ fun H1 e1 => ⟨by show 1 ≤ 1000; decide, fun a na => ⟨a, v, rfl, upd_same, fun dx nd ne => ⟨rfl, dx, [(f, v)], upd_same, ?_, ?_, ?_⟩⟩⟩
  · rw [upd_ne ne, upd_same]
  · rw [upd_ne ne] at nd
    exact nd
  · rw [upd_ne ne] at nd
    refine q dx _ (e1.trans fun b o hb => ?_) upd_same
    have hba : b ≠ a := ne_of_none hb na
    have hbd : b ≠ dx := ne_of_none hb nd
    rw [upd_ne hbd, del_ne hba, upd_ne hba, upd_ne hbd, upd_ne hba]
    exact hb
/-! ### _law_refused, whatever becomes of the call -/
inductive Out where
  | fine : Out
  | many : Out
  | locked (c : Str) : Out
  | cls (i : Nat) : Out
def resO : Out → List V
  | .fine => []
  | .many => [.str "TooMany", .int 10, .bl true]
  | .locked c => [.str "Locked", .str c, .bl true]
  | .cls i => resV (fun j => decide (j = i))
/-- what an error class with the field f says -/
structure FldT (K : PySem.W.Frag) (C : Addr) (f : Str) : Prop where
  x : XfC K C
  no : PySem.W.findIn K (.ref C) f = some none
  e : ExcC K C
  v : PySem.W.kitOne K (.ref C) (.type "ValueError") = some true
structure RefG (K : PySem.W.Frag) (mg : Str → Option Value) (d : Nat → Addr) (rs : Nat → Bool) (rT rL : Bool) (dT dL dB : Addr) : Prop where
  mT : mg "TooMany" = some (.ref dT)
  mL : mg "Locked" = some (.ref dL)
  mB : mg "BoxError" = some (.ref dB)
  isi : mg "isinstance" = none
  ve : mg "ValueError" = none
  c : ∀ i, i < 14 → rs i = true → RefT K mg (d i) d (fun j => decide (j = i)) dT dL dB
  t : rT = true → PySem.W.exmOne K (.ref dT) (.ref dT) = some true ∧ FldT K dT "most"
  l : rL = true → PySem.W.exmOne K (.ref dL) (.ref dT) = some false ∧ PySem.W.exmOne K (.ref dL) (.ref dL) = some true ∧ FldT K dL "colour"
section
variable (K : PySem.W.Frag) (d : Nat → Addr)
def tFld (C : Addr) (nm f : Str) (a : Addr) (cls : Value) (dd : Option Addr) : TS := tAsg (tLst (tCons (tC (.str nm)) (tCons (tXf a cls dd C f (tVar 5)) (tCons (tCB (rIsD K C a dd) (tCons (tVar 5) (tCons (tC (.ty "ValueError")) tNil))) tNil)))) (gName 4)
def clG (rs : Nat → Bool) (rT rL : Bool) (dT dL dB : Addr) : List Cl := [(.ref dT, fun a cls dd D σ H => (rT = true ∧ cls = .ref dT) ∧ tFld K dT "TooMany" "most" a cls dd D σ H), (.ref dL, fun a cls dd D σ H => (rL = true ∧ cls = .ref dL) ∧ tFld K dL "Locked" "colour" a cls dd D σ H), (.ref dB, fun a cls dd D σ H => ∃ i, (i < 14 ∧ rs i = true ∧ cls = .ref (d i) ∧ dd = none) ∧ tSui K (d i) a d D σ H)]
def tRefG (mk : Addr → NF) (b : Expr) (spL : Sp) (rs : Nat → Bool) (rT rL : Bool) (dT dL dB : Addr) : TS :=
  tSeq (tAsg (tLst tNil) (gName 4)) (tSeq (fun D σ H => tDrop (tCallV mk b 0 spL (fun σ => WE (wAsM K 5 (fun _ _ _ _ => False) D (clG K d rs rT rL dT dL dB)) σ) (tCons (tVar 1) (tCons (tVar 2) (tCons (tVar 3) tNil)))) D σ H) (tRet (tVar 4)))
/-- the call of the lambda may end so: Φ -/
def Ends4 (spL : Sp) (vs : List V) (rs : Nat → Bool) (rT rL : Bool) (dT dL : Addr) (H1 : Hp) (Φ : Out → Hp → Prop) : Prop := ∀ (Q' : VK) (E' : XK), (∀ v H2, Φ .fine H2 → Q' v H2) → (∀ H2 dd, rT = true → Φ .many H2 → H2 dd = some (.xd [("most", .int 10)]) → E' (.ref dT) (some dd) H2) → (∀ c H2 dd, rL = true → Φ (.locked c) H2 → H2 dd = some (.xd [("colour", .str c)]) → E' (.ref dL) (some dd) H2) → (∀ i H2, i < 14 → rs i = true → Φ (.cls i) H2 → E' (.ref (d i)) none H2) → spL vs H1 Q' E'
def spRefG (mk : Addr → NF) (b : Expr) (spL : Sp) (rs : Nat → Bool) (rT rL : Bool) (dT dL : Addr) : Sp := fun vs H Q _ => ∃ (f c' : Addr) (v1 v2 v3 : V) (Φ : Hp → Out → Hp → Prop), vs = [.ref f, v1, v2, v3] ∧ H f = some (LamO f (mk c') b) ∧ H (mk c').c = some (CodeO (mk c').c (mk c').qual) ∧
  (∀ H1, Ex H H1 → Ends4 d spL [v1, v2, v3] rs rT rL dT dL H1 (Φ H1)) ∧ (∀ H1 H2 kp, Ex H H1 → H kp = none → H1 kp = some (.lst []) → Φ H1 .fine H2 → Q (.ref kp) H2) ∧ ∀ H1 o H2 p H3, Ex H H1 → o ≠ .fine → Φ H1 o H2 → H2 p = none → Ex H2 H3 → H3 p = some (.lst (resO o)) → Q (.ref p) H3
end
theorem pss_preX {α : Type} {X : Cx} {l : List Stmt} {t : α → TS} {φ : α → Prop} (h : ∀ i, φ i → PSs X l (t i)) : PSs X l (fun D σ H => ∃ i, φ i ∧ t i D σ H) := ⟨fun pins s σ H D I w => by
  obtain ⟨i, w1, w2⟩ := w
  exact (h i w1).run pins s σ H D I w2⟩
section
variable {P : Program} {w : World} {K : PySem.W.Frag} {mg : Str → Option Value} {base : Heap}
theorem ok_refG' {f : Addr} {fd : FuncData} {k : Nat} {mk : Addr → NF} {b : Expr} {ps : List Str} {spL : Sp} {dT dL dB : Addr} {d : Nat → Addr} {rs : Nat → Bool} {rT rL : Bool} (F : Fun K "_law_refused" "_law_refused" sRef f fd) (T : RefG K mg d rs rT rL dT dL dB) (L : ∀ c', LOk P w K mg base (L2N.CX P w) k (mk c') b ps spL)
    (core : ∀ vs H Q E, spRefG d mk b spL rs rT rL dT dL vs H Q E → ∀ nx bk ct, tRefG K d mk b spL rs rT rL dT dL dB ⟨nx, Q, bk, ct⟩ (start ["call", "one", "two", "three", "kin", "e", "words", "word", "there"] vs) H) : FnOk P w K mg base CX0 (k + 1) f fd ["call", "one", "two", "three"] (spRefG d mk b spL rs rT rL dT dL) := by
  refine F.ok scRef (fun vs H Q E h => ?_) (fun cdv A outer s H vs Q E hr h => ?_)
  · obtain ⟨f, c', v1, v2, v3, Φ, rfl, _⟩ := h
    rfl
  · refine ⟨tRefG K d mk b spL rs rT rL dT dL dB, pss_cons (ps_set (i := 4) scRef.nd rfl (.inl rfl) (pe_lst pa_nil))
      (pss_cons (ps_try_asM (j := 5) (n := "e") (Wo := fun _ _ _ _ => False) (tb := fun W => tDrop (tCallV mk b 0 spL (fun σ => WE W σ) (tCons (tVar 1) (tCons (tVar 2) (tCons (tVar 3) tNil))))) rfl rfl scRef.nd rfl rfl takes0N
        (fun W pp xe tk _ => pss_one (ps_expr (pe_callV (E := fun σ => WE W σ) (j := k) L hr (Nat.le_refl k) (fun σ => L2N.passAt tk σ) rfl (.inl rfl) (pa_cons (pv 1) (pa_cons (pv 2) (pa_cons (pv 3) pa_nil))))))
        (.cons ⟨rfl, by decide, .inl T.mT⟩ (fun a oe cls dd pn hz hfs => pss_pre fun hcd => ?_) (.cons ⟨rfl, by decide, .inl T.mL⟩ (fun a oe cls dd pn hz hfs => pss_pre fun hcd => ?_) (.cons ⟨rfl, by decide, .inl T.mB⟩ (fun a oe cls dd pn hz hfs => pss_preX fun i hcd => ?_) .nil))))
      (pss_one (ps_ret (pv 4)))), core vs H Q E h _ _ _⟩
    · obtain ⟨hr1, rfl⟩ := hcd
      have fl := (T.t hr1).2
      exact pss_one (ps_set (i := 4) scRef.nd rfl (.inl rfl) (pe_lst (pa_cons pe_str (pa_cons (pe_xf fl.x fl.no hz.zc hfs (pv 5)) (pa_cons (pe_callB (call_isD fl.e hz.zc hfs) (by rfl) T.isi boot_isinstance (pa_cons (pv 5) (pa_cons (pe_bltn (v := .ty "ValueError") (by rfl) T.ve boot_ValueError rfl) pa_nil))) pa_nil)))))
    · obtain ⟨hr1, rfl⟩ := hcd
      have fl := (T.l hr1).2.2
      exact pss_one (ps_set (i := 4) scRef.nd rfl (.inl rfl) (pe_lst (pa_cons pe_str (pa_cons (pe_xf fl.x fl.no hz.zc hfs (pv 5)) (pa_cons (pe_callB (call_isD fl.e hz.zc hfs) (by rfl) T.isi boot_isinstance (pa_cons (pv 5) (pa_cons (pe_bltn (v := .ty "ValueError") (by rfl) T.ve boot_ValueError rfl) pa_nil))) pa_nil)))))
    · obtain ⟨hi, hri, rfl, rfl⟩ := hcd
      have T := T.c i hi hri
      have hot : ∀ X : Cx, L2H.HotC (X.suite a ((a, oe) :: pn)) := fun X => by
        obtain ⟨vs, hv⟩ := hfs
        exact ⟨(a, oe), ⟨rfl, vs, hv, hz.2.2 vs hv⟩, List.mem_cons_self⟩
      have isE := fun (X : Cx) (ec : ExcC X.K (d i)) => call_isE (X := X) (a := a) (pn := pn) ec hz.zc hfs
      exact (pss_cons (ps_set (i := 6) scRef.nd rfl (.inl rfl) (pe_lst (pa_cons (pe_tup (pa_cons pe_str (pa_cons (pe_callB (isE _ T.ec) (by rfl) T.isi boot_isinstance (pa_cons (pv 5) (pa_cons (pe_glob (v := .ref (d 0)) (by rfl) (T.m 0 (by decide)) rfl) pa_nil))) pa_nil))) (pa_cons (pe_tup (pa_cons pe_str (pa_cons (pe_callB (isE _ T.ec) (by rfl) T.isi boot_isinstance (pa_cons (pv 5) (pa_cons (pe_glob (v := .ref (d 1)) (by rfl) (T.m 1 (by decide)) rfl) pa_nil))) pa_nil))) pa_nil))))
          (pss_cons (ps_set (i := 6) scRef.nd rfl (.inl rfl) (pe_op op_cat (pv 6) (pe_lst (pa_cons (pe_tup (pa_cons pe_str (pa_cons (pe_callB (isE _ T.ec) (by rfl) T.isi boot_isinstance (pa_cons (pv 5) (pa_cons (pe_glob (v := .ref (d 2)) (by rfl) (T.m 2 (by decide)) rfl) pa_nil))) pa_nil))) pa_nil))))
          (pss_cons (ps_set (i := 6) scRef.nd rfl (.inl rfl) (pe_op op_cat (pv 6) (pe_lst (pa_cons (pe_tup (pa_cons pe_str (pa_cons (pe_callB (isE _ T.ec) (by rfl) T.isi boot_isinstance (pa_cons (pv 5) (pa_cons (pe_glob (v := .ref (d 3)) (by rfl) (T.m 3 (by decide)) rfl) pa_nil))) pa_nil))) (pa_cons (pe_tup (pa_cons pe_str (pa_cons (pe_callB (isE _ T.ec) (by rfl) T.isi boot_isinstance (pa_cons (pv 5) (pa_cons (pe_glob (v := .ref (d 4)) (by rfl) (T.m 4 (by decide)) rfl) pa_nil))) pa_nil))) pa_nil)))))
          (pss_cons (ps_set (i := 6) scRef.nd rfl (.inl rfl) (pe_op op_cat (pv 6) (pe_lst (pa_cons (pe_tup (pa_cons pe_str (pa_cons (pe_callB (isE _ T.ec) (by rfl) T.isi boot_isinstance (pa_cons (pv 5) (pa_cons (pe_glob (v := .ref (d 5)) (by rfl) (T.m 5 (by decide)) rfl) pa_nil))) pa_nil))) (pa_cons (pe_tup (pa_cons pe_str (pa_cons (pe_callB (isE _ T.ec) (by rfl) T.isi boot_isinstance (pa_cons (pv 5) (pa_cons (pe_glob (v := .ref (d 6)) (by rfl) (T.m 6 (by decide)) rfl) pa_nil))) pa_nil))) pa_nil)))))
          (pss_cons (ps_set (i := 6) scRef.nd rfl (.inl rfl) (pe_op op_cat (pv 6) (pe_lst (pa_cons (pe_tup (pa_cons pe_str (pa_cons (pe_callB (isE _ T.ec) (by rfl) T.isi boot_isinstance (pa_cons (pv 5) (pa_cons (pe_glob (v := .ref (d 7)) (by rfl) (T.m 7 (by decide)) rfl) pa_nil))) pa_nil))) (pa_cons (pe_tup (pa_cons pe_str (pa_cons (pe_callB (isE _ T.ec) (by rfl) T.isi boot_isinstance (pa_cons (pv 5) (pa_cons (pe_glob (v := .ref (d 8)) (by rfl) (T.m 8 (by decide)) rfl) pa_nil))) pa_nil))) pa_nil)))))
          (pss_cons (ps_set (i := 6) scRef.nd rfl (.inl rfl) (pe_op op_cat (pv 6) (pe_lst (pa_cons (pe_tup (pa_cons pe_str (pa_cons (pe_callB (isE _ T.ec) (by rfl) T.isi boot_isinstance (pa_cons (pv 5) (pa_cons (pe_glob (v := .ref (d 9)) (by rfl) (T.m 9 (by decide)) rfl) pa_nil))) pa_nil))) pa_nil))))
          (pss_cons (ps_set (i := 6) scRef.nd rfl (.inl rfl) (pe_op op_cat (pv 6) (pe_lst (pa_cons (pe_tup (pa_cons pe_str (pa_cons (pe_callB (isE _ T.ec) (by rfl) T.isi boot_isinstance (pa_cons (pv 5) (pa_cons (pe_glob (v := .ref (d 10)) (by rfl) (T.m 10 (by decide)) rfl) pa_nil))) pa_nil))) (pa_cons (pe_tup (pa_cons pe_str (pa_cons (pe_callB (isE _ T.ec) (by rfl) T.isi boot_isinstance (pa_cons (pv 5) (pa_cons (pe_glob (v := .ref (d 11)) (by rfl) (T.m 11 (by decide)) rfl) pa_nil))) pa_nil))) pa_nil)))))
          (pss_cons (ps_set (i := 6) scRef.nd rfl (.inl rfl) (pe_op op_cat (pv 6) (pe_lst (pa_cons (pe_tup (pa_cons pe_str (pa_cons (pe_callB (isE _ T.ec) (by rfl) T.isi boot_isinstance (pa_cons (pv 5) (pa_cons (pe_glob (v := .ref (d 12)) (by rfl) (T.m 12 (by decide)) rfl) pa_nil))) pa_nil))) pa_nil))))
          (pss_cons (ps_expr (pe_bm PySem.F.plainAttrs_list PySem.F.slot_list_append PySem.F.type_list_append mt_append (pv 6) (pa_cons (pe_tup (pa_cons pe_str (pa_cons (pe_callB (isE _ T.ec) (by rfl) T.isi boot_isinstance (pa_cons (pv 5) (pa_cons (pe_glob (v := .ref (d 13)) (by rfl) (T.m 13 (by decide)) rfl) pa_nil))) pa_nil))) pa_nil)))
          (pss_one (ps_set (i := 4) scRef.nd rfl (.inl rfl) (pe_op op_cat (pe_lcH (own := [("word", 7), ("there", 8)]) (g := gTup K 2 (gCons (gName 7) (gCons (gName 8) gNil))) (tt := tB (tVar 8)) (te := tVar 7) (hot _) scRef.nd (pi_listH (pv 6)) (blkOk_by (N := ["call", "one", "two", "three", "kin", "e", "words", "word", "there"]) (sc := defScope sRef) (by decide +kernel))
          (fun _ _ _ _ _ => pg_tupH (hot _) (pgs_cons (pg_name (i := 7) scRef.nd rfl (.inl rfl)) (pgs_cons (pg_name (i := 8) scRef.nd rfl (.inl rfl)) pgs_nil))) (fun _ _ _ _ _ => pts_one (pt_val (pv 8))) (fun _ _ _ _ _ => pv 7))
          (pe_lst (pa_cons (pe_callB (isE _ T.ec) (by rfl) T.isi boot_isinstance (pa_cons (pv 5) (pa_cons (pe_bltn (v := .ty "ValueError") (by rfl) T.ve boot_ValueError rfl) pa_nil))) pa_nil))))))))))))))
end
end Kw
set_option Elab.async false
set_option linter.all false
set_option maxRecDepth 100000
set_option maxHeartbeats 4000000
namespace Kw
open PySem PySem.Spec PyProof.Rows L2 Evl KwX NdefX LamX
section
variable {P : Program} {w : World} {K : PySem.W.Frag} {mg : Str → Option Value} {base : Heap}
theorem fld_ok {C a dd : Addr} {nm f : Str} {v : V} {k4 k6 k7 k8 k0 k1 k2 k3 : Option V} {H : Hp} {D : Ends} (F : FldT K C f) (hd : H dd = some (.xd [(f, v)])) (q : ∀ p, H p = none → D.nx [k0, k1, k2, k3, some (.ref p), some (.ref a), k6, k7, k8] (upd H p (.lst [.str nm, v, .bl true]))) :
    tFld K C nm f a (.ref C) (some dd) D [k0, k1, k2, k3, k4, some (.ref a), k6, k7, k8] H := by
  refine ⟨.ref a, rfl, rfl, rfl, dd, _, v, rfl, hd, by simp [List.lookup], .ref a, rfl, .ty "ValueError", .type "ValueError", true, dd, _, rfl, rfl, hd, (fun u r => r), F.v, by show 3 ≤ sizeLine; decide, fun p np => q p np⟩
theorem refG_core {mk : Addr → NF} {b : Expr} {spL : Sp} {dT dL dB : Addr} {d : Nat → Addr} {rs : Nat → Bool} {rT rL : Bool} (T : RefG K mg d rs rT rL dT dL dB) (vs : List V) (H : Hp) (Q : VK) (E : XK) (h : spRefG d mk b spL rs rT rL dT dL vs H Q E) (nx bk ct : L2.St → Hp → Prop) :
    tRefG K d mk b spL rs rT rL dT dL dB ⟨nx, Q, bk, ct⟩ (start ["call", "one", "two", "three", "kin", "e", "words", "word", "there"] vs) H := by
  obtain ⟨f, c', v1, v2, v3, Φ, rfl, hf, hc, q, q0, q1⟩ := h
  show tRefG K d mk b spL rs rT rL dT dL dB ⟨nx, Q, bk, ct⟩ [some (.ref f), some v1, some v2, some v3, none, none, none, none, none] H
  refine q_asgL (i := 4) (xs := []) (el_lst ea_nil (by decide)) fun kp H1 n1 e1 hk => ?_
  refine ⟨f, c', rfl, e1 _ _ hf, v1, rfl, v2, rfl, v3, rfl, e1 _ _ hf, e1 _ _ hc, ?_⟩
  refine q H1 e1 _ _ (fun v H2 h2 => ?_) (fun H2 dd hr h2 hd => ?_) (fun c H2 dd hr h2 hd => ?_) (fun i H2 hi hr h2 => ?_)
  · exact ⟨.ref kp, rfl, q0 H1 H2 kp e1 n1 hk h2⟩
  · refine ⟨true, (T.t hr).1, (fun _ a na => ⟨⟨hr, rfl⟩, fld_ok (T.t hr).2 hd fun p np => ?_⟩), fun z => by cases z⟩
    exact ⟨.ref p, rfl, q1 H1 .many H2 p _ e1 (fun z => by cases z) h2 np (Ex.new np) upd_same⟩
  · refine ⟨false, (T.l hr).1, (fun z => by cases z), fun _ => ⟨true, (T.l hr).2.1, (fun _ a na => ⟨⟨hr, rfl⟩, fld_ok (T.l hr).2.2 hd fun p np => ?_⟩), fun z => by cases z⟩⟩
    exact ⟨.ref p, rfl, q1 H1 (.locked c) H2 p _ e1 (fun z => by cases z) h2 np (Ex.new np) upd_same⟩
  · have T := T.c i hi hr
    refine ⟨false, T.eT, (fun h => by cases h), fun _ => ⟨false, T.eL, (fun h => by cases h), fun _ => ⟨true, T.eB, fun _ a na => ⟨i, ⟨hi, hr, rfl, rfl⟩, ?_⟩, fun h => by cases h⟩⟩⟩
    refine sui_ok (a := a) T fun p y6 y7 y8 H3 np e3 hp => ?_
    exact ⟨.ref p, rfl, q1 H1 (.cls i) H2 p H3 e1 (fun z => by cases z) h2 np e3 hp⟩
theorem ok_refG {f : Addr} {fd : FuncData} {k : Nat} {mk : Addr → NF} {b : Expr} {ps : List Str} {spL : Sp} {dT dL dB : Addr} {d : Nat → Addr} {rs : Nat → Bool} {rT rL : Bool} (F : Fun K "_law_refused" "_law_refused" sRef f fd) (T : RefG K mg d rs rT rL dT dL dB) (L : ∀ c', LOk P w K mg base (L2N.CX P w) k (mk c') b ps spL) : FnOk P w K mg base CX0 (k + 1) f fd ["call", "one", "two", "three"] (spRefG d mk b spL rs rT rL dT dL) := ok_refG' F T L fun vs H Q E h nx bk ct => refG_core T vs H Q E h nx bk ct
end
end Kw
set_option Elab.async false
set_option linter.all false
set_option maxRecDepth 100000
set_option maxHeartbeats 4000000
namespace Kw
open PySem PySem.Spec PyProof.Rows L2 Evl
abbrev sCell : Stmt := topS 30
theorem scCell : FnScope ["script", "k"] ["script", "k"] (defScope sCell) := ⟨rfl, rfl, rfl, by decide +kernel, rfl, by decide +kernel, by decide +kernel⟩
abbrev BuL (mg : Str → Option Value) : Prop := Bu mg
def DrawsOk (xs : List Int) : Prop := xs.length = 400 ∧ ∀ x ∈ xs, 0 ≤ x ∧ x < 1000
def Bag (H : Hp) (a : Addr) : Prop := ∃ (d : Addr) (n : Int) (xs : List Int), H a = some (.lst [.ref d, .int n]) ∧ H d = some (.lst (xs.map V.int)) ∧ DrawsOk xs
/-- all stays but what lies at a -/
def ExB (a : Addr) (H H' : Hp) : Prop := ∀ b o, b ≠ a → H b = some o → H' b = some o
theorem ExB.refl (a : Addr) (H : Hp) : ExB a H H := fun _ _ _ h => h
theorem ExB.trans {a : Addr} {H H1 H2 : Hp} (x : ExB a H H1) (y : ExB a H1 H2) : ExB a H H2 := fun b o n h => y b o n (x b o n h)
theorem ExB.of {a : Addr} {H H' : Hp} (e : Ex H H') : ExB a H H' := fun b o _ h => e b o h
theorem Bag.ex {H H' : Hp} {a : Addr} (e : Ex H H') (h : Bag H a) : Bag H' a := by
  obtain ⟨d, n, xs, h1, h2, h3⟩ := h
  exact ⟨d, n, xs, e _ _ h1, e _ _ h2, h3⟩
theorem Bag.keepT {H H' : Hp} {a : Addr} (h : Bag H a) (e : ExB a H H') : KeepT H H' := fun b xs r => by
  obtain ⟨d, n, ys, h1, _⟩ := h
  have nb : b ≠ a := by
    rintro rfl
    rcases r with r | ⟨o, r⟩
    · rw [h1] at r; cases r
    · rw [h1] at r; cases r
  rcases r with r | ⟨o, r⟩
  · exact .inl (e _ _ nb r)
  · exact .inr ⟨o, e _ _ nb r⟩
section
variable {P : Program} {w : World} {K : PySem.W.Frag} {mg : Str → Option Value} {base : Heap}
/-! ### _law_cell_at -/
def spCell (K : PySem.W.Frag) : Sp := fun vs H Q _ => ∃ (a : Addr) (ns : List Int) (k : Nat), vs = [.ref a, vN k] ∧ SqL K H a (ns.map V.int) ∧ ∀ c H2, Ex H H2 → Q (.int c) H2
theorem ok_cell {f : Addr} {fd : FuncData} {k : Nat} (F : Fun K "_law_cell_at" "_law_cell_at" sCell f fd) (B : Bu mg) : FnOk P w K mg base CX0 (k + 1) f fd ["script", "k"] (spCell K) := by
  refine F.ok scCell (fun vs H Q E h => ?_) (fun cdv A outer s H vs Q E hr h => ?_)
  · obtain ⟨a, ns, k, rfl, _⟩ := h
    rfl
  · obtain ⟨a, ns, k, rfl, hS, q⟩ := h
    refine ⟨_, pss_cons (ps_if (pt_cmpR op_lt (pv 1) (pe_callB call_len_seq (by rfl) B.len PySem.boot_len (pa_cons (pv 0) pa_nil)) (nomark _)) (pss_one (ps_ret (pe_ix ix_list (pv 0) (pv 1) (fun _ _ => rfl)))) pss_nil) (pss_one (ps_ret pe_int)), ?_⟩
    refine q_when (b := decide ((k : Int) < ((ns.map V.int).length : Nat))) (et_test (ev_op (ev_var (v := vN k) rfl) (ev_len (K := K) (ev_var (v := .ref a) rfl) hS) rv_I0)) (fun hb H1 e1 => ?_) (fun hb H1 e1 => q 0 H1 e1)
    have hk : k < ns.length := by
      have := of_decide_eq_true hb
      rw [List.length_map] at this
      omega
    exact s_ret (ev_op (ev_var (v := .ref a) rfl) (ev_var (v := vN k) rfl) (rv_ixL (v := .int ns[k]) (ex_l e1 hS) (atI_nat (by rw [List.getElem?_map, List.getElem?_eq_getElem hk]; rfl)))) fun H2 e2 => q _ H2 (e1.trans e2)
/-! ### _law_draws -/
def DrawI (H : Hp) (p : Addr) (c : Int) (i : Nat) (σ' : L2.St) (H' : Hp) : Prop := ∃ (rest st : Int) (y : Option V) (xs : List Int), σ' = [some (.int c), some (.int 400), some (.int 1000), some (.ref p), some (.int rest), some (.int st), y] ∧ Ex H H' ∧ H' p = some (.lst (xs.map V.int)) ∧ xs.length = i - 3 ∧ (∀ x ∈ xs, 0 ≤ x ∧ x < 1000) ∧ 0 ≤ st ∧ st < 2305843009213693951
theorem DrawI.grow {H H' : Hp} {p : Addr} {c rest st v : Int} {i : Nat} {y : Option V} {xs : List Int} (np : H p = none) (e : Ex H H') (h2 : 2 < i) (hl : xs.length = i - 3) (hall : ∀ x ∈ xs, 0 ≤ x ∧ x < 1000) (v0 : 0 ≤ v) (v1 : v < 1000) (s0 : 0 ≤ st) (s1 : st < 2305843009213693951) :
    DrawI H p c (i + 1) [some (.int c), some (.int 400), some (.int 1000), some (.ref p), some (.int rest), some (.int st), y] (upd H' p (.lst (xs.map V.int ++ [.int v]))) := by
  refine ⟨rest, st, y, xs ++ [v], rfl, Ex.mut e np, ?_, by rw [List.length_append, List.length_singleton]; omega, fun x hx => ?_, s0, s1⟩
  · rw [upd_same, List.map_append]
    rfl
  · rcases List.mem_append.mp hx with h | h
    · exact hall x h
    · rw [List.mem_singleton.mp h]
      exact ⟨v0, v1⟩
def spDraw (K : PySem.W.Frag) : Sp := fun vs H Q _ => ∃ c : Int, vs = [.int c, .int 400, .int 1000] ∧ ∀ p xs H2, H p = none → Ex H H2 → H2 p = some (.lst (xs.map V.int)) → DrawsOk xs → Q (.ref p) H2
end
end Kw
set_option Elab.async false
set_option linter.all false
set_option maxRecDepth 100000
set_option maxHeartbeats 4000000
namespace Kw
open PySem PySem.Spec PyProof.Rows L2 Evl
section
variable {P : Program} {w : World} {K : PySem.W.Frag} {mg : Str → Option Value} {base : Heap}
/-! ### _law_bag -/
def spBag (K : PySem.W.Frag) : Sp := fun vs H Q _ => ∃ (a : Addr) (ns : List Int) (k : Nat), vs = [.ref a, vN k] ∧ SqL K H a (ns.map V.int) ∧ ∀ p d xs H2, H p = none → H d = none → Ex H H2 → H2 p = some (.lst [.ref d, .int 0]) → H2 d = some (.lst (xs.map V.int)) → DrawsOk xs → Q (.ref p) H2
def BagsAt (H : Hp) (ys : List V) : Prop := ∀ y ∈ ys, ∃ a, y = .ref a ∧ Bag H a
theorem BagsAt.ex {H H' : Hp} {ys : List V} (e : Ex H H') (h : BagsAt H ys) : BagsAt H' ys := fun y hy => by
  obtain ⟨a, h1, h2⟩ := h y hy
  exact ⟨a, h1, h2.ex e⟩
def spBags (K : PySem.W.Frag) (lim : Nat) : Sp := fun vs H Q _ => ∃ (a : Addr) (ns : List Int), vs = [.ref a, vN lim] ∧ SqL K H a (ns.map V.int) ∧ ns.length ≤ 1000 ∧ ∀ p ys H2, H p = none → Ex H H2 → H2 p = some (.lst ys) → BagsAt H2 ys → (∀ y ∈ ys, y ≠ .ref p) → ys.length ≤ lim → Q (.ref p) H2
/-- the lists made on the way stay apart from the list that is made of them -/
theorem ExB.back {a : Addr} {H H' : Hp} (e : ExB a H H') (h : Bag H' a) {b : Addr} (hb : H' b = none) : H b = none := by
  obtain ⟨d, n, xs, h1, _⟩ := h
  cases q : H b with
  | none => rfl
  | some o =>
    have nb : b ≠ a := fun z => by
      rw [z, h1] at hb
      cases hb
    rw [e b o nb q] at hb
    cases hb
/-! ### _law_take -/
def spTake (K : PySem.W.Frag) : Sp := fun vs H Q _ => ∃ (a : Addr) (m : Int), vs = [.ref a, .int m] ∧ Bag H a ∧ 0 < m ∧ ∀ r H', 0 ≤ r → r < m → ExB a H H' → Bag H' a → Q (.int r) H'
end
end Kw
set_option Elab.async false
set_option linter.all false
set_option maxRecDepth 100000
set_option maxHeartbeats 4000000
namespace Kw
open PySem PySem.Spec PyProof.Rows L2 Evl
theorem Bag.other {H H' : Hp} {a b : Addr} (hb : Bag H b) (ha : Bag H a) (e : ExB a H H') (ha' : Bag H' a) : Bag H' b := by
  by_cases hab : b = a
  · rw [hab]
    exact ha'
  · obtain ⟨d, n, xs, g1, g2, g3⟩ := hb
    obtain ⟨d', n', xs', f1, _⟩ := ha
    have hd : d ≠ a := fun z => by
      rw [z, f1] at g2
      have e := congrArg List.length (HO.lst.inj (Option.some.inj g2))
      rw [List.length_map, g3.1] at e
      cases e
    exact ⟨d, n, xs, e _ _ hab g1, e _ _ hd g2, g3⟩
/-- the loop over the bags of a script -/
theorem bags_for {K : PySem.W.Frag} {lim : Nat} {D : Ends} {body : TS} {σ : L2.St} {H : Hp} {a : Addr} {ns : List Int} (S : L2.St → Prop) (h0 : σ[0]? = some (some (.ref a))) (hS : SqL K H a (ns.map V.int)) (hl : ns.length ≤ 63) (hs : S σ)
    (turn : ∀ b H1 σ' (N : L2.St → Hp → Prop), S σ' → Bag H1 b → (∀ σ'' H'', S σ'' → ExB b H1 H'' → Bag H'' b → N σ'' H'') → body { D with nx := N, ct := N, bk := D.nx } (σ'.set 1 (some (.ref b))) H1)
    (done : ∀ σ' H', S σ' → D.nx σ' H') : tFor (iList K (tCall (spBags K lim) [] E0 (tCons (tVar 0) (tCons (tC (.int lim)) tNil)))) (gName 1) body D σ H := by
  refine ⟨.ref a, h0, a, ns, rfl, hS, by omega, fun p ys H1 np e1 hp hB hne hln => ⟨p, rfl, ⟨ys, sq_of hp⟩, ?_⟩⟩
  refine for_it (walk_list (K := K) (a := p) (xs := ys)) (fun _ σ' H' => S σ' ∧ H' p = some (.lst ys) ∧ BagsAt H' ys) ⟨hs, hp, hB⟩ (fun i σ' H' _ hP => sq_of hP.2.1) (fun i x σ' H2 H3 hi hP hy => ?_) (fun σ' H2 hP => done σ' H2 hP.1)
  obtain ⟨s2, hp2, hB2⟩ := hP
  obtain ⟨rfl, hx⟩ := hy
  have hm := List.mem_of_getElem? hx
  obtain ⟨b, rfl, hb⟩ := hB2 x hm
  have hpb : p ≠ b := fun z => hne _ hm (by rw [z])
  exact turn b _ σ' _ s2 hb fun σ'' H'' hs x2 b2 => ⟨hs, x2 _ _ hpb hp2, (fun y hy => by
    obtain ⟨b', rfl, hb'⟩ := hB2 y hy
    exact ⟨b', rfl, hb'.other hb x2 b2⟩)⟩
def spLaw (K : PySem.W.Frag) : Sp := fun vs H Q _ => ∃ (a : Addr) (ns : List Int), vs = [.ref a] ∧ SqL K H a (ns.map V.int) ∧ ns.length ≤ 63 ∧ ∀ H', Q (.bl true) H'
/-- the slots of a law: the script's, then n others -/
def SlotsN (a : Addr) (n : Nat) (σ : L2.St) : Prop := ∃ ys : List (Option V), ys.length = n ∧ σ = some (.ref a) :: ys
end Kw
set_option Elab.async false
set_option linter.all false
set_option maxRecDepth 100000
set_option maxHeartbeats 4000000
namespace Kw
open PySem PySem.Spec PyProof.Rows L2 Evl KwX NdefX LamX
/-- all but the bag at a and the tables stays -/
def XB (a : Addr) (H H' : Hp) : Prop := ∀ b o, b ≠ a → H b = some o → (∀ ps, o ≠ .tbl ps) → H' b = some o
theorem XB.refl (a : Addr) (H : Hp) : XB a H H := fun _ _ _ h _ => h
theorem XB.trans {a : Addr} {H H1 H2 : Hp} (x : XB a H H1) (y : XB a H1 H2) : XB a H H2 := fun b o n h t => y b o n (x b o n h t) t
theorem XB.b {a : Addr} {H H' : Hp} (e : ExB a H H') : XB a H H' := fun b o n h _ => e b o n h
theorem XB.n {a : Addr} {H H' : Hp} (e : ExtN H H') : XB a H H' := fun b o _ h t => e b o h t
theorem XB.ex {a : Addr} {H H' : Hp} (e : Ex H H') : XB a H H' := fun b o _ h _ => e b o h
theorem Bag.n {H H' : Hp} {a : Addr} (e : ExtN H H') (h : Bag H a) : Bag H' a := by
  obtain ⟨d, n, xs, h1, h2, h3⟩ := h
  exact ⟨d, n, xs, e _ _ h1 (fun ps z => by cases z), e _ _ h2 (fun ps z => by cases z), h3⟩
theorem Tabs.bag {T : List (Addr × Str)} {H H' : Hp} {a : Addr} (h : Bag H a) (e : ExB a H H') (t : Tabs T H) : Tabs T H' := fun p hp => by
  obtain ⟨d, n, xs, g1, _⟩ := h
  obtain ⟨ps, h1, h2, h3⟩ := t p hp
  have ne1 : p.1 ≠ a := fun z => by
    rw [z, g1] at h1
    cases h1
  refine ⟨ps, e _ _ ne1 h1, h2, fun pos cv hc => ?_⟩
  obtain ⟨c, e1, e2⟩ := h3 pos cv hc
  refine ⟨c, e1, e _ _ (fun z => ?_) e2⟩
  rw [z, g1] at e2
  unfold CodeO at e2
  cases e2
theorem Bag.otherX {H H' : Hp} {a b : Addr} (hb : Bag H b) (ha : Bag H a) (e : XB a H H') (ha' : Bag H' a) : Bag H' b := by
  by_cases hab : b = a
  · rw [hab]
    exact ha'
  · obtain ⟨d, n, xs, g1, g2, g3⟩ := hb
    obtain ⟨d', n', xs', f1, _⟩ := ha
    have hd : d ≠ a := fun z => by
      rw [z, f1] at g2
      have e := congrArg List.length (HO.lst.inj (Option.some.inj g2))
      rw [List.length_map, g3.1] at e
      cases e
    exact ⟨d, n, xs, e _ _ hab g1 (fun ps z => by cases z), e _ _ hd g2 (fun ps z => by cases z), g3⟩
theorem XB.keepT {H H' : Hp} {a : Addr} (h : Bag H a) (e : XB a H H') : KeepT H H' := fun b xs r => by
  obtain ⟨d, n, ys, h1, _⟩ := h
  have nb : b ≠ a := by
    rintro rfl
    rcases r with r | ⟨o, r⟩
    · rw [h1] at r; cases r
    · rw [h1] at r; cases r
  rcases r with r | ⟨o, r⟩
  · exact .inl (e _ _ nb r (fun ps z => by cases z))
  · exact .inr ⟨o, e _ _ nb r (fun ps z => by cases z)⟩
/-- the loop over the bags of a script, lambdas made on the way -/
theorem bags_forT {K : PySem.W.Frag} {T : List (Addr × Str)} {lim : Nat} {D : Ends} {body : TS} {σ : L2.St} {H : Hp} {a : Addr} {ns : List Int} (S : L2.St → Prop) (h0 : σ[0]? = some (some (.ref a))) (hS : SqL K H a (ns.map V.int)) (hl : ns.length ≤ 63) (hT : Tabs T H) (hs : S σ)
    (turn : ∀ b H1 σ' (N : L2.St → Hp → Prop), S σ' → Bag H1 b → Tabs T H1 → (∀ σ'' H'', S σ'' → XB b H1 H'' → Bag H'' b → Tabs T H'' → N σ'' H'') → body { D with nx := N, ct := N, bk := D.nx } (σ'.set 1 (some (.ref b))) H1)
    (done : ∀ σ' H', S σ' → Tabs T H' → D.nx σ' H') : tFor (iList K (tCall (spBags K lim) [] E0 (tCons (tVar 0) (tCons (tC (.int lim)) tNil)))) (gName 1) body D σ H := by
  refine ⟨.ref a, h0, a, ns, rfl, hS, by omega, fun p ys H1 np e1 hp hB hne hln => ⟨p, rfl, ⟨ys, sq_of hp⟩, ?_⟩⟩
  refine for_it (walk_list (K := K) (a := p) (xs := ys)) (fun _ σ' H' => S σ' ∧ H' p = some (.lst ys) ∧ BagsAt H' ys ∧ Tabs T H') ⟨hs, hp, hB, hT.ext e1⟩ (fun i σ' H' _ hP => sq_of hP.2.1) (fun i x σ' H2 H3 hi hP hy => ?_) (fun σ' H2 hP => done σ' H2 hP.1 hP.2.2.2)
  obtain ⟨s2, hp2, hB2, hT2⟩ := hP
  obtain ⟨rfl, hx⟩ := hy
  have hm := List.mem_of_getElem? hx
  obtain ⟨b, rfl, hb⟩ := hB2 x hm
  have hpb : p ≠ b := fun z => hne _ hm (by rw [z])
  exact turn b _ σ' _ s2 hb hT2 fun σ'' H'' hs x2 b2 t2 => ⟨hs, x2 _ _ hpb hp2 (fun ps z => by cases z), (fun y hy => by
    obtain ⟨b', rfl, hb'⟩ := hB2 y hy
    exact ⟨b', rfl, hb'.otherX hb x2 b2⟩), t2⟩
def spLawX (K : PySem.W.Frag) (T : List (Addr × Str)) : Sp := fun vs H Q _ => ∃ (a : Addr) (ns : List Int), vs = [.ref a] ∧ SqL K H a (ns.map V.int) ∧ ns.length ≤ 63 ∧ Tabs T H ∧ ∀ H', Q (.bl true) H'
section
variable {K : PySem.W.Frag} {T : List (Addr × Str)} {C : Addr} {σ : L2.St} {H : Hp} {D : Ends} {tu tz : TS} {ta : TA} {mk : Addr → NF} {b : Expr} {spL : Sp}
/-- a list of a text and True, beside the like -/
theorem rv_neSB {p q : Addr} {x y : Str} (sx : PyData.strOk x = true) (sy : PyData.strOk y = true) (h1 : SqL K H p [.str x, .bl true]) (h2 : SqL K H q [.str y, .bl true]) : RV (rNeD K) (.ref p) (.ref q) H (.bl (!decide (x = y))) := fun H1 e Q k =>
  ⟨.list [.str x, .bool true], .list [.str y, .bool true], .lst (ex_l e h1) (.cons (.str x) (.cons (.bl true) .nil)), .lst (ex_l e h2) (.cons (.str y) (.cons (.bl true) .nil)), by simp [SeqAt.shaped, PyData.canLayAll0, PyData.canLay0, PyData.depth, PyData.depthAll, sx], by simp [SeqAt.shaped, PyData.canLayAll0, PyData.canLay0, PyData.depth, PyData.depthAll, sy], by
    have : PyData.eqv (.list [.str x, .bool true]) (.list [.str y, .bool true]) = decide (x = y) := by
      simp [PyData.eqv, PyData.eqvAll, str_beq]
    rw [this]
    exact k H1 (Ex.refl H1)⟩
/-- if _law_refused(lambda .., ..) != ["X", True]: .. , where X is refused -/
theorem s_ref (j : Nat) {v1 v2 v3 : V} {nm : Str} (hnm : PyData.strOk nm = true) (hres : resV (fun i => decide (i = j)) = [.str nm, .bl true]) (hT : Tabs T H) (ha : ∀ H1, ExtN H H1 → EvA ta σ H1 [v1, v2, v3])
    (hL : ∀ H1, ExtN H H1 → ∀ (Q' : VK) (E' : XK), (∀ H2, Ex H1 H2 → E' (.ref C) none H2) → spL [v1, v2, v3] H1 Q' E') (k : ∀ H1, ExtN H H1 → Tabs T H1 → D.nx σ H1) (hmk : ∀ c', (mk c').c = c' := by intro _; rfl) :
    tIfS (tTest (tOp (rNeD K) (tCall (spRef K mk b spL C (fun i => decide (i = j))) [] E0 (tCons (tLamV T mk b) ta)) (tLst (tCons (tC (.str nm)) (tCons (tC (.bl true)) tNil))))) tu tNext D σ H := by
  refine ⟨hT, fun f c' H1 eN nn T1 nf hf hc => ha H1 eN H1 (Ex.refl H1) _ fun H2 e2 => ⟨f, c', v1, v2, v3, rfl, e2 _ _ hf, by rw [hmk]; exact e2 _ _ hc, fun H3 e Q' E' hE => hL H3 (fun b o hb n => (e2.trans e) _ _ (eN b o hb n)) Q' E' hE, fun p H3 np e3 hp => ?_⟩⟩
  refine ⟨by show 2 ≤ sizeLine; decide, fun q nq => ?_⟩
  rw [hres] at hp
  have e4 := Ex.new (o := .lst [.str nm, .bl true]) nq
  refine rv_neSB (K := K) (x := nm) (y := nm) hnm hnm (sq_of (e4 _ _ hp)) (sq_of upd_same) _ (Ex.refl _) _ fun H5 e5 => ⟨_, rfl, ?_⟩
  rw [decide_eq_true rfl]
  have eA := ((e2.trans e3).trans e4).trans e5
  exact k H5 (fun b o hb n => eA _ _ (eN b o hb n)) (T1.ext eA)
theorem q_ref (j : Nat) {v1 v2 v3 : V} {nm : Str} (hnm : PyData.strOk nm = true) (hres : resV (fun i => decide (i = j)) = [.str nm, .bl true]) (hT : Tabs T H) (ha : ∀ H1, ExtN H H1 → EvA ta σ H1 [v1, v2, v3])
    (hL : ∀ H1, ExtN H H1 → ∀ (Q' : VK) (E' : XK), (∀ H2, Ex H1 H2 → E' (.ref C) none H2) → spL [v1, v2, v3] H1 Q' E') (k : ∀ H1, ExtN H H1 → Tabs T H1 → tz D σ H1) (hmk : ∀ c', (mk c').c = c' := by intro _; rfl) :
    tSeq (tIfS (tTest (tOp (rNeD K) (tCall (spRef K mk b spL C (fun i => decide (i = j))) [] E0 (tCons (tLamV T mk b) ta)) (tLst (tCons (tC (.str nm)) (tCons (tC (.bl true)) tNil))))) tu tNext) tz D σ H :=
  s_ref (D := { D with nx := tz D }) j hnm hres hT ha hL k hmk
end
end Kw
set_option Elab.async false
set_option linter.all false
set_option maxRecDepth 100000
set_option maxHeartbeats 4000000
namespace Kw
open PySem PySem.Spec PyProof.Rows L2 Evl KwX NdefX LamX
/-! ### asked of _law_refused in a law -/
def dataO : Out → List PyData
  | .fine => []
  | .many => [.str "TooMany", .int 10, .bool true]
  | .locked c => [.str "Locked", .str c, .bool true]
  | .cls i => [.str (nmC i), .bool true]
def OkO : Out → Prop
  | .locked c => PyData.strOk c = true
  | .cls i => i < 14
  | _ => True
theorem res_cls {i : Nat} (h : i < 14) : resO (.cls i) = [.str (nmC i), .bl true] := by
  match i, h with
  | 0, _ | 1, _ | 2, _ | 3, _ | 4, _ | 5, _ | 6, _ | 7, _ | 8, _ | 9, _ | 10, _ | 11, _ | 12, _ | 13, _ => rfl
theorem nmC_ok {i : Nat} (h : i < 14) : PyData.strOk (nmC i) = true := by
  match i, h with
  | 0, _ | 1, _ | 2, _ | 3, _ | 4, _ | 5, _ | 6, _ | 7, _ | 8, _ | 9, _ | 10, _ | 11, _ | 12, _ | 13, _ => decide +kernel
theorem res_dp {K : PySem.W.Frag} {H : Hp} {o : Out} (h : OkO o) : DpAll K H (resO o) (dataO o) := by
  cases o with
  | fine => exact .nil
  | many => exact .cons (.str _) (.cons (.int _) (.cons (.bl _) .nil))
  | locked c => exact .cons (.str _) (.cons (.str _) (.cons (.bl _) .nil))
  | cls i =>
    rw [res_cls h]
    exact .cons (.str _) (.cons (.bl _) .nil)
theorem res_shaped {o : Out} (h : OkO o) : SeqAt.shaped (.list (dataO o)) = true := by
  cases o with
  | fine => decide +kernel
  | many => decide +kernel
  | locked c =>
    have h : PyData.strOk c = true := h
    simp [dataO, SeqAt.shaped, PyData.canLayAll0, PyData.canLay0, PyData.depth, PyData.depthAll, h]
    decide +kernel
  | cls i =>
    have h := nmC_ok h
    simp [dataO, SeqAt.shaped, PyData.canLayAll0, PyData.canLay0, PyData.depth, PyData.depthAll, h]
theorem res_eqv {o : Out} : PyData.eqv (.list (dataO o)) (.list (dataO o)) = true := by
  cases o <;> simp [dataO, PyData.eqv, PyData.eqvAll]
section
variable {K : PySem.W.Frag} {T : List (Addr × Str)} {σ : L2.St} {H : Hp} {D : Ends} {tu tz : TS} {ta : TA} {tc : TE} {mk : Addr → NF} {b : Expr} {spL : Sp} {d : Nat → Addr} {rs : Nat → Bool} {rT rL : Bool} {dT dL : Addr}
/-- what is refused so, and all else stays -/
def OnlyO (o : Out) : Hp → Out → Hp → Prop := fun H1 o' H2 => o' = o ∧ Ex H1 H2
theorem ref_run (o : Out) {v1 v2 v3 : V} {Q : VK} (hT : Tabs T H) (ha : ∀ H1, ExtN H H1 → EvA ta σ H1 [v1, v2, v3])
    (hL : ∀ H1, ExtN H H1 → Ends4 d spL [v1, v2, v3] rs rT rL dT dL H1 (OnlyO o H1)) (k : ∀ p H1, ExtN H H1 → Tabs T H1 → H1 p = some (.lst (resO o)) → Q (.ref p) H1) (hmk : ∀ c', (mk c').c = c' := by intro _; rfl) :
    tCall (spRefG d mk b spL rs rT rL dT dL) [] E0 (tCons (tLamV T mk b) ta) σ H Q := by
  refine ⟨hT, fun f c' H1 eN nn T1 nf hf hc => ha H1 eN H1 (Ex.refl H1) _ fun H2 e2 => ⟨f, c', v1, v2, v3, fun G => OnlyO o G, rfl, e2 _ _ hf, by rw [hmk]; exact e2 _ _ hc, fun H3 e => hL H3 (fun b o hb n => (e2.trans e) _ _ (eN b o hb n)), fun G1 G2 kp e3 nk hk hO => ?_, fun G1 o' G2 p G3 e3 no hO np e4 hp => ?_⟩⟩
  · obtain ⟨rfl, e4⟩ := hO
    have eA := (e2.trans e3).trans e4
    exact k kp G2 (fun b o hb n => eA _ _ (eN b o hb n)) (T1.ext eA) (e4 _ _ hk)
  · obtain ⟨rfl, e5⟩ := hO
    have eA := ((e2.trans e3).trans e5).trans e4
    exact k p G3 (fun b o hb n => eA _ _ (eN b o hb n)) (T1.ext eA) hp
/-- if _law_refused(lambda .., ..) != [..]: .. -/
theorem s_refG (o : Out) (oo : OkO o) {v1 v2 v3 : V} (hT : Tabs T H) (ha : ∀ H1, ExtN H H1 → EvA ta σ H1 [v1, v2, v3]) (hc : ∀ H1, EvD K tc σ H1 (.list (dataO o)))
    (hL : ∀ H1, ExtN H H1 → Ends4 d spL [v1, v2, v3] rs rT rL dT dL H1 (OnlyO o H1)) (k : ∀ H1, ExtN H H1 → Tabs T H1 → D.nx σ H1) (hmk : ∀ c', (mk c').c = c' := by intro _; rfl) :
    tIfS (tTest (tOp (rNeD K) (tCall (spRefG d mk b spL rs rT rL dT dL) [] E0 (tCons (tLamV T mk b) ta)) tc)) tu tNext D σ H := by
  refine ref_run o hT ha hL (fun p H1 eN T1 hp => ?_) hmk
  refine hc H1 H1 (Ex.refl H1) _ fun v H2 e2 hv => ?_
  refine rv_neDp (K := K) (d := .list (dataO o)) (e := .list (dataO o)) (.lst (sq_of (e2 _ _ hp)) (res_dp oo)) hv (res_shaped oo) (res_shaped oo) _ (Ex.refl _) _ fun H3 e3 => ⟨_, rfl, ?_⟩
  rw [res_eqv]
  have eA := e2.trans e3
  exact k H3 (fun b o hb n => eA _ _ (eN b o hb n)) (T1.ext eA)
theorem q_refG (o : Out) (oo : OkO o) {v1 v2 v3 : V} (hT : Tabs T H) (ha : ∀ H1, ExtN H H1 → EvA ta σ H1 [v1, v2, v3]) (hc : ∀ H1, EvD K tc σ H1 (.list (dataO o)))
    (hL : ∀ H1, ExtN H H1 → Ends4 d spL [v1, v2, v3] rs rT rL dT dL H1 (OnlyO o H1)) (k : ∀ H1, ExtN H H1 → Tabs T H1 → tz D σ H1) (hmk : ∀ c', (mk c').c = c' := by intro _; rfl) :
    tSeq (tIfS (tTest (tOp (rNeD K) (tCall (spRefG d mk b spL rs rT rL dT dL) [] E0 (tCons (tLamV T mk b) ta)) tc)) tu tNext) tz D σ H :=
  s_refG (D := { D with nx := tz D }) o oo hT ha hc hL k hmk
end
end Kw
set_option Elab.async false
set_option linter.all false
set_option maxRecDepth 100000
set_option maxHeartbeats 4000000
namespace KwX
open PySem PySem.Spec PyProof.Rows L2
/-- an own error made of any value, where nothing is handled -/
theorem mk_own1 {X : Cx} {D : Addr} {ms : List Value} {Bs nw it : String} {nm : Str} {e0 : Expr} {te : TE} {pA pB : Pos} (FB : ExcBaseFacts Bs nw it ms) (qd : PySem.W.excIn X.K D ms nw = true) (gd : X.mg nm = some (.ref D)) (kd : PySem.W.keepIn X.K (.ref D) = true) (rd : Raises X (.ref D)) (gl : Gl X nm) (pe : PE X e0 te)
    (st1 : starEach [e0] X.env = (false, eval e0 X.env) :: starEach [] X.env := by rfl) (ndb : (nm == ("__debug__" : Str)) = false := by decide) :
    L2N.PMk X (.Call (.Name nm pA) [e0] [] pB) (fun τ G Q => te τ G fun _ G1 => Q (.ref D) none G1) := by
  intro pins s0 τ G Q J want
  refine wpAny_Call_Name_kw (ld_glob J gl gd ?_ ndb)
  refine PySem.W.callWith_K (h₀ := X.base) J.ok.mod.kin kd ?_ st1 (by rfl)
  rw [st1]
  show wpAny _ _ (spliced ((false, eval e0 X.env) :: backTo pB (starEach [] X.env))) _ _ s0
  refine Calls.spliced_cons (thn (pe.run pins s0 τ G _ J want) fun u s1 ⟨v, G1, J1, r1, w1⟩ => ?_)
  refine Calls.spliced_nil ⟨J1.kIn, ?_⟩
  show wpAny _ _ (call (.ref D) [u]) _ _ _
  obtain ⟨y1, y2, y3, y4, y5, y6, y7, y8, y9, y10, y11, y12, y13, y14, y15, y16, y17, hC, hN, hni, T⟩ := exc_obj J1.kIn qd
  refine wpAny_call_exc_subT FB T hC hN hni (fun h1 e1 hm1 => ?_) (by show 1 ≤ sizeLine; decide)
  exact L2N.mk_of J1 hm1 rd w1 (J1.hok.gone hm1.new)
/-- several readings of one expression: any of them -/
theorem pe_any {ι : Type} {X : Cx} {e : Expr} {t : ι → TE} (h : ∀ i, PE X e (t i)) : PE X e (fun σ H Q => ∃ i, t i σ H Q) := ⟨fun pins s σ H Q I ⟨i, w⟩ => (h i).run pins s σ H Q I w⟩
/-- what never raises may stand where errors pass -/
theorem fn_up {P : Program} {w : World} {K : PySem.W.Frag} {mg : Str → Option Value} {base : Heap} {CX : CXT} {k : Nat} {f : Addr} {fd : FuncData} {ps : List Str} {sp : Sp} (F : FnOk P w K mg base CX0 k f fd ps sp) : FnOk P w K mg base CX k f fd ps sp :=
  ⟨F.len, fun A outer s H args us vs Q E hr e0 hb hv h => codeAny_mono (F.run A outer s H args us vs Q E hr e0 hb hv h) fun r s' got => by
    cases r with
    | error e => exact got.elim
    | ok fl => cases fl <;> exact got⟩
end KwX
namespace Kw
open PySem PySem.Spec PyProof.Rows L2 Evl KwX NdefX LamX
section
variable {P : Program} {w : World} {K : PySem.W.Frag} {mg : Str → Option Value} {base : Heap}
/-- lambda a, b, c: a(b) and a(b, c), a one of several defs -/
def spDoor1 {ι : Type} (fs : ι → Addr) (sps : ι → Sp) : Sp := fun vs H Q E => ∃ (i : ι) (y z : V), vs = [.ref (fs i), y, z] ∧ sps i [y] H Q E
def spDoor2 {ι : Type} (fs : ι → Addr) (sps : ι → Sp) : Sp := fun vs H Q E => ∃ (i : ι) (y z : V), vs = [.ref (fs i), y, z] ∧ sps i [y, z] H Q E
theorem lok_d1 {ι : Type} {fs : ι → Addr} {fds : ι → FuncData} {pss : ι → List Str} {sps : ι → Sp} {k : Nat} {F : NF} {pp p1 pos : Pos} (S : NScope ["a", "b", "c"] ["a", "b", "c"] [] F.scope) (cl0 : F.cl = [])
    (hb : ∀ (pm ctv : Value) (us : List Value), us.length = 3 → bindArgs (PySem.W.kla_fn F.name F.qual F.params (.Call (.Name "a" pp) [.Name "b" p1] [] pos) F.scope F.cl pm (.ref F.c) ctv) ⟨us, []⟩ = pure ((["a", "b", "c"] : List Str).zip us))
    (hk : ∀ i, PySem.W.keepIn K (.ref (fs i)) = true) (bn : ∀ i, Binds K (fds i) (pss i) []) (GL : ∀ i, FnOk P w K mg base (L2N.CX P w) k (fs i) (fds i) (pss i) (sps i)) :
    LOk P w K mg base (L2N.CX P w) (k + 1) F (.Call (.Name "a" pp) [.Name "b" p1] [] pos) ["a", "b", "c"] (spDoor1 fs sps) := by
  refine lok_of S cl0 hb (fun vs H Q E h => ?_) (fun g A outer s H vs Q E hr h => ?_)
  · obtain ⟨i, x, z, rfl, _⟩ := h
    rfl
  · obtain ⟨i, y, z, rfl, h⟩ := h
    refine ⟨_, pe_any fun i => pe_callL (E := E) (i := 0) (GL i) hr rfl (.inl (S.par "a" (by decide +kernel))) (hk i) (bn i) .nil (L2N.passes_call (L2N.takes_of rfl rfl rfl rfl) fun _ _ _ _ h => h) (pa_cons (pe_var (i := 1) rfl (.inl (S.par "b" (by decide +kernel)))) pa_nil), ?_⟩
    exact ⟨i, rfl, y, rfl, h⟩
theorem lok_d2 {ι : Type} {fs : ι → Addr} {fds : ι → FuncData} {pss : ι → List Str} {sps : ι → Sp} {k : Nat} {F : NF} {pp p1 p2 pos : Pos} (S : NScope ["a", "b", "c"] ["a", "b", "c"] [] F.scope) (cl0 : F.cl = [])
    (hb : ∀ (pm ctv : Value) (us : List Value), us.length = 3 → bindArgs (PySem.W.kla_fn F.name F.qual F.params (.Call (.Name "a" pp) [.Name "b" p1, .Name "c" p2] [] pos) F.scope F.cl pm (.ref F.c) ctv) ⟨us, []⟩ = pure ((["a", "b", "c"] : List Str).zip us))
    (hk : ∀ i, PySem.W.keepIn K (.ref (fs i)) = true) (bn : ∀ i, Binds K (fds i) (pss i) []) (GL : ∀ i, FnOk P w K mg base (L2N.CX P w) k (fs i) (fds i) (pss i) (sps i)) :
    LOk P w K mg base (L2N.CX P w) (k + 1) F (.Call (.Name "a" pp) [.Name "b" p1, .Name "c" p2] [] pos) ["a", "b", "c"] (spDoor2 fs sps) := by
  refine lok_of S cl0 hb (fun vs H Q E h => ?_) (fun g A outer s H vs Q E hr h => ?_)
  · obtain ⟨i, x, z, rfl, _⟩ := h
    rfl
  · obtain ⟨i, y, z, rfl, h⟩ := h
    refine ⟨_, pe_any fun i => pe_callL (E := E) (i := 0) (GL i) hr rfl (.inl (S.par "a" (by decide +kernel))) (hk i) (bn i) .nil (L2N.passes_call (L2N.takes_of rfl rfl rfl rfl) fun _ _ _ _ h => h) (pa_cons (pe_var (i := 1) rfl (.inl (S.par "b" (by decide +kernel)))) (pa_cons (pe_var (i := 2) rfl (.inl (S.par "c" (by decide +kernel)))) pa_nil)), ?_⟩
    exact ⟨i, rfl, y, rfl, z, rfl, h⟩
def pick4 {α : Type} (a b c d : α) : Fin 4 → α
  | 0 => a
  | 1 => b
  | 2 => c
  | 3 => d
def pick3 {α : Type} (a b c : α) : Fin 3 → α
  | 0 => a
  | 1 => b
  | 2 => c
def spMk1 (C : Addr) (sp : Sp) : Sp := fun vs H Q E => ∃ v y z, vs = [v, y, z] ∧ ∀ o dx, H o = none → H dx = none → dx ≠ o → sp [.ref o, v] (upd (upd H dx (.own o)) o (.ins C dx [])) (fun v H2 => v = .non ∧ Q (.ref o) H2) E
/-- lambda a, b, c: C(a) -/
theorem lok_mk {C fI : Addr} {fd : FuncData} {ps : List Str} {sp : Sp} {k : Nat} {F : NF} {x : Str} {pp p1 pos : Pos} (S : NScope ["a", "b", "c"] ["a", "b", "c"] [] F.scope) (cl0 : F.cl = []) (gl : F.scope.names.lookup x = some NameKind.globalImplicit)
    (hb : ∀ (pm ctv : Value) (us : List Value), us.length = 3 → bindArgs (PySem.W.kla_fn F.name F.qual F.params (.Call (.Name x pp) [.Name "a" p1] [] pos) F.scope F.cl pm (.ref F.c) ctv) ⟨us, []⟩ = pure ((["a", "b", "c"] : List Str).zip us))
    (M : Mk K C fI) (hm : mg x = some (.ref C)) (bn : Binds K fd ps []) (GL : FnOk P w K mg base (L2N.CX P w) k fI fd ps sp) (hx : (x == ("__debug__" : Str)) = false := by decide) :
    LOk P w K mg base (L2N.CX P w) (k + 2) F (.Call (.Name x pp) [.Name "a" p1] [] pos) ["a", "b", "c"] (spMk1 C sp) := by
  refine lok_of S cl0 hb (fun vs H Q E h => ?_) (fun g A outer s H vs Q E hr h => ?_)
  · obtain ⟨v, y, z, rfl, _⟩ := h
    rfl
  · obtain ⟨v, y, z, rfl, h⟩ := h
    refine ⟨_, pe_make (E := E) M GL hr gl hm bn .nil (L2N.passes_call (L2N.takes_of rfl rfl rfl rfl) fun _ _ _ _ h => h) (pa_cons (pe_var (i := 0) rfl (.inl (S.par "a" (by decide +kernel)))) pa_nil) hx, ?_⟩
    exact ⟨v, rfl, fun o dx n1 n2 ne => h o dx n1 n2 ne⟩
theorem lok_d4 {f1 f2 f3 f4 : Addr} {d1 d2 d3 d4 : FuncData} {q1 q2 q3 q4 : List Str} {sps : Fin 4 → Sp} {k : Nat} {F : NF} {pp p1 pos : Pos} (S : NScope ["a", "b", "c"] ["a", "b", "c"] [] F.scope) (cl0 : F.cl = [])
    (hb : ∀ (pm ctv : Value) (us : List Value), us.length = 3 → bindArgs (PySem.W.kla_fn F.name F.qual F.params (.Call (.Name "a" pp) [.Name "b" p1] [] pos) F.scope F.cl pm (.ref F.c) ctv) ⟨us, []⟩ = pure ((["a", "b", "c"] : List Str).zip us))
    (k1 : PySem.W.keepIn K (.ref f1) = true) (k2 : PySem.W.keepIn K (.ref f2) = true) (k3 : PySem.W.keepIn K (.ref f3) = true) (k4 : PySem.W.keepIn K (.ref f4) = true) (b1 : Binds K d1 q1 []) (b2 : Binds K d2 q2 []) (b3 : Binds K d3 q3 []) (b4 : Binds K d4 q4 [])
    (g1 : FnOk P w K mg base (L2N.CX P w) k f1 d1 q1 (sps 0)) (g2 : FnOk P w K mg base (L2N.CX P w) k f2 d2 q2 (sps 1)) (g3 : FnOk P w K mg base (L2N.CX P w) k f3 d3 q3 (sps 2)) (g4 : FnOk P w K mg base (L2N.CX P w) k f4 d4 q4 (sps 3)) :
    LOk P w K mg base (L2N.CX P w) (k + 1) F (.Call (.Name "a" pp) [.Name "b" p1] [] pos) ["a", "b", "c"] (spDoor1 (pick4 f1 f2 f3 f4) sps) :=
  lok_d1 (fds := pick4 d1 d2 d3 d4) (pss := pick4 q1 q2 q3 q4) S cl0 hb (fun i => match i with | 0 => k1 | 1 => k2 | 2 => k3 | 3 => k4) (fun i => match i with | 0 => b1 | 1 => b2 | 2 => b3 | 3 => b4) (fun i => match i with | 0 => g1 | 1 => g2 | 2 => g3 | 3 => g4)
theorem lok_d3 {f1 f2 f3 : Addr} {d1 d2 d3 : FuncData} {q1 q2 q3 : List Str} {sps : Fin 3 → Sp} {k : Nat} {F : NF} {pp p1 p2 pos : Pos} (S : NScope ["a", "b", "c"] ["a", "b", "c"] [] F.scope) (cl0 : F.cl = [])
    (hb : ∀ (pm ctv : Value) (us : List Value), us.length = 3 → bindArgs (PySem.W.kla_fn F.name F.qual F.params (.Call (.Name "a" pp) [.Name "b" p1, .Name "c" p2] [] pos) F.scope F.cl pm (.ref F.c) ctv) ⟨us, []⟩ = pure ((["a", "b", "c"] : List Str).zip us))
    (k1 : PySem.W.keepIn K (.ref f1) = true) (k2 : PySem.W.keepIn K (.ref f2) = true) (k3 : PySem.W.keepIn K (.ref f3) = true) (b1 : Binds K d1 q1 []) (b2 : Binds K d2 q2 []) (b3 : Binds K d3 q3 [])
    (g1 : FnOk P w K mg base (L2N.CX P w) k f1 d1 q1 (sps 0)) (g2 : FnOk P w K mg base (L2N.CX P w) k f2 d2 q2 (sps 1)) (g3 : FnOk P w K mg base (L2N.CX P w) k f3 d3 q3 (sps 2)) :
    LOk P w K mg base (L2N.CX P w) (k + 1) F (.Call (.Name "a" pp) [.Name "b" p1, .Name "c" p2] [] pos) ["a", "b", "c"] (spDoor2 (pick3 f1 f2 f3) sps) :=
  lok_d2 (fds := pick3 d1 d2 d3) (pss := pick3 q1 q2 q3) S cl0 hb (fun i => match i with | 0 => k1 | 1 => k2 | 2 => k3) (fun i => match i with | 0 => b1 | 1 => b2 | 2 => b3) (fun i => match i with | 0 => g1 | 1 => g2 | 2 => g3)
end
end Kw
set_option Elab.async false
set_option linter.all false
set_option maxRecDepth 100000
set_option maxHeartbeats 1000000
set_option pp.maxSteps 400
namespace Kw
open PySem PySem.Spec PyProof.Rows L2 Evl KwX NdefX LamX
section
variable {P : Program} {w : World} {K : PySem.W.Frag} {mg : Str → Option Value} {base : Heap}
def numD (a b : Int) : PyData → Bool
  | .int i => decide (a ≤ i) && decide (i ≤ b)
  | _ => false
def spCkNY (K : PySem.W.Frag) (C : Addr) : Sp := fun vs H _ E => ∃ (v : V) (d : PyData) (lo n : Nat), vs = [v, vN lo, vN n] ∧ lo ≤ 1 ∧ n ≤ 40 ∧ Dp K H v d ∧ numD lo n d = false ∧ ∀ H', Ex H H' → E (.ref C) none H'
theorem ok_cknY {f fWho : Addr} {fd fdWho : FuncData} {k : Nat} (F : Fun K "check_number" "check_number" sCkN f fd) (DWho : Df K mg "is_whole" sWho ["thing"] fWho fdWho) (GWho : FnOk P w K mg base CX0 (k + 1) fWho fdWho ["thing"] (spWho K)) {C : Addr} (T : ExcT K mg "NoNumber" C) : FnOk P w K mg base (L2N.CX P w) (k + 2) f fd ["thing", "least", "most"] (spCkNY K C) := by
  refine okN F scCkN (fun vs H Q E h => ?_) (fun cdv A outer s H vs Q E hr h => ?_)
  · obtain ⟨v, d, lo, n, rfl, _⟩ := h
    rfl
  obtain ⟨v, d, lo, n, rfl, hlo, hn, hd, hl, q⟩ := h
  refine ⟨_, (pss_one (ps_if (PW.pt (pw_or (pt_not (pt_val (pcall DWho GWho (hr.mono (by omega)) (pa_cons (pv 0) pa_nil)))) (pw_or1 (pt_not (pt_chain op_le op_le (pv 1) (pv 0) (pv 2)))))) (pss_one (L2N.ps_raise rfl (L2N.takes_of rfl rfl rfl rfl) (KwX.mk_own1 PySem.F.excBase_ValueError T.q T.g T.k (raises_own T.b T.t) (by exact rfl) (pe_joined (.cons pe_str (.cons (pe_fmt (pv 1)) (.cons pe_str (.cons (pe_fmt (pv 2)) .nil)))))))) pss_nil)), ?_⟩
  have hw : Ev (tCall (spWho K) [] E0 (tCons (tVar 0) tNil)) [some v, some (vN lo), some (vN n)] H (.bl (isIntD d)) := ev_call (ea_cons (ev_var (v := v) rfl) ea_nil) (SpV.of fun H1 e1 Q q E => who_dp (dp_ex e1 _ _ hd) q)
  have ht0 : EvT (tOr (tNot (tB (tCall (spWho K) [] E0 (tCons (tVar 0) tNil)))) (tNot (tTest (tChain (rI0 fun i j => .bl (decide (i ≤ j))) (rI0 fun i j => .bl (decide (i ≤ j))) (tVar 1) (tVar 0) (tVar 2))))) [some v, some (vN lo), some (vN n)] H true := by
    refine et_is (et_or (b := true) (et_not (et_B hw)) fun hz => ?_) (by cases isIntD d <;> rfl)
    cases d with
    | int i =>
      cases hd
      exact et_is (et_not (et_test (ev_chain (ev_var (v := vN lo) rfl) (ev_var (v := .int i) rfl) (ev_var (v := vN n) rfl) rv_le rv_le))) (by
        have : (decide ((lo : Int) ≤ i) && decide (i ≤ (n : Int))) = false := hl
        rw [this]
        rfl)
    | none => cases hz
    | bool b => cases hz
    | str z => cases hz
    | list ds => cases hz
    | tuple ds => cases hz
    | dict ds => cases hd
  have hc : lo = 0 ∨ lo = 1 := by omega
  rcases hc with rfl | rfl
  · refine s_when (b := true) ht0 (fun _ H2 e2 => ?_) (fun hb => absurd hb (by decide))
    refine ⟨_, rfl, sz_of (by decide +kernel), vN 0, rfl, .inr ⟨0, rfl, by decide +kernel, _, rfl, sz_of (by decide +kernel), _, rfl, sz_of (by decide +kernel), vN n, rfl, .inr ⟨(n : Int), rfl, ?_, _, rfl, ?_, ?_⟩⟩⟩
    · have key : ∀ m : Nat, m < 41 → ((m : Int)).natAbs.log2 < 1920 := by decide +kernel
      exact key n (by omega)
    · refine sz_of ?_
      have key : ∀ m : Nat, m < 41 → (Str.empty ++ ("this is no whole number from " : Str) ++ (toString (0 : Int) : Str) ++ (" to " : Str) ++ (toString (m : Int) : Str)).length ≤ 100000 := by decide +kernel
      exact key n (by omega)
    · exact q H2 e2
  · refine s_when (b := true) ht0 (fun _ H2 e2 => ?_) (fun hb => absurd hb (by decide))
    refine ⟨_, rfl, sz_of (by decide +kernel), vN 1, rfl, .inr ⟨1, rfl, by decide +kernel, _, rfl, sz_of (by decide +kernel), _, rfl, sz_of (by decide +kernel), vN n, rfl, .inr ⟨(n : Int), rfl, ?_, _, rfl, ?_, ?_⟩⟩⟩
    · have key : ∀ m : Nat, m < 41 → ((m : Int)).natAbs.log2 < 1920 := by decide +kernel
      exact key n (by omega)
    · refine sz_of ?_
      have key : ∀ m : Nat, m < 41 → (Str.empty ++ ("this is no whole number from " : Str) ++ (toString (1 : Int) : Str) ++ (" to " : Str) ++ (toString (m : Int) : Str)).length ≤ 100000 := by decide +kernel
      exact key n (by omega)
    · exact q H2 e2
def spCkWX (K : PySem.W.Frag) (C : Addr) : Sp := fun vs H _ E => ∃ (v : V) (d : PyData), vs = [v] ∧ Dp K H v d ∧ isIntD d = false ∧ ∀ H', Ex H H' → E (.ref C) none H'
theorem ok_ckwX {f fWho : Addr} {fd fdWho : FuncData} {k : Nat} (F : Fun K "check_whole" "check_whole" sCkW f fd) (DWho : Df K mg "is_whole" sWho ["thing"] fWho fdWho) (GWho : FnOk P w K mg base CX0 (k + 1) fWho fdWho ["thing"] (spWho K)) {C : Addr} (T : ExcT K mg "NoNumber" C) : FnOk P w K mg base (L2N.CX P w) (k + 2) f fd ["thing"] (spCkWX K C) := by
  refine okN F scCkW (fun vs H Q E h => ?_) (fun cdv A outer s H vs Q E hr h => ?_)
  · obtain ⟨v, d, rfl, _⟩ := h
    rfl
  · obtain ⟨v, d, rfl, hd, hl, q⟩ := h
    refine ⟨_, (pss_one (ps_if (pt_not (pt_val (pcall DWho GWho (hr.mono (by omega)) (pa_cons (pv 0) pa_nil)))) (pss_one (L2N.ps_raise rfl (L2N.takes_of rfl rfl rfl rfl) (L2N.pmk_own PySem.F.excBase_ValueError T.q T.g T.k (raises_own T.b T.t) (by exact rfl)))) pss_nil)), ?_⟩
    exact s_when (b := true) (et_is (et_not (et_B (ev_call (z := .bl (isIntD d)) (ea_cons (ev_var (i := 0) (v := v) rfl) ea_nil) (SpV.of fun H1 e1 Q q E => who_dp (dp_ex e1 _ _ hd) q)))) (by rw [hl]; rfl)) (tu := fun _ _ H => E (.ref C) none H) (fun _ H2 e2 => q H2 e2) (fun hb => absurd hb (by decide))
/-- a number of boxes that is none -/
def spNBl (K : PySem.W.Frag) (C : Addr) (lo : Nat) : Sp := fun vs H _ E => ∃ (v y : V) (d : PyData), vs = [v, y] ∧ Dp K H v d ∧ numD lo 40 d = false ∧ ∀ H', Ex H H' → E (.ref C) none H'
/-- a number of rounds, of a size, that is none -/
def spNM (K : PySem.W.Frag) (C : Addr) : Sp := fun vs H _ E => ∃ (v : V) (d : PyData), vs = [.int 5, v] ∧ Dp K H v d ∧ isIntD d = false ∧ ∀ H', Ex H H' → E (.ref C) none H'
def spTogX (K : PySem.W.Frag) (C : Addr) : Sp := fun vs H _ E => ∃ (b : Nat) (v : V) (d : PyData), vs = [vN b, v] ∧ 1 ≤ b ∧ b ≤ 40 ∧ Dp K H v d ∧ numD 1 b d = false ∧ ∀ H', Ex H H' → E (.ref C) none H'
theorem ok_nbWR {f fCkN : Addr} {fd fdCkN : FuncData} {k : Nat} {C : Addr} (F : Fun K "with_rounds" "with_rounds" sWR f fd) (DCkN : Df K mg "check_number" sCkN ["thing", "least", "most"] fCkN fdCkN) (GXCkN : FnOk P w K mg base (L2N.CX P w) (k + 2) fCkN fdCkN ["thing", "least", "most"] (spCkNY K C)) {t40 : Tok} (m_MOST_COUNTED : mg "MOST_COUNTED" = some (.int 40 t40)) : FnOk P w K mg base (L2N.CX P w) (k + 3) f fd ["boxes", "many"] (spNBl K C 0) := by
  refine okN F scWR (fun vs H Q E h => ?_) (fun cdv A outer s H vs Q E hr h => ?_)
  · obtain ⟨v, y, d, rfl, _⟩ := h
    rfl
  · obtain ⟨v, y, d, rfl, hd, hl, q⟩ := h
    refine ⟨_, (pss_cons (ps_expr (pe_callS GXCkN (hr.mono (by omega)) (by rfl) DCkN.g DCkN.F.kp DCkN.b (fun σ => L2N.passAt (L2N.takes_of rfl rfl rfl rfl) σ) (pa_cons (pv 0) (pa_cons pe_int (pa_cons (pe_glob (v := .int 40) (by rfl) m_MOST_COUNTED ⟨_, rfl⟩) pa_nil))))) pss_never), ?_⟩
    exact ⟨v, rfl, v, d, 0, 40, rfl, by decide, by decide, hd, hl, q⟩
theorem ok_nbWS {f fCkN : Addr} {fd fdCkN : FuncData} {k : Nat} {C : Addr} (F : Fun K "with_size" "with_size" sWS f fd) (DCkN : Df K mg "check_number" sCkN ["thing", "least", "most"] fCkN fdCkN) (GXCkN : FnOk P w K mg base (L2N.CX P w) (k + 2) fCkN fdCkN ["thing", "least", "most"] (spCkNY K C)) {t40 : Tok} (m_MOST_COUNTED : mg "MOST_COUNTED" = some (.int 40 t40)) : FnOk P w K mg base (L2N.CX P w) (k + 3) f fd ["boxes", "many"] (spNBl K C 1) := by
  refine okN F scWS (fun vs H Q E h => ?_) (fun cdv A outer s H vs Q E hr h => ?_)
  · obtain ⟨v, y, d, rfl, _⟩ := h
    rfl
  · obtain ⟨v, y, d, rfl, hd, hl, q⟩ := h
    refine ⟨_, (pss_cons (ps_expr (pe_callS GXCkN (hr.mono (by omega)) (by rfl) DCkN.g DCkN.F.kp DCkN.b (fun σ => L2N.passAt (L2N.takes_of rfl rfl rfl rfl) σ) (pa_cons (pv 0) (pa_cons pe_int (pa_cons (pe_glob (v := .int 40) (by rfl) m_MOST_COUNTED ⟨_, rfl⟩) pa_nil))))) pss_never), ?_⟩
    exact ⟨v, rfl, v, d, 1, 40, rfl, by decide, by decide, hd, hl, q⟩
theorem ok_nbTog {f fCkN : Addr} {fd fdCkN : FuncData} {k : Nat} {C : Addr} (F : Fun K "together" "together" sTog f fd) (DCkN : Df K mg "check_number" sCkN ["thing", "least", "most"] fCkN fdCkN) (GXCkN : FnOk P w K mg base (L2N.CX P w) (k + 2) fCkN fdCkN ["thing", "least", "most"] (spCkNY K C)) {t40 : Tok} (m_MOST_COUNTED : mg "MOST_COUNTED" = some (.int 40 t40)) : FnOk P w K mg base (L2N.CX P w) (k + 3) f fd ["boxes", "many"] (spNBl K C 1) := by
  refine okN F scTog (fun vs H Q E h => ?_) (fun cdv A outer s H vs Q E hr h => ?_)
  · obtain ⟨v, y, d, rfl, _⟩ := h
    rfl
  · obtain ⟨v, y, d, rfl, hd, hl, q⟩ := h
    refine ⟨_, (pss_cons (ps_expr (pe_callS GXCkN (hr.mono (by omega)) (by rfl) DCkN.g DCkN.F.kp DCkN.b (fun σ => L2N.passAt (L2N.takes_of rfl rfl rfl rfl) σ) (pa_cons (pv 0) (pa_cons pe_int (pa_cons (pe_glob (v := .int 40) (by rfl) m_MOST_COUNTED ⟨_, rfl⟩) pa_nil))))) pss_never), ?_⟩
    exact ⟨v, rfl, v, d, 1, 40, rfl, by decide, by decide, hd, hl, q⟩
theorem ok_nmWR {f fCkN fCkW : Addr} {fd fdCkN fdCkW : FuncData} {k : Nat} {C : Addr} (F : Fun K "with_rounds" "with_rounds" sWR f fd) (DCkN : Df K mg "check_number" sCkN ["thing", "least", "most"] fCkN fdCkN) (DCkW : Df K mg "check_whole" sCkW ["thing"] fCkW fdCkW) (GCkN : FnOk P w K mg base CX0 (k + 2) fCkN fdCkN ["thing", "least", "most"] (spCkN K)) (GXCkW : FnOk P w K mg base (L2N.CX P w) (k + 2) fCkW fdCkW ["thing"] (spCkWX K C)) {t40 : Tok} (m_MOST_COUNTED : mg "MOST_COUNTED" = some (.int 40 t40)) : FnOk P w K mg base (L2N.CX P w) (k + 3) f fd ["boxes", "many"] (spNM K C) := by
  refine okN F scWR (fun vs H Q E h => ?_) (fun cdv A outer s H vs Q E hr h => ?_)
  · obtain ⟨v, d, rfl, _⟩ := h
    rfl
  · obtain ⟨v, d, rfl, hd, hl, q⟩ := h
    refine ⟨_, (pss_cons (ps_expr (pcall DCkN GCkN (hr.mono (by omega)) (pa_cons (pv 0) (pa_cons pe_int (pa_cons (pe_glob (v := .int 40) (by rfl) m_MOST_COUNTED ⟨_, rfl⟩) pa_nil)))))
      (pss_cons (ps_expr (pe_callS GXCkW (hr.mono (by omega)) (by rfl) DCkW.g DCkW.F.kp DCkW.b (fun σ => L2N.passAt (L2N.takes_of rfl rfl rfl rfl) σ) (pa_cons (pv 1) pa_nil))) pss_never)), ?_⟩
    refine q_drop (σ := [some (.int 5), some v]) (ev_call (z := .non) (vs := [.int 5, .int 0, .int 40]) (ea_cons (ev_var (i := 0) rfl) (ea_cons ev_c (ea_cons ev_c ea_nil))) (SpV.of fun H2 e2 Q q E => ⟨5, 0, 40, rfl, by decide, by decide, q⟩)) fun Ha ea => ?_
    exact ⟨v, rfl, v, d, rfl, dp_ex ea _ _ hd, hl, fun H' e => q H' (ea.trans e)⟩
theorem ok_nmWS {f fCkN fCkW : Addr} {fd fdCkN fdCkW : FuncData} {k : Nat} {C : Addr} (F : Fun K "with_size" "with_size" sWS f fd) (DCkN : Df K mg "check_number" sCkN ["thing", "least", "most"] fCkN fdCkN) (DCkW : Df K mg "check_whole" sCkW ["thing"] fCkW fdCkW) (GCkN : FnOk P w K mg base CX0 (k + 2) fCkN fdCkN ["thing", "least", "most"] (spCkN K)) (GXCkW : FnOk P w K mg base (L2N.CX P w) (k + 2) fCkW fdCkW ["thing"] (spCkWX K C)) {t40 : Tok} (m_MOST_COUNTED : mg "MOST_COUNTED" = some (.int 40 t40)) : FnOk P w K mg base (L2N.CX P w) (k + 3) f fd ["boxes", "many"] (spNM K C) := by
  refine okN F scWS (fun vs H Q E h => ?_) (fun cdv A outer s H vs Q E hr h => ?_)
  · obtain ⟨v, d, rfl, _⟩ := h
    rfl
  · obtain ⟨v, d, rfl, hd, hl, q⟩ := h
    refine ⟨_, (pss_cons (ps_expr (pcall DCkN GCkN (hr.mono (by omega)) (pa_cons (pv 0) (pa_cons pe_int (pa_cons (pe_glob (v := .int 40) (by rfl) m_MOST_COUNTED ⟨_, rfl⟩) pa_nil)))))
      (pss_cons (ps_expr (pe_callS GXCkW (hr.mono (by omega)) (by rfl) DCkW.g DCkW.F.kp DCkW.b (fun σ => L2N.passAt (L2N.takes_of rfl rfl rfl rfl) σ) (pa_cons (pv 1) pa_nil))) pss_never)), ?_⟩
    refine q_drop (σ := [some (.int 5), some v]) (ev_call (z := .non) (vs := [.int 5, .int 1, .int 40]) (ea_cons (ev_var (i := 0) rfl) (ea_cons ev_c (ea_cons ev_c ea_nil))) (SpV.of fun H2 e2 Q q E => ⟨5, 1, 40, rfl, by decide, by decide, q⟩)) fun Ha ea => ?_
    exact ⟨v, rfl, v, d, rfl, dp_ex ea _ _ hd, hl, fun H' e => q H' (ea.trans e)⟩
theorem ok_togX {f fCkN : Addr} {fd fdCkN : FuncData} {k : Nat} {C : Addr} (F : Fun K "together" "together" sTog f fd) (DCkN : Df K mg "check_number" sCkN ["thing", "least", "most"] fCkN fdCkN) (GCkN : FnOk P w K mg base CX0 (k + 2) fCkN fdCkN ["thing", "least", "most"] (spCkN K)) (GXCkN : FnOk P w K mg base (L2N.CX P w) (k + 2) fCkN fdCkN ["thing", "least", "most"] (spCkNY K C)) {t40 : Tok} (m_MOST_COUNTED : mg "MOST_COUNTED" = some (.int 40 t40)) : FnOk P w K mg base (L2N.CX P w) (k + 3) f fd ["boxes", "many"] (spTogX K C) := by
  refine okN F scTog (fun vs H Q E h => ?_) (fun cdv A outer s H vs Q E hr h => ?_)
  · obtain ⟨b, v, d, rfl, _⟩ := h
    rfl
  · obtain ⟨b, v, d, rfl, b1, b40, hd, hl, q⟩ := h
    refine ⟨_, (pss_cons (ps_expr (pcall DCkN GCkN (hr.mono (by omega)) (pa_cons (pv 0) (pa_cons pe_int (pa_cons (pe_glob (v := .int 40) (by rfl) m_MOST_COUNTED ⟨_, rfl⟩) pa_nil)))))
      (pss_cons (ps_expr (pe_callS GXCkN (hr.mono (by omega)) (by rfl) DCkN.g DCkN.F.kp DCkN.b (fun σ => L2N.passAt (L2N.takes_of rfl rfl rfl rfl) σ) (pa_cons (pv 1) (pa_cons pe_int (pa_cons (pv 0) pa_nil))))) pss_never)), ?_⟩
    refine q_drop (σ := [some (vN b), some v]) (ev_call (z := .non) (vs := [vN b, .int 1, .int 40]) (ea_cons (ev_var (i := 0) rfl) (ea_cons ev_c (ea_cons ev_c ea_nil))) (SpV.of fun H2 e2 Q q E => ⟨b, 1, 40, rfl, by omega, by omega, q⟩)) fun Ha ea => ?_
    exact ⟨v, rfl, vN b, rfl, v, d, 1, b, rfl, by decide, b40, dp_ex ea _ _ hd, hl, fun H' e => q H' (ea.trans e)⟩
end
end Kw
set_option Elab.async false
set_option linter.all false
set_option maxRecDepth 100000
set_option maxHeartbeats 4000000
namespace KwS
open PySem PySem.Spec PyProof.Rows L2
/-! ### sets of keys of any kind, by the list of what was put in -/
theorem prd_perm {α β : Type} {F : α → β → Prop} {es es' : List α} (p : es'.Perm es) : ∀ {js : List β}, Paired F es js → ∃ js' : List β, js'.Perm js ∧ Paired F es' js' := by
  induction p with
  | nil => exact fun h => ⟨_, List.Perm.refl _, h⟩
  | cons x _ ih =>
    intro js h
    cases h with
    | cons r t =>
      obtain ⟨j, h1, h2⟩ := ih t
      exact ⟨_ :: j, h1.cons _, .cons r h2⟩
  | swap x y l =>
    intro js h
    cases h with
    | cons r t =>
      cases t with
      | cons r2 t2 => exact ⟨_, List.Perm.swap _ _ _, .cons r2 (.cons r t2)⟩
  | trans _ _ ih1 ih2 =>
    intro js h
    obtain ⟨j1, a1, b1⟩ := ih2 h
    obtain ⟨j2, a2, b2⟩ := ih1 b1
    exact ⟨j2, a2.trans a1, b2⟩
theorem prd_mem {α β : Type} {F : α → β → Prop} {x : α} : ∀ {es : List α} {js : List β}, Paired F es js → x ∈ es → ∃ j ∈ js, F x j
  | _, _, .cons r t, h => by
    rcases List.mem_cons.mp h with rfl | h
    · exact ⟨_, List.mem_cons_self, r⟩
    · obtain ⟨j, h1, h2⟩ := prd_mem t h
      exact ⟨j, List.mem_cons_of_mem _ h1, h2⟩
theorem prd_mem2 {α β : Type} {F : α → β → Prop} {j : β} : ∀ {es : List α} {js : List β}, Paired F es js → j ∈ js → ∃ x ∈ es, F x j
  | _, _, .cons r t, h => by
    rcases List.mem_cons.mp h with rfl | h
    · exact ⟨_, List.mem_cons_self, r⟩
    · obtain ⟨x, h1, h2⟩ := prd_mem2 t h
      exact ⟨x, List.mem_cons_of_mem _ h1, h2⟩
section
variable {P : Program} {w : World} {κ : Type} [DecidableEq κ] (kd : PySem.KeyKind P w κ)
def Ent (e : Int × Value) (k : κ) : Prop := kd.is k e.2 = true ∧ e.1 = kd.hash k ∧ e.2.scannable = true
/-- the set at a: its keys are those of ks -/
def GS (h : Heap) (a : Addr) (ks : List κ) : Prop := ∃ (ob : Obj) (es : Array (Int × Value)) (ep : Nat) (tb : SetTable) (js : List κ), h.get? a = some ob ∧ ob.ExactSet ∧ ob.data = .set es ep tb ∧ Paired (Ent kd) es.toList js ∧ js.Nodup ∧ (∀ k, k ∈ js ↔ k ∈ ks) ∧
  es.size ≤ ks.length ∧ tb.fits es.size = true ∧ Ris tb.place.toList ∧ (w.params.followText "set-order" = true ∨ tb.led = true)
variable {kd}
theorem GS.at {h h' : Heap} {a : Addr} {ks : List κ} (g : GS kd h a ks) (k : ∀ o, h.get? a = some o → h'.get? a = some o) : GS kd h' a ks := by
  obtain ⟨ob, es, ep, tb, js, h1, r⟩ := g
  exact ⟨ob, es, ep, tb, js, k _ h1, r⟩
theorem elems {l : List (Int × Value)} {js : List κ} (p : Paired (Ent kd) l js) : ElemsOf kd l := fun e he => by
  obtain ⟨k, _, h1, h2, h3⟩ := prd_mem p he
  exact ⟨⟨k, h1, h2⟩, h3⟩
section
variable {A : Around} {E : Value → Shared → Prop} {s : Shared} {a : Addr} {ks : List κ}
theorem put_at {h : Heap} {ob : Obj} {es es2 : Array (Int × Value)} {ep : Nat} {tb tb2 : SetTable} (h1 : h.get? a = some ob) (h2 : ob.data = .set es ep tb) : (h.update a (Obj.putSet es2 tb2)).get? a = some { ob with data := .set es2 (ep + 1) tb2 } := by
  have z := putSet_of es2 tb2 h2
  have y := Heap.get?_update_self (Obj.putSet es2 tb2) h1 (by rw [z]; rfl)
  rwa [z] at y
theorem gs_tail {gw : Bool → Sem Unit} (hgw : ∀ (b : Bool) (s1 : Shared) (Q' : Unit → Shared → Prop), Q' () s1 → wpAny (model P w) A (gw b) Q' E s1) {ob : Obj} {es es1 : Array (Int × Value)} {ep : Nat} {tb t2 : SetTable} (h1 : s.heap.get? a = some ob) (hx : ob.ExactSet) (h2 : ob.data = .set es ep tb)
    {js : List κ} (hp : Paired (Ent kd) es1.toList js) (nd : js.Nodup) (hm : ∀ k, k ∈ js ↔ k ∈ ks) (hsz : es1.size ≤ ks.length) (hb : ks.length < scanBound) (hf : t2.fits es1.size = true) (hr : Ris t2.place.toList) (hl : w.params.followText "set-order" = true ∨ t2.led = true) {wd : Bool} {R : Option Bool → Shared → Prop}
    (hR : ∀ h', Heap.SameBut a s.heap h' → GS kd h' a ks → R (some true) { s with heap := h' }) :
    wpAny (model P w) A (do
        storeSet a es1 t2
        if (!wd && t2.tooFull) = true then do
            gw (relayAll t2 es1 (SetTable.grown es1.size)).2.2
            storeSet a (relayAll t2 es1 (SetTable.grown es1.size)).1 (relayAll t2 es1 (SetTable.grown es1.size)).2.1
            pure (some true)
          else pure (some true)) R E s := by
  refine wpAny_bind (wpAny_storeSet_of h1 h2 ?_ (fits_of_scanBound (Nat.lt_of_le_of_lt hsz hb)))
  have i1 := put_at (es2 := es1) (tb2 := t2) h1 h2
  have b1 := Heap.SameBut.update s.heap a (Obj.putSet es1 t2)
  split
  · have q1 := relayAll_perm t2 es1 (SetTable.grown es1.size)
    have q2 := relayAll_fits t2 es1 (SetTable.grown es1.size)
    have q3 := relayAll_ris t2 es1 (SetTable.grown es1.size)
    have q4 := relayAll_led t2 es1 (SetTable.grown es1.size)
    generalize relayAll t2 es1 (SetTable.grown es1.size) = Zs at q1 q2 q3 q4 ⊢
    obtain ⟨es3, t3, gv⟩ := Zs
    dsimp only at q1 q2 q3 q4 ⊢
    have e3 : es3.size = es1.size := by
      have := q1.length_eq
      simpa using this
    obtain ⟨js2, j1, j2⟩ := prd_perm q1 hp
    refine wpAny_bind (hgw _ _ _ (wpAny_bind (wpAny_storeSet_of i1 rfl ?_ (fits_of_scanBound (by rw [e3]; exact Nat.lt_of_le_of_lt hsz hb)))))
    have i2 := put_at (es2 := es3) (tb2 := t3) i1 rfl
    exact wpAny_pure (hR _ (b1.trans (Heap.SameBut.update _ a _)) ⟨_, es3, _, t3, js2, i2, hx, rfl, j2, j1.nodup_iff.mpr nd, fun k => j1.mem_iff.trans (hm k), by rw [e3]; exact hsz, q2, q3, hl.imp id fun z => by rw [q4]; exact z⟩)
  · exact wpAny_pure (hR _ b1 ⟨_, es1, _, t2, js, i1, hx, rfl, hp, nd, hm, hsz, hf, hr, hl⟩)
theorem gs_add {k : κ} {x : Value} (hk : kd.is k x = true) (hx : x.scannable = true) (g : GS kd s.heap a ks) (room : ks.length + 1 < scanBound) {Q : Bool → Shared → Prop}
    (hQ : ∀ b h', Heap.SameBut a s.heap h' → GS kd h' a (ks ++ [k]) → Q b { s with heap := h' }) : wpAny (model P w) A (setAddHashed a x (kd.hash k)) Q E s := by
  obtain ⟨ob, es, ep, tb, js, o1, o2, o3, hp, nd, hm, hsz, hf, hr, hl⟩ := g
  have hel := elems hp
  have hlen : es.size < scanBound := Nat.lt_of_le_of_lt hsz (Nat.lt_of_succ_lt room)
  unfold setAddHashed setAddHashedIn
  refine wpAny_holding (wpAny_bind (wpAny_setState_of o1 o3 hf ?_))
  dsimp only
  rw [byScan_of hx hlen hel]
  simp only [↓reduceIte]
  unfold setAddByScan
  refine wpAny_bind (wpAny_bind (wpAny_rule (wpAny_bind (wpAny_setScan_of hk o1 o3 hf hel ?_))))
  cases hfi : List.findIdx? (fun e => kd.is k e.2) es.toList with
  | some j =>
    dsimp only
    obtain ⟨hj, pj, _⟩ := List.findIdx?_eq_some_iff_getElem.mp hfi
    obtain ⟨k0, hk0, hi0, _⟩ := prd_mem hp (List.getElem_mem hj)
    have ek : k0 = k := kd.inj _ _ _ hi0 pj
    refine wpAny_pure (wpAny_pure (hQ false s.heap (Heap.SameBut.refl a s.heap) ⟨ob, es, ep, tb, js, o1, o2, o3, hp, nd, fun i => ?_, by rw [List.length_append]; omega, hf, hr, hl⟩))
    rw [hm i, List.mem_append, List.mem_singleton]
    exact ⟨Or.inl, fun z => z.elim id fun e => by rw [e, ← ek]; exact (hm k0).mp hk0⟩
  | none =>
    dsimp only
    have hnk : k ∉ js := fun z => by
      obtain ⟨e, he, q, _⟩ := prd_mem2 hp z
      have c := List.findIdx?_eq_none_iff.mp hfi e he
      rw [q] at c
      cases c
    have gw : ∀ (b : Bool) {s1 : Shared} {Q' : Unit → Shared → Prop}, Q' () s1 → wpAny (model P w) A (match b with | true => rule "set.scan.the-table-gave-way" | false => pure ()) Q' E s1 := fun b s1 Q' q => by
      cases b
      · exact wpAny_pure q
      · exact wpAny_rule q
    have q1 := layNew_perm tb es (kd.hash k) x
    have q2 := layNew_fits tb es (kd.hash k) x
    have q3 := layNew_ris tb es (kd.hash k) x hr
    have q4 := layNew_led tb es (kd.hash k) x
    generalize layNew tb es (kd.hash k) x = Zs at q1 q2 q3 q4 ⊢
    obtain ⟨es1, t1, wd, gv⟩ := Zs
    dsimp only at q1 q2 q3 q4 ⊢
    rw [Array.toList_push] at q1
    have q5 : es1.toList.Perm ((kd.hash k, x) :: es.toList) := q1.trans (List.perm_append_singleton _ _)
    obtain ⟨js1, j1, j2⟩ := prd_perm q5 (.cons ⟨hk, rfl, hx⟩ hp : Paired (Ent kd) ((kd.hash k, x) :: es.toList) (k :: js))
    have nd1 : js1.Nodup := j1.nodup_iff.mpr (List.nodup_cons.mpr ⟨hnk, nd⟩)
    have m1 : ∀ i, i ∈ js1 ↔ i ∈ ks ++ [k] := fun i => by
      rw [j1.mem_iff, List.mem_cons, hm i, List.mem_append, List.mem_singleton]
      exact Or.comm
    have sz1 : es1.size ≤ (ks ++ [k]).length := by
      have := q5.length_eq
      simp at this
      rw [List.length_append, List.length_singleton]
      omega
    have rm : (ks ++ [k]).length < scanBound := by
      rw [List.length_append, List.length_singleton]
      exact room
    have led1 : w.params.followText "set-order" = true ∨ t1.led = true := hl.imp id fun z => by rw [q4]; exact z
    refine wpAny_bind (gw _ ?_)
    split
    · refine wpAny_bind ?_
      rw [hashByValue_scannable 8 hx]
      refine wpAny_pure ?_
      refine gs_tail ?_ o1 o2 o3 j2 nd1 m1 sz1 rm ?_ ?_ ?_ ?_
      · intro b s1 Q' q
        exact gw b q
      · split
        · exact q2
        · exact SetTable.fits_plain_off q2
      · split <;> exact q3
      · split <;> exact led1
      · intro h' sb r
        exact wpAny_pure (hQ true h' sb r)
    · refine wpAny_bind (wpAny_pure ?_)
      simp only [↓reduceIte]
      refine gs_tail ?_ o1 o2 o3 j2 nd1 m1 sz1 rm q2 q3 led1 ?_
      · intro b s1 Q' q
        exact gw b q
      · intro h' sb r
        exact wpAny_pure (hQ true h' sb r)
end
end
end KwS
set_option Elab.async false
set_option linter.all false
set_option maxRecDepth 100000
set_option maxHeartbeats 4000000
namespace KwS
open PySem PySem.Spec PyProof.Rows L2
/-- a set just made -/
def fresh0 (w : World) : Obj := { cls := .type "set", dict := none, data := .set #[] 0 (.fresh 0 0 (!w.params.followText "set-order")) }
section
variable {P : Program} {w : World} {κ : Type} [DecidableEq κ] {kd : PySem.KeyKind P w κ} {A : Around} {E : Value → Shared → Prop} {s : Shared}
theorem gs_fresh {h : Heap} {a : Addr} (ho : h.get? a = some (fresh0 w)) : GS kd h a [] := by
  refine ⟨_, #[], 0, _, [], ho, ⟨rfl, rfl, rfl⟩, rfl, .nil, List.nodup_nil, fun _ => Iff.rfl, Nat.le_refl _, rfl, List.Pairwise.nil, ?_⟩
  show _ ∨ (!w.params.followText "set-order") = true
  cases w.params.followText "set-order" with
  | true => exact .inl rfl
  | false => exact .inr rfl
theorem gs_update {I : Addr} {fp wr : List Addr} {G : Array GenState → Array GenState → Prop} {n : Nat} {Pv : Nat → Value → Prop} {St : Nat → Shared → Prop} {R : Result → Shared → Prop} (W : WalksS P w A.in1 I fp wr G n Pv St) (S : Addr) (hS : S ∉ fp) (ks : List κ) (hn : n = ks.length)
    (hb : ks.length + 1 < scanBound) (hval : ∀ i v, Pv i v → ∃ k, ks[i]? = some k ∧ kd.is k v = true ∧ v.scannable = true) : ∀ (m i : Nat) (s : Shared), n - i = m → i ≤ n → St i s → GS kd s.heap S (ks.take i) →
      (∀ s', Moved (S :: wr) G s s' → GS kd s'.heap S ks → R (.ok (.ret .none)) s') → codeAny (model P w) A (.builtin "set.update.loop" ⟨[.ref S, .ref I], []⟩) R s := by
  have nw : S ∉ wr := fun z => hS (W.sub _ z)
  have up : ∀ b ∈ wr, b ∈ S :: wr := fun b z => List.mem_cons_of_mem _ z
  intro m
  induction m with
  | zero =>
    intro i s hm hi st g hR
    have e : i = n := Nat.le_antisymm hi (Nat.sub_eq_zero_iff_le.mp hm)
    subst e
    refine codeAny_builtin F.entry_set_update_loop ?_
    rw [Around.under_plainId F.plain_set_update_loop _]
    refine wpAny_bind (W.done s _ _ st fun s1 mv => wpAny_pure (hR s1 (mv.mono up) ?_))
    rw [List.take_of_length_le (by omega)] at g
    exact g.at fun o q => mv.heap S o nw q
  | succ m ih =>
    intro i s hm hi st g hR
    have lt : i < n := by omega
    refine codeAny_builtin F.entry_set_update_loop ?_
    rw [Around.under_plainId F.plain_set_update_loop _]
    refine wpAny_bind (W.item i s _ _ lt st fun v s1 hP st1 mv => ?_)
    obtain ⟨k, hk, his, hsc⟩ := hval i v hP
    have g1 : GS kd s1.heap S (ks.take i) := g.at fun o q => mv.heap S o nw q
    refine wpAny_bind (wpAny_holding ?_)
    unfold setAdd
    refine wpAny_holding (wpAny_bind (kd.pyHash his ?_))
    refine gs_add (s := { s1 with toks := s1.toks + 1 }) his hsc g1 (by rw [List.length_take]; omega) fun bb h2 sb g2 => ?_
    have g3 : GS kd h2 S (ks.take (i + 1)) := by
      rw [List.take_add_one, hk]
      exact g2
    refine wpAny_pure ⟨plainId_quiet F.plain_set_update_loop _, ih (i + 1) _ (by omega) lt (W.frame _ s1 _ _ st1 (Nat.le_succ _) fun b z o q => ?_) g3 fun s2 mv2 g4 => ?_⟩
    · have nb : b ≠ S := fun y => hS (y ▸ z)
      rw [sb.2 b nb]
      exact q
    · refine hR s2 (Moved.trans W.gtrans ((mv.mono up).then_heap (Nat.le_succ _) fun b o z q => ?_) mv2) g4
      have nb : b ≠ S := fun y => z (y ▸ List.mem_cons_self)
      rw [sb.2 b nb]
      exact q
theorem set_made (a : Value) {Q1 : Value → Shared → Prop} (h : Q1 (.ref s.heap.objs.size) { s with heap := s.heap.push (fresh0 w) }) : codeAny (model P w) A (.call (.builtin "set.__new__") ⟨[.type "set", a], []⟩) (wants Q1 E) s := code_set_led1 a h
set_option maxHeartbeats 8000000 in
/-- set(t), t a tuple -/
theorem call_setT {l : Addr} {its : Array Value} (ks : List κ) {Q : Value → Shared → Prop} (hh : A.handled = none) (hl : s.heap.IsTuple l its) (hz : its.size = ks.length) (hit : ∀ (i : Nat) (v : Value), its[i]? = some v → ∃ k, ks[i]? = some k ∧ kd.is k v = true ∧ v.scannable = true) (hb : ks.length + 1 < scanBound)
    (h : ∀ (h' : Heap) (tk : Nat), GS kd h' s.heap.objs.size ks → (∀ b o, s.heap.get? b = some o → h'.get? b = some o) → Q (.ref s.heap.objs.size) { s with heap := h', toks := tk }) : wpAny (model P w) A (call (.type "set") [.ref l]) Q E s := by
  obtain ⟨c0, tl0, m0⟩ := F.called_set.mro
  have m1 := F.called_set.made
  have m2 := F.called_set.sub
  have m3 := F.called_set.notType
  have m4 := F.called_set.canCreate
  have m5 := F.typeCall_set_1 (.ref l)
  refine wpAny_call (codeAny_of_tree ?_)
  refine wpAny_pure ⟨Code.quiet_builtin _ (by decide +kernel), codeAny_builtin F.entry_type_call ?_⟩
  rw [Around.under_plain (weight_type_call_type "set" [.ref l] []) rfl]
  repeat (any_goals (first | assumption | wp_step))
  refine codeAny_mono (set_made (.ref l) (E := E) (Q1 := fun v s1 => v = .ref s.heap.objs.size ∧ s1 = { s with heap := s.heap.push (fresh0 w) }) ⟨rfl, rfl⟩) fun r s1 hr => ?_
  cases r with
  | error e => exact hr
  | ok fl =>
    cases fl with
    | ret v =>
      obtain ⟨rfl, rfl⟩ := hr
      have hS : (s.heap.push (fresh0 w)).get? s.heap.objs.size = some (fresh0 w) := Heap.get?_push_size _ rfl
      have hT : Shared.TypeIs { s with heap := s.heap.push (fresh0 w) } (.ref s.heap.objs.size) "set" := ⟨_, hS, rfl⟩
      have n1 := F.called_set.init.lookup
      have n2 := F.called_set.init.bind (.ref s.heap.objs.size)
      repeat (any_goals (first | assumption | wp_step))
      refine codeAny_mono (codeAny_call_builtin (R := wants (fun r s2 => r = .none ∧ ∃ h' tk, s2 = { s with heap := h', toks := tk } ∧ GS kd h' s.heap.objs.size ks ∧ (∀ b o, s.heap.get? b = some o → h'.get? b = some o)) E) F.called_set.init.plain F.entry_set_init (check_set_init_1 hT ?_)) fun r2 s2 hr2 => ?_
      · obtain ⟨⟨oc, od, oo, os⟩, hol, hc, nl, hd⟩ := hl
        cases (show oc = .type "tuple" from hc)
        cases (show oo = .seq its nl from hd)
        have hol2 : (s.heap.push (fresh0 w)).get? l = some { cls := .type "tuple", dict := od, data := .seq its nl, slots := os } := Heap.get?_push_of_some _ hol
        have t1 := F.sub_tuple_set
        have t2 := F.sub_tuple_frozenset
        have t3 : (Value.type "tuple" == Value.type "dict") = false := by decide
        have hl1 : (s.heap.push (fresh0 w)).IsTuple l its := ⟨_, hol2, rfl, nl, rfl⟩
        unfold Builtin.«set.__init__» noKeywords Builtin.Frozenset.updateFrom
        generalize hPI : pyIter = PI
        wp_walk
        subst hPI
        refine wpAny_pyIter_tuple hl1 (wpAny_bind (wpAny_runValue ?_))
        have ls : l < s.heap.objs.size := Heap.lt_size hol
        have h3 : A.in1.in1.in1.handled = none := by simp [hh]
        have z1 : (s.heap.push (fresh0 w)).objs.size = s.heap.objs.size + 1 := Heap.size_push ..
        have nI : l ≠ (s.heap.push (fresh0 w)).objs.size := by
          rw [z1]
          exact Nat.ne_of_lt (Nat.lt_succ_of_lt ls)
        have nS : s.heap.objs.size ∉ [(s.heap.push (fresh0 w)).objs.size, l] := by
          rw [z1]
          intro z
          rcases List.mem_cons.mp z with z | z
          · exact Nat.succ_ne_self _ z.symm
          · exact Nat.ne_of_gt ls (List.mem_singleton.mp z)
        refine gs_update ((Walks.tuple h3 _ l nI its).toS) s.heap.objs.size nS ks hz hb hit (its.size - 0) 0 _ rfl (Nat.zero_le _) ⟨⟨_, Heap.get?_push_size _ rfl, rfl, rfl⟩, hl1.push _⟩ (gs_fresh (Heap.get?_push_of_some _ hS)) fun s3 mv g3 => ?_
        obtain ⟨h3', gg, dd, tk, oo⟩ := s3
        have e1 : gg = s.gens := mv.gens
        have e2 : dd = s.drawn := mv.drawn
        have e3 : oo = s.os := mv.os
        subst e1
        subst e2
        subst e3
        refine wpAny_pure ?_
        show wpAny _ _ (ret Value.none) _ _ _
        refine wpAny_pure ⟨rfl, h3', tk, rfl, g3, fun b o e => ?_⟩
        have hb0 : b < s.heap.objs.size := Heap.lt_size e
        refine mv.heap b o (fun z => ?_) (Heap.get?_push_of_some _ (Heap.get?_push_of_some _ e))
        rcases List.mem_cons.mp z with z | z
        · exact Nat.ne_of_lt hb0 z
        · have y := List.mem_singleton.mp z
          rw [z1] at y
          exact Nat.ne_of_lt (Nat.lt_succ_of_lt hb0) y
      · cases r2 with
        | error e => exact hr2
        | ok f2 =>
          cases f2 with
          | ret r =>
            obtain ⟨rfl, h', tk, rfl, g3, hk⟩ := hr2
            repeat (any_goals (first | assumption | wp_step))
            exact h _ _ g3 hk
          | _ => exact hr2.elim
    | _ => exact hr.elim
end
end KwS
set_option Elab.async false
set_option linter.all false
set_option maxRecDepth 100000
set_option maxHeartbeats 4000000
namespace KwS
open PySem PySem.Spec PyProof.Rows L2
/-- the set of the texts zs, at a -/
def TxS (P : Program) (w : World) (a : Addr) (zs : List Str) : HO := .ext fun h => GS (PySem.strKind P w) h a zs
section
variable {X : Cx}
theorem txs_new {P : Program} {w : World} {H : Hp} {h : Heap} {a : Addr} {zs : List Str} (g : GS (PySem.strKind P w) h a zs) : ObjOk P w H h a (TxS P w a zs) := by
  have ⟨o, _, _, _, _, ho, _⟩ := g
  exact ⟨g, ⟨o, ho⟩, fun h1 h2 p k => GS.at p k⟩
def rSetTx (K : PySem.W.Frag) (P : Program) (w : World) : List V → Hp → VK → Prop := fun xs H Q => ∃ (l : Addr) (zs : List Str), xs = [V.ref l] ∧ SqT K H l (zs.map V.str) ∧ zs.length ≤ 50 ∧ ∀ p, H p = none → Q (.ref p) (upd H p (TxS P w p zs))
theorem vals_get {xs : List V} {us : List Value} {i : Nat} {v : Value} (r : Vals xs us) (h : us[i]? = some v) : ∃ x, xs[i]? = some x ∧ RelV x v := by
  have hi := (List.getElem?_eq_some_iff.mp h).1
  have hj : i < xs.length := by
    rw [r.length]
    exact hi
  obtain ⟨u, h1, h2⟩ := r.get (List.getElem?_eq_getElem hj)
  rw [h] at h1
  cases h1
  exact ⟨_, List.getElem?_eq_getElem hj, h2⟩
theorem cr_setTx (hc : X.calm = true) : CallR X (.type "set") (rSetTx X.K X.prog X.w) := by
  intro pins s σ H xs us Q I r h
  obtain ⟨l, zs, rfl, hl, hn, q⟩ := h
  rw [Vals.ref1 r]
  obtain ⟨its, rv, pt, _⟩ := I.tuple hl
  have hlen : its.length = zs.length := by
    rw [← rv.length, List.length_map]
  refine call_setT (kd := PySem.strKind X.prog X.w) zs (I.ok.hd hc) pt (by simpa using hlen) (fun i v hv => ?_) (Nat.lt_of_le_of_lt (Nat.succ_le_succ hn) (by decide)) fun h' tk g hk => ?_
  · have hv' : its[i]? = some v := by simpa using hv
    obtain ⟨x, hx, rx⟩ := vals_get rv hv'
    rw [List.getElem?_map] at hx
    cases ez : zs[i]? with
    | none =>
      rw [ez] at hx
      cases hx
    | some z =>
      rw [ez] at hx
      cases hx
      obtain ⟨t, rfl⟩ := rx
      exact ⟨z, rfl, keyIs_str z t, rfl⟩
  · exact ⟨.ref _, upd H s.heap.objs.size (TxS X.prog X.w s.heap.objs.size zs), I.laid (t' := tk) hk (Nat.le_refl _) (txs_new g), rfl, q _ (I.hok.fresh (Nat.le_refl _))⟩
theorem strs_of : ∀ {vs : List Value} {zs : List Str}, Paired (fun v z => Value.isStrOf z v = true) vs zs → StrsAre vs zs
  | _, _, .nil => .nil
  | _, _, .cons h t => by
    obtain ⟨tk, rfl⟩ := Value.isStrOf_shape h
    exact .cons _ tk (strs_of t)
theorem prd_map {α β γ : Type} {F : β → γ → Prop} {f : α → β} : ∀ {es : List α} {js : List γ}, Paired (fun e j => F (f e) j) es js → Paired F (es.map f) js
  | _, _, .nil => .nil
  | _, _, .cons r t => .cons r (prd_map t)
def rSortTx (P : Program) (w : World) : List V → Hp → VK → Prop := fun vs H Q => ∃ (a : Addr) (zs : List Str), vs = [V.ref a] ∧ H a = some (TxS P w a zs) ∧ zs.length ≤ 50 ∧
  ∀ (ys : List Str) (p : Addr), ys.Nodup → (∀ z, z ∈ ys ↔ z ∈ zs) → sortedS ys = true → H p = none → Q (.ref p) (upd H p (.lst (ys.map V.str)))
theorem cr_sortTx (hc : X.calm = true) : CallR X (.builtin "sorted") (rSortTx X.prog X.w) := by
  intro pins s σ H vs us Q I r h
  obtain ⟨a, zs, rfl, ha, hn, q⟩ := h
  rw [Vals.ref1 r]
  obtain ⟨ob, es, ep, tb, js, o1, o2, o3, hp, nd, hm, hsz, hf, hr, hl⟩ := (I.hok a _ ha).1
  have h50 : es.size ≤ 50 := Nat.le_trans hsz hn
  refine Calls.call_function_entry kind_sorted plain_sorted entry_sorted (args_sorted1 _) ?_
  unfold Builtin.«sorted»
  refine wpAny_bind (m := checkCount "sorted" 1 1 _) (wpAny_pure (wpAny_bind (collect_set (A := X.A.in1) (I.ok.hd hc) ⟨ob, o1, o2.1, o3⟩ hf (Nat.lt_of_le_of_lt h50 (by decide)) hr hl fun s1 out k1 hz g1 os1 pm => ?_)))
  obtain ⟨js1, j1, j2⟩ := prd_perm pm (prd_map (f := Prod.snd) (F := fun v z => Value.isStrOf z v = true) (Paired.mapP hp fun e z x => x.1))
  have hS := strs_of j2
  have hol : out.length ≤ 50 := by
    rw [pm.length_eq, List.length_map, Array.length_toList]
    exact h50
  refine wpAny_bind (wpAny_newList ?_ (Nat.le_trans hol (by decide)))
  have hoL : (s1.heap.push (seqObj "list" out.toArray 0)).get? s1.heap.objs.size = some (seqObj "list" out.toArray 0) := Heap.get?_push_size _ rfl
  refine wpAny_bind (wpAny_holding (wpAny_call_entry slot_list_sort ⟨_, hoL, rfl⟩ entry_list_sort (list_sort_treeK PyProof.Rows.strKind_oneLt hoL hS.keysOf (fun v1 v2 rest e => keyKind_strs (by rw [← e]; exact hS)) (by omega) fun st hp2 hs2 => ⟨_, rfl, ?_⟩) (args_list_sort _)))
  obtain ⟨ys, y1, y2, y3⟩ := sorted_out_str hS hp2 hs2
  obtain ⟨e9, he9⟩ := sortedHeap_at (vs := out) (out := (arrOf st).map (·.2)) hoL
  have hlen : (ys.map V.str).length ≤ sizeLine := by
    rw [List.length_map, y2.length_eq, ← Paired.length j2]
    exact Nat.le_trans hol (by decide)
  have kp : ∀ b o, s.heap.get? b = some o → (sortedHeap (s1.heap.push (seqObj "list" out.toArray 0)) s1.heap.objs.size out ((arrOf st).map (·.2))).get? b = some o := fun b o e => by
    have z := k1 b o e
    have lt := Heap.lt_size z
    rw [sortedHeap_old (Nat.ne_of_lt lt) (by rw [size_push']; exact Nat.lt_succ_of_lt lt)]
    exact Heap.get?_push_of_some _ z
  have hno : H s1.heap.objs.size = none := I.hok.fresh hz
  have hob : ObjOk X.prog X.w (upd H s1.heap.objs.size (.lst (ys.map V.str))) (sortedHeap (s1.heap.push (seqObj "list" out.toArray 0)) s1.heap.objs.size out ((arrOf st).map (·.2))) s1.heap.objs.size (.lst (ys.map V.str)) := ⟨hlen, ((arrOf st).map (·.2)).toList, e9, vals_of_strs y1, by rw [Array.toArray_toList]; exact he9⟩
  generalize hG : sortedHeap (s1.heap.push (seqObj "list" out.toArray 0)) s1.heap.objs.size out ((arrOf st).map (·.2)) = G at kp hob
  have J : Inv X pins σ (upd H s1.heap.objs.size (.lst (ys.map V.str))) { s with heap := G, gens := s1.gens, drawn := s1.drawn, toks := s1.toks } := I.call (ch := []) (Un.laid kp hz hno) (I.hok.laid kp hz hob) (by rw [g1]; exact I.bare) (fun _ z => nomatch z)
  have e1 : ({ s1 with heap := G } : Shared) = { s with heap := G, gens := s1.gens, drawn := s1.drawn, toks := s1.toks } := by
    obtain ⟨a1, a2, a3, a4, a5⟩ := s1
    obtain ⟨b1, b2, b3, b4, b5⟩ := s
    cases (show a5 = b5 from os1)
    rfl
  refine wpAny_pure ⟨_, rfl, ?_⟩
  show EP X pins σ Q _ ({ s1 with heap := G } : Shared)
  rw [e1]
  exact ⟨.ref s1.heap.objs.size, _, J, rfl, q ys _ (y2.nodup_iff.mpr (j1.nodup_iff.mpr nd)) (fun z => (y2.mem_iff.trans j1.mem_iff).trans (hm z)) y3 hno⟩
end
end KwS
set_option Elab.async false
set_option linter.all false
set_option maxRecDepth 100000
set_option maxHeartbeats 4000000
namespace KwZ
open PySem PySem.Spec PyProof.Rows L2 KwS
/-! ### sorted(t), t a tuple of ints -/
def grown (h : Heap) (us : List Value) : Heap := (h.push (seqObj "list" #[] 0)).update h.objs.size (Obj.mapSeq (· ++ us.toArray))
section
variable {prog : Program} {w : World} {A : Around} {E : Value → Shared → Prop} {s : Shared}
theorem coll_tup {t : Addr} {us : List Value} {Q : List Value → Shared → Prop} (ht : s.heap.IsTuple t us.toArray) (hn : us.length ≤ sizeLine) (q : Q us { s with heap := grown s.heap us }) : wpAny (model prog w) A (collect (.ref t)) Q E s := by
  obtain ⟨ob, g1, g2, ep, g3⟩ := ht
  have f1 : (s.heap.push (seqObj "list" #[] 0)).get? t = some ob := Heap.get?_push_of_some _ g1
  have f2 : (s.heap.push (seqObj "list" #[] 0)).get? s.heap.objs.size = some (seqObj "list" #[] 0) := Heap.get?_push_size _ rfl
  have k1 : (Value.type "tuple" == Value.type "tuple") = true := by rfl
  unfold collect
  refine wpAny_bind (wpAny_runValue (codeAny_builtin entry_proto_collect' ?_))
  show wpAny _ _ (do
    let l ← newList []
    again (.builtin "list.__iadd__" ⟨[l, .ref t], []⟩)) _ _ s
  refine wpAny_bind (wpAny_newList (wpAny_pure ⟨Code.quiet_builtin _ (by decide +kernel), codeAny_builtin entry_list_iadd' ?_⟩))
  show wpAny _ _ (Builtin.List.listExtendWith (.ref s.heap.objs.size) (.ref t) (.ref s.heap.objs.size)) _ _ { s with heap := s.heap.push (seqObj "list" #[] 0) }
  unfold Builtin.List.listExtendWith
  refine wpAny_bind (wpAny_typeOf (T := "tuple") ⟨ob, f1, g2⟩ ?_)
  rw [if_pos (by rw [k1, Bool.or_true])]
  refine wpAny_bind (listItems_at f1 g3 (wpAny_bind (listItems_at (xs := #[]) (n := 0) f2 rfl ?_)))
  rw [if_neg (by simp)]
  refine wpAny_bind (listUpdate_at (xs := #[]) (n := 0) f2 rfl (wpAny_pure ?_) (Nat.zero_le _) (by
    show (#[] ++ us.toArray).size ≤ sizeLine + 1
    rw [Array.size_append, List.size_toArray]
    show 0 + us.length ≤ sizeLine + 1
    omega))
  have e0 : ((#[] : Array Value) ++ us.toArray).toList = us := by simp
  show wpAny (model prog w) A (do
    let ob ← load s.heap.objs.size
    match ob.data with
    | .seq xs _ => pure xs.toList
    | _ => unsupported "internal:collect") Q E { s with heap := grown s.heap us }
  refine wpAny_bind (wpAny_load (get?_update_seq f2 _) ?_)
  show wpAny _ _ (pure ((#[] : Array Value) ++ us.toArray).toList) Q E _
  rw [e0]
  exact wpAny_pure q
end
section
variable {X : Cx}
def rSortIT (K : PySem.W.Frag) : List V → Hp → VK → Prop := fun vs H Q => ∃ (a : Addr) (ns : List Int), vs = [V.ref a] ∧ SqT K H a (ns.map V.int) ∧ ∀ (ms : List Int) (p : Addr), ms.Perm ns → ms.Pairwise (· ≤ ·) → H p = none → Q (.ref p) (upd H p (.lst (ms.map V.int)))
theorem cr_sortIT : CallR X (.builtin "sorted") (rSortIT X.K) := by
  intro pins s σ H vs us Q I r h
  obtain ⟨a, ns, rfl, hs, q⟩ := h
  obtain ⟨its, rv, pt, hz⟩ := I.tuple hs
  rw [Vals.ref1 r]
  have hi := rv.ints
  have hzl : its.length ≤ sizeLine := by rw [← rv.length]; exact hz
  have z1 : (grown s.heap its).objs.size = s.heap.objs.size + 1 := by
    unfold grown
    rw [Heap.size_update, size_push']
  have hoL : ((grown s.heap its).push (seqObj "list" its.toArray 0)).get? (grown s.heap its).objs.size = some (seqObj "list" its.toArray 0) := Heap.get?_push_size _ rfl
  refine Calls.call_function_entry kind_sorted plain_sorted entry_sorted (args_sorted1 _) ?_
  unfold Builtin.«sorted»
  refine wpAny_bind (m := checkCount "sorted" 1 1 _) (wpAny_pure (wpAny_bind (coll_tup pt hzl (wpAny_bind (wpAny_newList ?_ hzl)))))
  refine wpAny_bind (wpAny_holding (wpAny_call_entry slot_list_sort ⟨_, hoL, rfl⟩ entry_list_sort (SrtO.list_sort_ord SrtO.swo_int hoL hzl (fun h2 => SrtO.ints_sortable hi h2) fun out h1 h2 => ⟨_, rfl, ?_⟩) (args_list_sort _)))
  obtain ⟨k1, k2, k3⟩ := SrtO.ints_out hi h1 h2
  obtain ⟨e9, he9⟩ := sortedHeap_at (vs := its) (out := out.toArray) hoL
  have kp : ∀ b o, s.heap.get? b = some o → (sortedHeap ((grown s.heap its).push (seqObj "list" its.toArray 0)) (grown s.heap its).objs.size its out.toArray).get? b = some o := fun b o e => by
    have lt := Heap.lt_size e
    rw [sortedHeap_old (by rw [z1]; exact Nat.ne_of_lt (Nat.lt_succ_of_lt lt)) (by rw [size_push', z1]; exact Nat.lt_succ_of_lt (Nat.lt_succ_of_lt lt))]
    refine Heap.get?_push_of_some _ ?_
    unfold grown
    rw [Heap.get?_update_ne _ _ _ _ (Nat.ne_of_lt lt)]
    exact Heap.get?_push_of_some _ e
  have hlen : ((out.map SrtO.iv).map V.int).length ≤ sizeLine := by
    have y := hz
    rw [List.length_map] at y ⊢
    rw [k2.length_eq]
    exact y
  have hge : s.heap.objs.size ≤ (grown s.heap its).objs.size := by rw [z1]; exact Nat.le_succ _
  exact wpAny_pure ⟨_, rfl, .ref _, upd H (grown s.heap its).objs.size (.lst ((out.map SrtO.iv).map V.int)), I.laid (t' := s.toks) kp hge ⟨hlen, out, e9, vals_of_ints k1, he9⟩, rfl, q _ _ k2 k3 (I.hok.fresh hge)⟩
/-! ### len(set(t)), t a tuple of ints -/
def InS (P : Program) (w : World) (a : Addr) (zs : List Int) : HO := .ext fun h => GS (PySem.intKind P w) h a zs
theorem ins_new {P : Program} {w : World} {H : Hp} {h : Heap} {a : Addr} {zs : List Int} (g : GS (PySem.intKind P w) h a zs) : ObjOk P w H h a (InS P w a zs) := by
  have ⟨o, _, _, _, _, ho, _⟩ := g
  exact ⟨g, ⟨o, ho⟩, fun h1 h2 p k => GS.at p k⟩
def rSetIT (K : PySem.W.Frag) (P : Program) (w : World) : List V → Hp → VK → Prop := fun xs H Q => ∃ (l : Addr) (zs : List Int), xs = [V.ref l] ∧ SqT K H l (zs.map V.int) ∧ zs.length ≤ 50 ∧ ∀ p, H p = none → Q (.ref p) (upd H p (InS P w p zs))
theorem cr_setIT (hc : X.calm = true) : CallR X (.type "set") (rSetIT X.K X.prog X.w) := by
  intro pins s σ H xs us Q I r h
  obtain ⟨l, zs, rfl, hl, hn, q⟩ := h
  rw [Vals.ref1 r]
  obtain ⟨its, rv, pt, _⟩ := I.tuple hl
  have hlen : its.length = zs.length := by
    rw [← rv.length, List.length_map]
  refine call_setT (kd := PySem.intKind X.prog X.w) zs (I.ok.hd hc) pt (by simpa using hlen) (fun i v hv => ?_) (Nat.lt_of_le_of_lt (Nat.succ_le_succ hn) (by decide)) fun h' tk g hk => ?_
  · have hv' : its[i]? = some v := by simpa using hv
    obtain ⟨x, hx, rx⟩ := vals_get rv hv'
    rw [List.getElem?_map] at hx
    cases ez : zs[i]? with
    | none =>
      rw [ez] at hx
      cases hx
    | some z =>
      rw [ez] at hx
      cases hx
      obtain ⟨t, rfl⟩ := rx
      exact ⟨z, rfl, intKind_is _ _ _ _, rfl⟩
  · exact ⟨.ref _, upd H s.heap.objs.size (InS X.prog X.w s.heap.objs.size zs), I.laid (t' := tk) hk (Nat.le_refl _) (ins_new g), rfl, q _ (I.hok.fresh (Nat.le_refl _))⟩
def rLenSI (P : Program) (w : World) : List V → Hp → VK → Prop := fun xs H Q => ∃ (a : Addr) (zs : List Int), xs = [V.ref a] ∧ H a = some (InS P w a zs) ∧ zs.length ≤ 50 ∧ ∀ js : List Int, js.Nodup → (∀ k, k ∈ js ↔ k ∈ zs) → Q (.int (js.length : Nat)) H
theorem cr_lenSI : CallR X (.builtin "len") (rLenSI X.prog X.w) := by
  intro pins s σ H vs us Q I r h
  obtain ⟨a, zs, rfl, ha, hn, q⟩ := h
  rw [Vals.ref1 r]
  obtain ⟨ob, es, ep, tb, js, o1, o2, o3, hp, nd, hm, hsz, hf, hr, hl⟩ := (I.hok a _ ha).1
  have e : es.size = js.length := by
    have := Paired.length hp
    rw [Array.length_toList] at this
    exact this
  refine call_len_set o1 o2 o3 hf (by omega) ⟨.int (js.length : Nat), H, I.tok _, ⟨_, by rw [e]⟩, q js nd hm⟩
end
end KwZ
set_option Elab.async false
set_option linter.all false
set_option maxRecDepth 100000
set_option maxHeartbeats 4000000
namespace KwZ
open PySem PySem.Spec PyProof.Rows L2 KwS
section
variable {X : Cx}
/-! ### t.index(k), t a tuple of numbers -/
def rTidx (K : PySem.W.Frag) : V → List V → Hp → VK → Prop := fun x xs H Q => ∃ (p : Addr) (ns : List Int) (k : Int) (j : Nat), x = .ref p ∧ xs = [.int k] ∧ SqT K H p (ns.map V.int) ∧ ns[j]? = some k ∧ (∀ m, m < j → ns[m]? ≠ some k) ∧ Q (.int (j : Nat)) H
theorem flat_ints (ns : List Int) : (ns.map V.int).all flatV = true := by
  rw [List.all_map]
  exact List.all_eq_true.mpr fun _ _ => rfl
theorem mt_tidx : MtR X "tuple.index" (rTidx X.K) := by
  intro pins s σ H x xs v us Q I rx rs h
  obtain ⟨p, ns, k, j, rfl, rfl, hs, hj, hno, q⟩ := h
  cases rx
  obtain ⟨u, rfl, tk, rfl⟩ := vals1 rs
  obtain ⟨its, rv, ⟨⟨oc, od, oo, osl⟩, g1, g2, ep, g3⟩, hz⟩ := I.tuple hs
  cases (show oc = .type "tuple" from g2)
  cases (show oo = .seq its.toArray ep from g3)
  have hlen : its.toArray.size = ns.length := by rw [List.size_toArray, ← rv.length, List.length_map]
  have hjs : j < its.toArray.size := by rw [hlen]; exact (List.getElem?_eq_some_iff.mp hj).1
  have item : ∀ (m : Nat) (hm : m < its.toArray.size), ∃ y t, ns[m]? = some y ∧ its.toArray[m] = Value.int y t := fun m hm => by
    have hm1 : m < ns.length := by rw [← hlen]; exact hm
    obtain ⟨w, hw, t, ht⟩ := rv.get (i := m) (x := .int ns[m]) (by simp [hm1])
    have e := (List.getElem?_eq_some_iff.mp hw).2
    refine ⟨ns[m], t, List.getElem?_eq_getElem hm1, ?_⟩
    rw [← ht, ← e]
    simp
  have fin : EP X pins σ Q (.int (j : Nat) s.toks) { s with toks := s.toks + 1 } := ⟨.int (j : Nat), H, I.tok _, ⟨_, rfl⟩, q⟩
  refine call_meets PySem.F.slot_tuple_index ⟨_, g1, rfl⟩ PySem.F.entry_tuple_index (PySem.F.args_tuple_index_2 _ _) (TI.tuple_indexAt p its.toArray ep od osl (.int k tk) (eqU (.int k)) j hjs ?_ fun m hm hmj => ?_) ⟨g1, fun w hw => mem_eqAt (x := .int k) ⟨tk, rfl⟩ rfl rv (flat_ints ns) w (by simpa using hw), fin⟩
  · obtain ⟨y, t, e1, e2⟩ := item j hjs
    rw [hj] at e1
    cases e1
    rw [e2]
    show (k == k) = true
    exact beq_self_eq_true k
  · obtain ⟨y, t, e1, e2⟩ := item m hm
    rw [e2]
    show (y == k) = false
    exact beq_eq_false_iff_ne.mpr fun e => hno m hmj (by rw [← e]; exact e1)
/-! ### a tuple whose object is known -/
def tupO (its : List Value) : Obj := { cls := .type "tuple", data := .seq its.toArray }
def NT (H : Hp) (p : Addr) (xs : List V) : Prop := ∃ its : List Value, H p = some (.frz (tupO its) (.tup xs))
def rTupF (K : PySem.W.Frag) : List V → Hp → VK → Prop := fun xs H Q => ∃ (p : Addr) (ys : List V), xs = [.ref p] ∧ SqL K H p ys ∧ ∀ (l : Addr) (its : List Value), H l = none → Q (.ref l) (upd H l (.frz (tupO its) (.tup ys)))
theorem call_tupF : CallR X (.type "tuple") (rTupF X.K) := by
  intro pins s σ H xs us Q I r h
  obtain ⟨p, ys, rfl, hs, q⟩ := h
  rw [Vals.ref1 r]
  obtain ⟨its, rv, pl, hz⟩ := I.list hs
  have hl : its.toArray.size ≤ sizeLine := by rw [List.size_toArray, ← rv.length]; exact hz
  refine call_tuple_list pl.isList (fun h' kp => ?_) hl
  have J : Inv X pins σ H { s with heap := h' } := I.kept (t' := s.toks) kp
  refine ⟨.ref h'.objs.size, upd H h'.objs.size (.frz (tupO its) (.tup ys)), J.laid (t' := s.toks) (fun b o e => Heap.get?_push_of_some _ e) (Nat.le_refl _) ?_, rfl, q _ its (J.hok.fresh (Nat.le_refl _))⟩
  exact ⟨Heap.get?_push_size _ rfl, hz, its, rv, IsTup.new _ _⟩
theorem nt_sq {K : PySem.W.Frag} {H : Hp} {p : Addr} {xs : List V} (h : NT H p xs) : SqT K H p xs := by
  obtain ⟨its, h⟩ := h
  exact .inl (.inr ⟨_, h⟩)
/-! ### its method index -/
def tTidx (K : PySem.W.Frag) (to : TE) (t : TA) : TE := fun σ H Q => to σ H fun x H1 => (∃ p xs, x = V.ref p ∧ NT H1 p xs) ∧ t σ H1 fun vs H2 => rTidx K x vs H2 Q
theorem pe_tidx {o e : Expr} {es : List Expr} {to : TE} {t : TA} {apos cpos : Pos} (ho : PE X o to) (ha : PA X (e :: es) t) (hb : attributeBase o "index" X.env (eval o X.env) = eval o X.env := by rfl)
    (hf : ((backTo cpos (starEach (e :: es) X.env)).all (fun x => !x.1) && (backToKw cpos (keywordEach [] X.env)).all (fun x => x.1.isSome) && decide ((e :: es).length + ([] : List Keyword).length + (if ([] : List Keyword).isEmpty then 0 else 1) < 30)) = true := by rfl)
    (hn : (apos.endLine == cpos.line) = true := by rfl) (h1 : starEach (e :: es) X.env = (false, eval e X.env) :: starEach es X.env := by rfl) (h2 : (backTo cpos (starEach es X.env)).any (·.1) = false := by rfl) :
    PE X (.Call (.Attribute o "index" apos) (e :: es) [] cpos) (tTidx X.K to t) := ⟨fun pins s σ H Q I h => by
  refine wpAny_Call_method_late hb hf hn rfl (thn (ho.run pins s σ H _ I h) fun v s1 ⟨x, H1, I1, r1, ⟨p, xs, ex, its, hp⟩, q1⟩ => ?_)
  subst ex
  cases r1
  have ob : s1.heap.get? p = some (tupO its) := (I1.hok p _ hp).1
  refine ⟨"tuple", "tuple.index", PySem.F.plainAttrs_tuple, PySem.F.slot_tuple_index, PySem.F.type_tuple_index, ⟨_, ob, rfl⟩, fun a ea => ?_, ?_⟩
  · cases ea
    exact ⟨_, ob, rfl⟩
  · have z := ha.run cpos pins s1 σ H1 _ I1 q1
    rw [h1] at z ⊢
    refine Calls.callWith_builtin ?_ (Calls.evalArgs_plain (thn z fun us s2 ⟨vs, H2, I2, r2, q2⟩ => mt_tidx pins s2 σ H2 (.ref p) vs (.ref p) us Q I2 rfl r2 q2))
    show (false || (backTo cpos (starEach es X.env)).any (·.1)) = false
    rw [h2]
    rfl⟩
end
end KwZ
set_option Elab.async false
set_option linter.all false
set_option maxRecDepth 100000
set_option maxHeartbeats 4000000
/-! sorted of tuples of ints of any length, and of pairs of an int and such a tuple -/
namespace SoX
open PySem PySem.Spec PyProof.Rows SrtO
theorem lex_asym : ∀ (x y : List Int), HT.lexLt x y = true → HT.lexLt y x = false
  | [], [], h => by cases h
  | [], _ :: _, _ => rfl
  | _ :: _, [], h => by cases h
  | a :: x, b :: y, h => by
    rw [HT.lexLt_cons] at h ⊢
    by_cases e : a = b
    · subst e
      rw [if_pos rfl] at h ⊢
      exact lex_asym x y h
    · rw [if_neg e] at h
      rw [if_neg (fun z => e z.symm)]
      have := of_decide_eq_true h
      exact decide_eq_false (by omega)
theorem lex_tr : ∀ (x y z : List Int), HT.lexLt y x = false → HT.lexLt z y = false → HT.lexLt z x = false
  | [], [], [], _, _ => rfl
  | [], [], _ :: _, _, _ => rfl
  | [], _ :: _, [], h1, h2 => by cases h2
  | [], _ :: _, _ :: _, _, _ => rfl
  | _ :: _, [], [], h, _ => by cases h
  | _ :: _, [], _ :: _, h, _ => by cases h
  | _ :: _, _ :: _, [], _, h => by cases h
  | a :: x, b :: y, c :: z, h1, h2 => by
    rw [HT.lexLt_cons] at h1 h2 ⊢
    by_cases e1 : b = a
    · rw [if_pos e1] at h1
      by_cases e2 : c = b
      · rw [if_pos e2] at h2
        rw [if_pos (e2.trans e1)]
        exact lex_tr x y z h1 h2
      · rw [if_neg e2] at h2
        rw [if_neg (fun z => e2 (z.trans e1.symm)), ← e1]
        exact h2
    · rw [if_neg e1] at h1
      have h1 := of_decide_eq_false h1
      by_cases e2 : c = b
      · rw [if_neg (fun z => e1 (e2.symm.trans z))]
        exact decide_eq_false (by omega)
      · rw [if_neg e2] at h2
        have h2 := of_decide_eq_false h2
        rw [if_neg (by omega)]
        exact decide_eq_false (by omega)
theorem swo_lexL {α : Type} (k : α → List Int) : Swo fun v u => HT.lexLt (k v) (k u) := ⟨fun x y h => lex_asym _ _ h, fun x y z h1 h2 => lex_tr _ _ _ h1 h2⟩
theorem lex_refl : ∀ x : List Int, HT.lexLt x x = false := fun x => by
  cases h : HT.lexLt x x with
  | false => rfl
  | true => rw [lex_asym x x h] at h; cases h
/-- a tuple of ints -/
def TupI (h : Heap) (v : Value) (ns : List Int) : Prop := ∃ a its, v = .ref a ∧ IsTup h a its ∧ IntsAre its.toList ns
theorem TupI.keeps {h h' : Heap} {v : Value} {ns : List Int} (p : TupI h v ns) (k : ∀ b o, h.get? b = some o → o.cls = .type "tuple" → h'.get? b = some o) : TupI h' v ns := by
  obtain ⟨a, its, e, ⟨o, ho, hc, hd⟩, hi⟩ := p
  exact ⟨a, its, e, ⟨o, k _ _ ho hc, hc, hd⟩, hi⟩
theorem readsAll_ints {h : Heap} : ∀ {vs : List Value} {ns : List Int}, IntsAre vs ns → ReadsAll h vs (ns.map PyData.int) []
  | _, _, .nil => .nil
  | _, _, .cons n t r => ReadsAll.cons (as := []) (bs := []) (.int n t) (readsAll_ints r)
theorem TupI.reads {h : Heap} {v : Value} {ns : List Int} (p : TupI h v ns) : Reads h v (.tuple (ns.map PyData.int)) [] := by
  obtain ⟨a, its, rfl, ⟨o, ho, hc, n, hd⟩, hi⟩ := p
  exact .tuple ho hc hd (readsAll_ints hi)
theorem lay_ints : ∀ ns : List Int, PyData.canLayAll0 (ns.map PyData.int) = true
  | [] => by simp [PyData.canLayAll0]
  | a :: r => by
    have := lay_ints r
    simp only [List.map_cons, PyData.canLayAll0, PyData.canLay0, Bool.true_and]
    exact this
theorem depth_ints : ∀ ns : List Int, PyData.depthAll (ns.map PyData.int) ≤ 1
  | [] => by simp [PyData.depthAll]
  | a :: r => by
    have := depth_ints r
    simp only [List.map_cons, PyData.depthAll, PyData.depth]
    omega
theorem eqv_ints : ∀ a b : List Int, PyData.eqvAll (a.map PyData.int) (b.map PyData.int) = decide (a = b)
  | [], [] => by simp [PyData.eqvAll]
  | [], _ :: _ => by simp [PyData.eqvAll]
  | _ :: _, [] => by simp [PyData.eqvAll]
  | x :: a, y :: b => by
    have := eqv_ints a b
    simp only [List.map_cons, PyData.eqvAll, PyData.eqv, this]
    by_cases h : x = y
    · subst h
      simp
    · simp [h]
theorem depth_tup (ns : List Int) : PyData.depth (.tuple (ns.map PyData.int)) ≤ 2 := by
  have := depth_ints ns
  simp only [PyData.depth]
  omega
section
variable {prog : Program} {w : World} {A : Around} {E : Value → Shared → Prop} {s : Shared}
/-- pairs of an int and a tuple of ints -/
def PrT (h : Heap) (v : Value) (l : List Int) : Prop := ∃ a x ns t u, v = .ref a ∧ IsTup h a #[.int x t, u] ∧ TupI h u ns ∧ l = x :: ns
theorem PrT.keeps {h h' : Heap} {v : Value} {l : List Int} (p : PrT h v l) (k : ∀ b o, h.get? b = some o → o.cls = .type "tuple" → h'.get? b = some o) : PrT h' v l := by
  obtain ⟨a, x, ns, t, u, e, ⟨o, ho, hc, hd⟩, hu, hl⟩ := p
  exact ⟨a, x, ns, t, u, e, ⟨o, k _ _ ho hc, hc, hd⟩, hu.keeps k, hl⟩
theorem prt_cmp {vs : List Value} {k : Value → List Int} (hu : A.units + 4 < cLine) (hp : ∀ v ∈ vs, PrT s.heap v (k v)) : Cmp prog w A s (tuples' true) (fun p => p.1 ∈ vs) (lt2 fun v u => HT.lexLt (k v) (k u)) := by
  intro p q hm hm'
  have h1 := hp _ hm
  have h2 := hp _ hm'
  show wpAny (model prog w) A (keyLt' (tuples' true) p.1 q.1) (fun r s' => s' = s ∧ r = HT.lexLt (k p.1) (k q.1)) (fun _ _ => False) s
  obtain ⟨a, x, ns, t, u, e, ⟨o, ho, hc, n, hd⟩, hu1, hk⟩ := h1
  obtain ⟨a', x', ns', t', u', e', ⟨o', ho', hc', n', hd'⟩, hu2, hk'⟩ := h2
  rw [e, e', ← e, ← e', hk, hk', e, e', HT.lexLt_cons]
  refine PySem.W.kat_lt ho hd ho' hd' ?_
  show PySem.W.KatLex prog w A true (decide (2 < 2)) _ [(.int x t, .int x' t'), (u, u')] 0 s
  refine PySem.W.kat_cons (SeqAt.EqAt.int_int x t x' t' prog w _ _ ?_)
  refine PySem.W.kat_go (fun e1 => ?_) (fun e1 => ?_)
  · have ex : x = x' := by simpa using e1
    rw [if_pos ex]
    refine PySem.W.kat_yes (PySem.W.kat_cons (SeqAt.eqBoolOverData prog w A _ s u u' _ _ _ _ _ hu1.reads hu2.reads (by simpa [PyData.canLay0] using lay_ints ns) (by simpa [PyData.canLay0] using lay_ints ns') (by have := depth_tup ns; omega) ?_))
    refine PySem.W.kat_go (fun e2 => ?_) (fun e2 => ?_)
    · have ey : ns = ns' := by
        simp only [PyData.eqv, eqv_ints] at e2
        exact of_decide_eq_true e2
      subst ey
      exact PySem.W.kat_yes (PySem.W.kat_nil ⟨rfl, (lex_refl ns).symm⟩)
    · obtain ⟨b, its, rfl, hb, hi⟩ := hu1
      obtain ⟨b', its', rfl, hb', hi'⟩ := hu2
      exact PySem.W.kat_no (PySem.W.kat_one _ _ (HT.lt_tupInts hb hb' hi hi' (by omega) ⟨rfl, rfl⟩))
  · have ex : ¬ x = x' := by simpa using e1
    rw [if_neg ex]
    exact PySem.W.kat_no (oneLt_int ⟨rfl, rfl⟩)
theorem prt_firsts {h : Heap} {k : Value → List Int} : ∀ {vs : List Value}, (∀ v ∈ vs, PrT h v (k v)) → ∃ fs : List Value, PySem.W.KatTups h vs fs ∧ fs.length = vs.length ∧ ∀ f ∈ fs, ∃ x t, f = Value.int x t
  | [], _ => ⟨[], PySem.W.KatTups.nil, rfl, fun _ hm => by simp at hm⟩
  | v :: vs, hp => by
    obtain ⟨fs, h1, h2, h3⟩ := prt_firsts (vs := vs) fun v' hm => hp v' (List.mem_cons_of_mem _ hm)
    obtain ⟨a, x, ns, t, u, e, ⟨o, ho, hc, n, hd⟩, hu1, hk⟩ := hp v (List.mem_cons_self ..)
    subst e
    refine ⟨.int x t :: fs, PySem.W.KatTups.cons ho hc hd rfl h1, by rw [List.length_cons, List.length_cons, h2], fun f hm => ?_⟩
    rcases List.mem_cons.mp hm with rfl | hm
    · exact ⟨x, t, rfl⟩
    · exact h3 f hm
theorem prt_sortable {a : Addr} {vs : List Value} {k : Value → List Int} (hu : A.units + 4 < cLine) (h0 : 0 < vs.length) (hp : ∀ v ∈ vs, PrT s.heap v (k v)) (ha : ∀ o, s.heap.get? a = some o → o.cls ≠ .type "tuple") : SortableO prog w A s a vs fun v u => HT.lexLt (k v) (k u) := by
  intro h' keep
  have hp' : ∀ v ∈ vs, PrT h' v (k v) := fun v hm => (hp v hm).keeps fun b o e c => keep b o (fun z => by subst z; exact ha o e c) e
  obtain ⟨fs, h1, h2, h3⟩ := prt_firsts hp'
  refine ⟨tuples' true, fun Q E hq => ?_, prt_cmp hu hp'⟩
  refine PySem.W.kat_kind (T := .type "int") h1 (by omega) (fun f hm => ?_) (by rfl) ?_
  · obtain ⟨x, t, rfl⟩ := h3 f hm
    exact PySem.W.Looks.now
  · have e : (Value.type "int" != Value.type "tuple") = true := by first | decide +kernel | rfl | decide
    rw [e]
    exact hq
theorem sorted_prt {l : Addr} {vs : List Value} {k : Value → List Int} {Q : Value → Shared → Prop} (hu : A.units + 6 < cLine) (hl : s.heap.IsList l vs.toArray) (hz : vs.length ≤ sizeLine) (hp : ∀ v ∈ vs, PrT s.heap v (k v))
    (h : ∀ (h' : Heap) (d : Addr) (out : List Value), Srtd (fun v u => HT.lexLt (k v) (k u)) out → Stb (fun v u => HT.lexLt (k v) (k u)) out vs → (∀ b o, s.heap.get? b = some o → h'.get? b = some o) → s.heap.objs.size ≤ d → (∃ n, h'.get? d = some (seqObj "list" out.toArray n)) → Q (.ref d) { s with heap := h' }) :
    wpAny (model prog w) A (call (.builtin "sorted") [.ref l]) Q E s := by
  refine sorted_ord (swo_lexL k) hl hz (fun h2 h₁ a ha kk => ?_) fun out hs hb => ?_
  · refine prt_sortable (s := { s with heap := h₁ }) (by rw [Around.in1_units, Around.in1_units]; omega) (by omega) (fun v hm => (hp v hm).keeps fun b o e _ => (kk b o e).2) fun o e => ?_
    have e' : some o = some (seqObj "list" vs.toArray 0) := e.symm.trans ha
    cases e'
    intro c
    exact absurd (Value.type.inj c) (by decide)
  · exact h _ _ out hs hb (fun b o e => sortedAll_old e) (Nat.le_succ _) (sortedAll_at s.heap vs out.toArray)
/-! tuples of ints, not empty -/
theorem kat_ints {fin : Bool} : ∀ {vs us : List Value} {ns ms : List Int} {i : Nat}, IntsAre vs ns → IntsAre us ms → fin = decide (ns.length < ms.length) → PySem.W.KatLex prog w A true fin (fun r s' => s' = s ∧ r = HT.lexLt ns ms) (vs.zip us) i s
  | _, _, _, _, _, .nil, .nil, hf => by
    subst hf
    exact PySem.W.kat_nil ⟨rfl, rfl⟩
  | _, _, _, _, _, .nil, .cons m t r, hf => by
    subst hf
    refine PySem.W.kat_nil ⟨rfl, ?_⟩
    rw [List.length_nil, List.length_cons]
    exact decide_eq_true (by omega)
  | _, _, _, _, _, .cons m t r, .nil, hf => by
    subst hf
    refine PySem.W.kat_nil ⟨rfl, ?_⟩
    rw [List.length_nil, List.length_cons]
    exact decide_eq_false (by omega)
  | _, _, _, _, i, .cons x t r, .cons y u q, hf => by
    rw [List.zip_cons_cons]
    refine PySem.W.kat_cons (SeqAt.EqAt.int_int x t y u prog w _ _ ?_)
    refine PySem.W.kat_go (fun e1 => ?_) (fun e1 => ?_)
    · have ex : x = y := by simpa using e1
      rw [HT.lexLt_cons, if_pos ex]
      exact PySem.W.kat_yes (kat_ints r q (by rw [hf, List.length_cons, List.length_cons]; exact decide_eq_decide.mpr (by omega)))
    · have ex : ¬ x = y := by simpa using e1
      rw [HT.lexLt_cons, if_neg ex]
      exact PySem.W.kat_no (TS.oneLt_ints _ ⟨rfl, rfl⟩)
theorem IntsAre.len {vs : List Value} {ns : List Int} (h : IntsAre vs ns) : vs.length = ns.length := by
  induction h with
  | nil => rfl
  | cons n t _ ih => rw [List.length_cons, List.length_cons, ih]
theorem tup_cmp {vs : List Value} {k : Value → List Int} (hp : ∀ v ∈ vs, TupI s.heap v (k v)) : Cmp prog w A s (tuples' true) (fun p => p.1 ∈ vs) (lt2 fun v u => HT.lexLt (k v) (k u)) := by
  intro p q hm hm'
  obtain ⟨a, its, e, ⟨o, ho, hc, n, hd⟩, hi⟩ := hp _ hm
  obtain ⟨a', its', e', ⟨o', ho', hc', n', hd'⟩, hi'⟩ := hp _ hm'
  show wpAny (model prog w) A (keyLt' (tuples' true) p.1 q.1) (fun r s' => s' = s ∧ r = HT.lexLt (k p.1) (k q.1)) (fun _ _ => False) s
  generalize k p.1 = l1 at hi ⊢
  generalize k q.1 = l2 at hi' ⊢
  rw [e, e']
  refine PySem.W.kat_lt ho hd ho' hd' (kat_ints hi hi' ?_)
  have h1 := IntsAre.len hi
  have h2 := IntsAre.len hi'
  rw [Array.length_toList] at h1 h2
  rw [h1, h2]
theorem tup_firsts {h : Heap} {k : Value → List Int} : ∀ {vs : List Value}, (∀ v ∈ vs, TupI h v (k v) ∧ k v ≠ []) → ∃ fs : List Value, PySem.W.KatTups h vs fs ∧ fs.length = vs.length ∧ ∀ f ∈ fs, ∃ x t, f = Value.int x t
  | [], _ => ⟨[], PySem.W.KatTups.nil, rfl, fun _ hm => by simp at hm⟩
  | v :: vs, hp => by
    obtain ⟨fs, h1, h2, h3⟩ := tup_firsts (vs := vs) fun v' hm => hp v' (List.mem_cons_of_mem _ hm)
    obtain ⟨⟨a, its, e, ⟨o, ho, hc, n, hd⟩, hi⟩, hne⟩ := hp v (List.mem_cons_self ..)
    subst e
    generalize k (.ref a) = l at hi hne
    cases q : its.toList with
    | nil =>
      rw [q] at hi
      cases hi
      exact absurd rfl hne
    | cons y r =>
      rw [q] at hi
      cases hi with
      | cons x t r' =>
        refine ⟨.int x t :: fs, PySem.W.KatTups.cons ho hc hd (by rw [← Array.getElem?_toList, q]; rfl) h1, by rw [List.length_cons, List.length_cons, h2], fun f hm => ?_⟩
        rcases List.mem_cons.mp hm with rfl | hm
        · exact ⟨x, t, rfl⟩
        · exact h3 f hm
theorem tup_sortable {a : Addr} {vs : List Value} {k : Value → List Int} (h0 : 0 < vs.length) (hp : ∀ v ∈ vs, TupI s.heap v (k v) ∧ k v ≠ []) (ha : ∀ o, s.heap.get? a = some o → o.cls ≠ .type "tuple") : SortableO prog w A s a vs fun v u => HT.lexLt (k v) (k u) := by
  intro h' keep
  have hp' : ∀ v ∈ vs, TupI h' v (k v) ∧ k v ≠ [] := fun v hm => ⟨(hp v hm).1.keeps fun b o e c => keep b o (fun z => by subst z; exact ha o e c) e, (hp v hm).2⟩
  obtain ⟨fs, h1, h2, h3⟩ := tup_firsts hp'
  refine ⟨tuples' true, fun Q E hq => ?_, tup_cmp fun v hm => (hp' v hm).1⟩
  refine PySem.W.kat_kind (T := .type "int") h1 (by omega) (fun f hm => ?_) (by rfl) ?_
  · obtain ⟨x, t, rfl⟩ := h3 f hm
    exact PySem.W.Looks.now
  · have e : (Value.type "int" != Value.type "tuple") = true := by first | decide +kernel | rfl | decide
    rw [e]
    exact hq
theorem sorted_tup {l : Addr} {vs : List Value} {k : Value → List Int} {Q : Value → Shared → Prop} (hl : s.heap.IsList l vs.toArray) (hz : vs.length ≤ sizeLine) (hp : ∀ v ∈ vs, TupI s.heap v (k v) ∧ k v ≠ [])
    (h : ∀ (h' : Heap) (d : Addr) (out : List Value), Srtd (fun v u => HT.lexLt (k v) (k u)) out → Stb (fun v u => HT.lexLt (k v) (k u)) out vs → (∀ b o, s.heap.get? b = some o → h'.get? b = some o) → s.heap.objs.size ≤ d → (∃ n, h'.get? d = some (seqObj "list" out.toArray n)) → Q (.ref d) { s with heap := h' }) :
    wpAny (model prog w) A (call (.builtin "sorted") [.ref l]) Q E s := by
  refine sorted_ord (swo_lexL k) hl hz (fun h2 h₁ a ha kk => ?_) fun out hs hb => ?_
  · refine tup_sortable (s := { s with heap := h₁ }) (by omega) (fun v hm => ⟨(hp v hm).1.keeps fun b o e _ => (kk b o e).2, (hp v hm).2⟩) fun o e => ?_
    have e' : some o = some (seqObj "list" vs.toArray 0) := e.symm.trans ha
    cases e'
    intro c
    exact absurd (Value.type.inj c) (by decide)
  · exact h _ _ out hs hb (fun b o e => sortedAll_old e) (Nat.le_succ _) (sortedAll_at s.heap vs out.toArray)
end
end SoX
namespace Kw
open PySem PySem.Spec PyProof.Rows L2 Evl SoX
theorem ints_are {xs : List Int} : ∀ {us : List Value}, Vals (xs.map V.int) us → IntsAre us xs := by
  induction xs with
  | nil => intro us h; cases h; exact .nil
  | cons x r ih =>
    intro us h
    cases h with
    | cons a b =>
      obtain ⟨t, rfl⟩ := a
      exact .cons x t (ih b)
section
variable {X : Cx} {pins : List (Addr × Obj)} {σ : L2.St} {H : Hp} {s : Shared}
theorem tupI_of (I : Inv X pins σ H s) {a : Addr} {ns : List Int} (h : SqT X.K H a (ns.map V.int)) : TupI s.heap (.ref a) ns := by
  obtain ⟨its, r, p, _⟩ := I.tuple h
  exact ⟨a, its.toArray, rfl, p, ints_are r⟩
abbrev ltL (k : V → List Int) (x y : V) : Bool := HT.lexLt (k x) (k y)
/-- a pair of an int and a tuple of ints; a tuple of ints that is not empty -/
def PrAt (K : PySem.W.Frag) (H : Hp) (x : V) (l : List Int) : Prop := ∃ t u n ns, x = V.ref t ∧ SqT K H t [.int n, .ref u] ∧ SqT K H u (ns.map V.int) ∧ l = n :: ns
def TpAt (K : PySem.W.Frag) (H : Hp) (x : V) (l : List Int) : Prop := ∃ t, x = V.ref t ∧ SqT K H t (l.map V.int) ∧ l ≠ []
/-- a not behind b -/
abbrev NotB (a b : List Int) : Prop := HT.lexLt b a = false
def rSortBy (K : PySem.W.Frag) (F : PySem.W.Frag → Hp → V → List Int → Prop) : List V → Hp → VK → Prop := fun vs H Q => ∃ (a : Addr) (xs : List V) (ks : List (List Int)), vs = [V.ref a] ∧ SqL K H a xs ∧ Paired (F K H) xs ks ∧
  ∀ ys ls p, Paired (F K H) ys ls → ls.Perm ks → ls.Pairwise NotB → H p = none → Q (.ref p) (upd H p (.lst ys))
/-- sorted(xs), xs a list of pairs of an int and a tuple of ints -/
abbrev rSortPT (K : PySem.W.Frag) := rSortBy K PrAt
/-- sorted(xs), xs a list of tuples of ints, none empty -/
abbrev rSortTT (K : PySem.W.Frag) := rSortBy K TpAt
theorem ltL_swo (k : V → List Int) : SrtO.Swo (ltL k) := swo_lexL k
theorem map_inj {α β : Type} {f : α → β} (hf : ∀ x y, f x = f y → x = y) : ∀ {a b : List α}, a.map f = b.map f → a = b
  | [], [], _ => rfl
  | [], _ :: _, h => by cases h
  | _ :: _, [], h => by cases h
  | x :: a, y :: b, h => by
    have e := List.cons.inj h
    rw [hf x y e.1, map_inj hf e.2]
theorem ints_inj {a b : List Int} (h : a.map V.int = b.map V.int) : a = b := map_inj (fun x y e => V.int.inj e) h
theorem PrAt.inj (I : Inv X pins σ H s) {x : V} {l m : List Int} (h1 : PrAt X.K H x l) (h2 : PrAt X.K H x m) : l = m := by
  obtain ⟨t, u, n, ns, rfl, a1, a2, rfl⟩ := h1
  obtain ⟨t', u', n', ns', e, b1, b2, rfl⟩ := h2
  cases e
  have e1 := I.tuple_inj a1 b1
  have e2 := List.cons.inj e1
  have e3 := V.int.inj e2.1
  have e4 := V.ref.inj (List.cons.inj e2.2).1
  subst e3
  subst e4
  rw [ints_inj (I.tuple_inj a2 b2)]
theorem TpAt.inj (I : Inv X pins σ H s) {x : V} {l m : List Int} (h1 : TpAt X.K H x l) (h2 : TpAt X.K H x m) : l = m := by
  obtain ⟨t, rfl, a1, _⟩ := h1
  obtain ⟨t', e, b1, _⟩ := h2
  cases e
  exact ints_inj (I.tuple_inj a1 b1)
open Classical in
noncomputable def keyBy (F : V → List Int → Prop) (x : V) : List Int := if h : ∃ l, F x l then h.choose else []
theorem keyBy_is {F : V → List Int → Prop} (inj : ∀ x l m, F x l → F x m → l = m) {x : V} {l : List Int} (h : F x l) : keyBy F x = l := by
  unfold keyBy
  have hx : ∃ l, F x l := ⟨l, h⟩
  rw [dif_pos hx]
  exact inj _ _ _ hx.choose_spec h
theorem keys_map {F : V → List Int → Prop} (inj : ∀ x l m, F x l → F x m → l = m) : ∀ {xs : List V} {ks : List (List Int)}, Paired F xs ks → ks = xs.map (keyBy F)
  | _, _, .nil => rfl
  | _, _, .cons r t => by rw [List.map_cons, keyBy_is inj r, ← keys_map inj t]
theorem paired_mem {α β : Type} {F : α → β → Prop} : ∀ {xs : List α} {ys : List β} {x : α}, Paired F xs ys → x ∈ xs → ∃ y, F x y
  | _, _, _, .nil, h => by cases h
  | _, _, _, .cons r t, h => by
    rcases List.mem_cons.mp h with rfl | h
    · exact ⟨_, r⟩
    · exact paired_mem t h
theorem paired_keys {F : V → List Int → Prop} (inj : ∀ x l m, F x l → F x m → l = m) : ∀ {ys : List V}, (∀ y ∈ ys, ∃ l, F y l) → Paired F ys (ys.map (keyBy F))
  | [], _ => .nil
  | y :: r, h => by
    obtain ⟨l, hl⟩ := h y (List.mem_cons_self ..)
    rw [List.map_cons, keyBy_is inj hl]
    exact .cons hl (paired_keys inj fun z hz => h z (List.mem_cons_of_mem _ hz))
theorem sort_end {F : V → List Int → Prop} (inj : ∀ x l m, F x l → F x m → l = m) {xs ys : List V} {ks : List (List Int)} (h : Paired F xs ks) (h1 : SrtO.Srtd (ltL (keyBy F)) ys) (h2 : SrtO.Stb (ltL (keyBy F)) ys xs) :
    Paired F ys (ys.map (keyBy F)) ∧ (ys.map (keyBy F)).Perm ks ∧ (ys.map (keyBy F)).Pairwise NotB := by
  refine ⟨paired_keys inj fun y hy => paired_mem h (h2.perm.mem_iff.mp hy), ?_, List.pairwise_map.mpr h1⟩
  rw [keys_map inj h]
  exact h2.perm.map _
theorem cr_sortPT (hu : X.A.units + 64 < cLine) : CallR X (.builtin "sorted") (rSortPT X.K) := by
  intro pins s σ H vs us Q I r h
  obtain ⟨a, xs, ks, rfl, hs, hx, q⟩ := h
  obtain ⟨its, rv, hl, hz⟩ := I.list hs
  obtain ⟨u, rfl, ru⟩ := vals1 r
  obtain rfl : u = Value.ref a := ru
  have inj : ∀ x l m, PrAt X.K H x l → PrAt X.K H x m → l = m := fun x l m h1 h2 => PrAt.inj I h1 h2
  obtain ⟨e1, e2⟩ := refs_back rv fun x m => by
    obtain ⟨l, t, _, _, _, e, _⟩ := paired_mem hx m
    exact ⟨t, e⟩
  refine sorted_prt (k := fun u => keyBy (PrAt X.K H) (backV u)) (by omega) hl.isList (by rw [← rv.length]; exact hz) (fun v hv => ?_) fun h' d out h1 h2 kp hd hn => ?_
  · obtain ⟨t, rfl⟩ := e2 v hv
    have hm : V.ref t ∈ xs := by rw [e1]; exact List.mem_map.mpr ⟨_, hv, rfl⟩
    obtain ⟨l, hl⟩ := paired_mem hx hm
    have hk : keyBy (PrAt X.K H) (backV (.ref t)) = l := keyBy_is inj hl
    obtain ⟨t', u, n, ns, e, ht, hu2, rfl⟩ := hl
    cases e
    obtain ⟨its2, r2, p2, _⟩ := I.tuple ht
    obtain ⟨u1, u2, rfl, ri, rj⟩ := vals2 r2
    obtain ⟨t1, rfl⟩ := ri
    obtain rfl : u2 = Value.ref u := rj
    exact ⟨t, n, ns, t1, .ref u, rfl, p2, tupI_of I hu2, hk⟩
  · have h3 : ∀ u ∈ out, ∃ a, u = Value.ref a := fun u hu => e2 u (h2.perm.mem_iff.mp hu)
    obtain ⟨n, hn⟩ := hn
    have hb : SrtO.Stb (ltL (keyBy (PrAt X.K H))) (out.map backV) xs := by
      rw [e1]
      exact SrtO.Stb.map (ltL_swo _) backV h2
    obtain ⟨g1, g2, g3⟩ := sort_end inj hx (SrtO.srtd_map h1) hb
    refine ⟨.ref d, upd H d (.lst (out.map backV)), I.laid (t' := s.toks) kp hd ⟨?_, out, n, vals_back h3, hn⟩, rfl, q _ _ d g1 g2 g3 (I.hok.fresh hd)⟩
    rw [hb.len]
    exact hz
theorem cr_sortTT : CallR X (.builtin "sorted") (rSortTT X.K) := by
  intro pins s σ H vs us Q I r h
  obtain ⟨a, xs, ks, rfl, hs, hx, q⟩ := h
  obtain ⟨its, rv, hl, hz⟩ := I.list hs
  obtain ⟨u, rfl, ru⟩ := vals1 r
  obtain rfl : u = Value.ref a := ru
  have inj : ∀ x l m, TpAt X.K H x l → TpAt X.K H x m → l = m := fun x l m h1 h2 => TpAt.inj I h1 h2
  obtain ⟨e1, e2⟩ := refs_back rv fun x m => by
    obtain ⟨l, t, e, _⟩ := paired_mem hx m
    exact ⟨t, e⟩
  refine sorted_tup (k := fun u => keyBy (TpAt X.K H) (backV u)) hl.isList (by rw [← rv.length]; exact hz) (fun v hv => ?_) fun h' d out h1 h2 kp hd hn => ?_
  · obtain ⟨t, rfl⟩ := e2 v hv
    have hm : V.ref t ∈ xs := by rw [e1]; exact List.mem_map.mpr ⟨_, hv, rfl⟩
    obtain ⟨l, hl⟩ := paired_mem hx hm
    have hk : keyBy (TpAt X.K H) (backV (.ref t)) = l := keyBy_is inj hl
    obtain ⟨t', e, ht, hne⟩ := hl
    cases e
    rw [hk]
    exact ⟨tupI_of I ht, hne⟩
  · have h3 : ∀ u ∈ out, ∃ a, u = Value.ref a := fun u hu => e2 u (h2.perm.mem_iff.mp hu)
    obtain ⟨n, hn⟩ := hn
    have hb : SrtO.Stb (ltL (keyBy (TpAt X.K H))) (out.map backV) xs := by
      rw [e1]
      exact SrtO.Stb.map (ltL_swo _) backV h2
    obtain ⟨g1, g2, g3⟩ := sort_end inj hx (SrtO.srtd_map h1) hb
    refine ⟨.ref d, upd H d (.lst (out.map backV)), I.laid (t' := s.toks) kp hd ⟨?_, out, n, vals_back h3, hn⟩, rfl, q _ _ d g1 g2 g3 (I.hok.fresh hd)⟩
    rw [hb.len]
    exact hz
end
end Kw
set_option Elab.async false
set_option linter.all false
set_option maxRecDepth 100000
set_option maxHeartbeats 4000000
namespace Kw
open PySem PySem.Spec PyProof.Rows L2 Evl

theorem decLe (a b : Nat) : decide ((a : Int) ≤ ((b : Nat) : Int)) = decide (a ≤ b) := by
  by_cases h : a ≤ b
  · rw [decide_eq_true h, decide_eq_true (by omega)]
  · rw [decide_eq_false h, decide_eq_false (by omega)]
theorem nb1 {c : Bool} (h : (!true || !c) = true) : c = false := by
  cases c
  · rfl
  · cases h
theorem nb0 {c : Bool} (h : (!true || !c) = false) : c = true := by
  cases c
  · cases h
  · rfl
theorem rtt_to {te : TE} {D : Ends} {σ : L2.St} {H : Hp} (h : te σ H D.rt) : tRet te D σ H := h
theorem at_last (ys : List V) (v : V) : atI (ys ++ [v]) (-1) = some v := by
  unfold atI ixN
  rw [List.length_append, List.length_singleton]
  rw [if_neg (by decide), if_pos (by omega)]
  rw [show ((-1 : Int) + ((ys.length + 1 : Nat) : Int)).toNat = ys.length by omega]
  simp
/-! ### layings as data -/
def intOf : PyData → Int
  | .int i => i
  | _ => 0
def rgI (n : Nat) : List Int := (List.range n).map fun (i : Nat) => (i : Int)
def layI (ns : List Int) : Bool := ns.isPerm (rgI ns.length)
def layD : PyData → Bool
  | .tuple ds => (decide (1 ≤ ds.length) && decide (ds.length ≤ 30)) && (ds.all isIntD && layI (ds.map intOf))
  | _ => false
theorem layD_not {d : PyData} (h : isTupD d = false) : layD d = false := by
  cases d <;> first | rfl | cases h
theorem layI_iff {ns : List Int} : layI ns = true ↔ ns.Perm (rgI ns.length) := List.isPerm_iff
theorem rgI_sorted (n : Nat) : (rgI n).Pairwise (· ≤ ·) := by
  unfold rgI
  rw [List.pairwise_map]
  exact List.Pairwise.imp (fun {a b} h => by omega) (List.pairwise_lt_range (n := n))
theorem rgI_nodup (n : Nat) : (rgI n).Nodup := by
  unfold rgI
  rw [List.nodup_iff_pairwise_ne, List.pairwise_map]
  exact List.Pairwise.imp (fun {a b} h => by omega) (List.pairwise_lt_range (n := n))
theorem mem_rgI {n : Nat} {i : Int} : i ∈ rgI n ↔ 0 ≤ i ∧ i < n := by
  unfold rgI
  rw [List.mem_map]
  constructor
  · rintro ⟨k, h, rfl⟩
    have := List.mem_range.mp h
    omega
  · rintro ⟨h1, h2⟩
    exact ⟨i.toNat, List.mem_range.mpr (by omega), by omega⟩
theorem rgI_len (n : Nat) : (rgI n).length = n := by
  unfold rgI
  rw [List.length_map, List.length_range]
theorem sort_lay {ms ns : List Int} (hp : ms.Perm ns) (hs : ms.Pairwise (· ≤ ·)) : decide (ms = rgI ns.length) = layI ns := by
  by_cases h : ms = rgI ns.length
  · rw [decide_eq_true h]
    exact (layI_iff.mpr (h ▸ hp.symm)).symm
  · rw [decide_eq_false h]
    cases hl : layI ns with
    | false => rfl
    | true =>
      refine absurd ?_ h
      exact List.Perm.eq_of_pairwise (le := (· ≤ ·)) (fun a b _ _ h1 h2 => Int.le_antisymm h1 h2) hs (rgI_sorted _) (hp.trans (layI_iff.mp hl))
/-- by the numbers and how many unlike ones there are -/
theorem set_lay {js ns : List Int} (nd : js.Nodup) (hm : ∀ k, k ∈ js ↔ k ∈ ns) (hr : ∀ i ∈ ns, 0 ≤ i ∧ i < ns.length) : decide (js.length = ns.length) = layI ns := by
  by_cases h : js.length = ns.length
  · rw [decide_eq_true h]
    have h1 : js.Perm (rgI ns.length) := perm_of_full nd (rgI_nodup _) (fun x hx => mem_rgI.mpr (hr x ((hm x).mp hx))) (by rw [rgI_len]; omega)
    have h2 : ∀ x ∈ rgI ns.length, x ∈ ns := fun x hx => (hm x).mp (h1.mem_iff.mpr hx)
    have nn : ns.Nodup := nodup_of_count nd (fun x hx => (hm x).mp hx) (by omega)
    exact (layI_iff.mpr (perm_of_full nn (rgI_nodup _) (fun x hx => mem_rgI.mpr (hr x hx)) (by rw [rgI_len]; omega))).symm
  · rw [decide_eq_false h]
    cases hl : layI ns with
    | false => rfl
    | true =>
      refine absurd ?_ h
      have hp := layI_iff.mp hl
      have nn : ns.Nodup := hp.nodup_iff.mpr (rgI_nodup _)
      exact ((List.perm_ext_iff_of_nodup nd nn).mpr hm).length_eq
section
variable {P : Program} {w : World} {K : PySem.W.Frag} {mg : Str → Option Value} {base : Heap} {H : Hp} {σ : L2.St}
theorem dpA_ints : ∀ {xs : List V} {ds : List PyData}, DpAll K H xs ds → ds.all isIntD = true → xs = (ds.map intOf).map V.int
  | _, [], h, _ => by cases h; rfl
  | _, d :: ds, h, ha => by
    cases h with
    | cons a b =>
      rw [List.all_cons, Bool.and_eq_true] at ha
      cases d <;> first | cases ha.1 | skip
      cases a
      rw [dpA_ints b ha.2]
      rfl
theorem dp_ints : ∀ ns : List Int, DpAll K H (ns.map V.int) (ns.map PyData.int)
  | [] => .nil
  | a :: r => .cons (.int _) (dp_ints r)
theorem shaped_lI (ns : List Int) : SeqAt.shaped (.list (ns.map PyData.int)) = true := by
  have h1 := SoX.depth_ints ns
  refine Bool.and_eq_true_iff.mpr ⟨?_, decide_eq_true ?_⟩
  · rw [PyData.canLay0]
    exact SoX.lay_ints ns
  · rw [PyData.depth]
    omega
theorem rv_eqLI {p q : Addr} {a b : List Int} (h1 : SqL K H p (a.map V.int)) (h2 : SqL K H q (b.map V.int)) : RV (rEqD K) (.ref p) (.ref q) H (.bl (decide (a = b))) := fun H1 e Q k =>
  ⟨_, _, .lst (ex_l e h1) (dp_ints a), .lst (ex_l e h2) (dp_ints b), shaped_lI a, shaped_lI b, by
    rw [show PyData.eqv (.list (a.map PyData.int)) (.list (b.map PyData.int)) = decide (a = b) by rw [PyData.eqv, SoX.eqv_ints]]
    exact k H1 (Ex.refl H1)⟩
theorem rg_vN (n : Nat) : (List.range n).map vN = (rgI n).map V.int := by
  unfold rgI
  rw [List.map_map]
  rfl
theorem dN_all : ∀ ns : List Nat, (dN ns).all isIntD = true
  | [] => rfl
  | a :: r => by show (true && (dN r).all isIntD) = true; rw [dN_all r]; rfl
theorem dN_intOf (ns : List Nat) : (dN ns).map intOf = ns.map fun (i : Nat) => (i : Int) := by
  unfold dN
  rw [List.map_map]
  rfl
theorem dN_len (ns : List Nat) : (dN ns).length = ns.length := List.length_map ..
theorem layD_ok {lay : List Nat} (h : IsLay lay) (h1 : 1 ≤ lay.length) (h2 : lay.length ≤ 30) : layD (.tuple (dN lay)) = true := by
  show ((decide (1 ≤ (dN lay).length) && decide ((dN lay).length ≤ 30)) && ((dN lay).all isIntD && layI ((dN lay).map intOf))) = true
  rw [dN_all, dN_intOf, dN_len, decide_eq_true h1, decide_eq_true h2, layI_iff.mpr]
  · rfl
  · rw [List.length_map]
    exact h.map _
/-! ### tuples whose object is known -/
theorem nt_ex {H H' : Hp} {p : Addr} {xs : List V} (e : Ex H H') (h : KwZ.NT H p xs) : KwZ.NT H' p xs := by
  obtain ⟨its, h⟩ := h
  exact ⟨its, e _ _ h⟩
def RetF (xs : List V) (H : Hp) (Q : VK) : Prop := ∀ p H2, H p = none → Ex H H2 → KwZ.NT H2 p xs → Q (.ref p) H2
def EvF (te : TE) (σ : L2.St) (H : Hp) (xs : List V) : Prop := ∀ H1, Ex H H1 → ∀ Q : VK, (∀ p H2, H1 p = none → Ex H1 H2 → KwZ.NT H2 p xs → Q (.ref p) H2) → te σ H1 Q
theorem ef_tupL {ta : TE} {p : Addr} {xs : List V} (ha : Ev ta σ H (.ref p)) (h : SqL K H p xs) : EvF (tCB (KwZ.rTupF K) (tCons ta tNil)) σ H xs := fun H1 e Q q =>
  ha H1 e _ fun H2 e2 => ⟨p, xs, rfl, ex_l (e.trans e2) h, fun l its hl => q l _ (fresh_back e2 hl) (e2.trans (Ex.new hl)) ⟨its, upd_same⟩⟩
theorem ef_call {sp : Sp} {vs xs : List V} {E : XK} {ta : TA} (h : EvA ta σ H vs) (hs : ∀ H1, Ex H H1 → ∀ Q : VK, RetF xs H1 Q → ∀ E, sp vs H1 Q E) : EvF (tCall sp [] E ta) σ H xs := fun H1 e Q q =>
  h H1 e _ fun H2 e2 => by
    rw [List.append_nil]
    exact hs H2 (e.trans e2) Q (fun p H3 hp e3 h3 => q p H3 (fresh_back e2 hp) (e2.trans e3) h3) E
theorem q_asgF {te : TE} {D : Ends} {tz : TS} {i : Nat} {xs : List V} (h : EvF te σ H xs) (k : ∀ p H1, H p = none → Ex H H1 → KwZ.NT H1 p xs → tz D (σ.set i (some (.ref p))) H1) : tSeq (tAsg te (gName i)) tz D σ H := h H (Ex.refl H) _ k
/-! ### is_laying -/
def spIsL (K : PySem.W.Frag) : Sp := fun vs H Q _ => ∃ (v : V) (d : PyData), vs = [v] ∧ Dp K H v d ∧ RetV (.bl (layD d)) H Q
def spChL (K : PySem.W.Frag) : Sp := fun vs H Q _ => ∃ (v : V) (d : PyData), vs = [v] ∧ Dp K H v d ∧ layD d = true ∧ RetV .non H Q
def spRdF (K : PySem.W.Frag) : Sp := fun vs H Q _ => ∃ (a : Addr) (lay : List Nat) (i : Nat), vs = [.ref a, vN i] ∧ SqT K H a (lay.map vN) ∧ IsLay lay ∧ lay.length ≤ 30 ∧ i < lay.length ∧ RetU ((orb lay i).map vN) H Q
theorem at_lay {lay : List Nat} {i : Nat} (h : i < lay.length) : atI (lay.map vN) (i : Int) = some (vN (nx lay i)) := atI_nat (by rw [List.getElem?_map, nx_get h]; rfl)
def spRdO (K : PySem.W.Frag) : Sp := fun vs H Q _ => ∃ (a : Addr) (lay : List Nat), vs = [.ref a] ∧ SqT K H a (lay.map vN) ∧ IsLay lay ∧ 1 ≤ lay.length ∧ lay.length ≤ 30 ∧ ∀ p ys H2, H p = none → Ex H H2 → H2 p = some (.lst ys) → TupsAt K H2 ys (cycles lay) → Q (.ref p) H2
theorem dp_lay {a : Addr} {lay : List Nat} (h : SqT K H a (lay.map vN)) : Dp K H (.ref a) (.tuple (dN lay)) := .tup h (dp_nats lay)
theorem cycs_len (lay : List Nat) (n : Nat) : (cycs lay n).length ≤ n := by
  unfold cycs
  rw [List.length_map]
  have := List.length_filter_le (fun i => !inB lay i i) (List.range n)
  rw [List.length_range] at this
  exact this
theorem tups_app {ys : List V} {rs : List (List Nat)} {p : Addr} {r : List Nat} (h : TupsAt K H ys rs) (hp : SqT K H p (r.map vN)) : TupsAt K H (ys ++ [.ref p]) (rs ++ [r]) := paired_app h ⟨p, rfl, hp⟩
theorem KeepT.set {H : Hp} {p : Addr} {f : Heap → Prop} {o : HO} (h : H p = some (.ext f)) : KeepT H (upd H p o) := fun b zs r => by
  have nb : b ≠ p := by
    rintro rfl
    rcases r with r | ⟨o, r⟩
    · rw [h] at r; cases r
    · rw [h] at r; cases r
  rcases r with r | ⟨o, r⟩
  · exact .inl (by rw [upd_ne nb]; exact r)
  · exact .inr ⟨o, by rw [upd_ne nb]; exact r⟩
end
end Kw
set_option Elab.async false
set_option linter.all false
set_option maxRecDepth 100000
set_option maxHeartbeats 4000000
namespace Kw
open PySem PySem.Spec PyProof.Rows L2 Evl

section
variable {P : Program} {w : World} {K : PySem.W.Frag} {mg : Str → Option Value} {base : Heap} {H : Hp} {σ : L2.St}
end
end Kw
set_option Elab.async false
set_option linter.all false
set_option maxRecDepth 100000
set_option maxHeartbeats 4000000
namespace Kw
open PySem PySem.Spec PyProof.Rows L2 Evl
abbrev sCyc : Stmt := topS 31
theorem scCyc : FnScope ["laying", "found", "seen", "box", "row", "here"] ["laying"] (defScope sCyc) := ⟨rfl, rfl, rfl, by decide +kernel, rfl, by decide +kernel, by decide +kernel⟩
section
variable {P : Program} {w : World} {K : PySem.W.Frag} {mg : Str → Option Value} {base : Heap} {H : Hp} {σ : L2.St}
/-! ### _law_mixed, _law_laid -/
def spMix (K : PySem.W.Frag) : Sp := fun vs H Q _ => ∃ (b : Addr) (m : Nat), vs = [.ref b, vN m] ∧ Bag H b ∧ m ≤ 40 ∧ ∀ (p : Addr) (ms : List Nat) (H' : Hp), H p = none → ExB b H H' → Bag H' b → H' p = some (.tup (ms.map vN)) → ms.Perm ((List.range m).map (· + 1)) → Q (.ref p) H'
theorem Bag.upd {H : Hp} {b f : Addr} {xs ys : List V} (h : Bag H b) (hf : H f = some (.lst xs)) (hl : xs.length ≠ 400) (hb : f ≠ b) : Bag (upd H f (.lst ys)) b := by
  obtain ⟨d, n, zs, g1, g2, g3⟩ := h
  refine ⟨d, n, zs, by rw [upd_ne (Ne.symm hb)]; exact g1, ?_, g3⟩
  have : d ≠ f := fun z => by
    rw [z, hf] at g2
    have e := congrArg List.length (HO.lst.inj (Option.some.inj g2))
    rw [List.length_map, g3.1] at e
    exact hl e
  rw [upd_ne this]
  exact g2
theorem ExB.updN {a f : Addr} {H H' : Hp} {o : HO} (e : ExB a H H') (hf : H f = none) : ExB a H (upd H' f o) := fun b u nb hb => by
  have : b ≠ f := ne_of_none hb hf
  rw [upd_ne this]
  exact e b u nb hb
theorem bag_ne {H : Hp} {b f : Addr} (h : Bag H b) (hf : H f = none) : f ≠ b := fun z => by
  obtain ⟨d, n, zs, g1, _⟩ := h
  rw [z, g1] at hf
  cases hf
theorem perm_ins {α : Type} (xs : List α) (y : α) (k : Nat) : (xs.take k ++ [y] ++ xs.drop k).Perm (xs ++ [y]) := by
  have h1 : (xs.take k ++ [y] ++ xs.drop k).Perm (y :: (xs.take k ++ xs.drop k)) := by
    rw [List.append_assoc]
    exact List.perm_middle
  rw [List.take_append_drop] at h1
  exact h1.trans (List.perm_append_singleton y xs).symm
def spLaid (K : PySem.W.Frag) : Sp := fun vs H Q _ => ∃ (b : Addr) (m : Nat), vs = [.ref b, vN m] ∧ Bag H b ∧ m ≤ 40 ∧ ∀ (p : Addr) (lay : List Nat) (H' : Hp), H p = none → ExB b H H' → Bag H' b → KwZ.NT H' p (lay.map vN) → IsLay lay → lay.length = m → Q (.ref p) H'
theorem lcT_src {tl : TE} {g : TG} {tt : TT} {te : TE} {vs : List Nat} {σ : L2.St} {H : Hp} {Q : VK} (h : tl σ H fun v H1 => ∃ a, v = .ref a ∧ (∃ xs, SqT K H1 a xs) ∧ tLc (fun _ H R => R (Itt K a) H) g tt te vs σ H1 Q) : tLc (iTup K tl) g tt te vs σ H Q := h
theorem cbT_to {r : List V → Hp → VK → Prop} {te : TE} {σ : L2.St} {H : Hp} {Q : VK} (h : te σ H fun v H1 => r [v] H1 Q) : tCB r (tCons te tNil) σ H Q := h
theorem callT_src {sp : Sp} {ta : TA} {E : XK} {vs : List V} {Q : VK} {σ : L2.St} {H : Hp} (h : EvA ta σ H vs) (k : ∀ H1, Ex H H1 → sp vs H1 Q E) : tCall sp [] E ta σ H Q := h H (Ex.refl H) _ fun H1 e => by
  rw [List.append_nil]
  exact k H1 e
theorem ew_itt {a : Addr} {xs : List V} (hs : SqT K H a xs) : EvW (fun _ H R => R (Itt K a) H) σ H xs.length (YAt xs) := fun H1 e R r => r (Itt K a) (fun H => SqT K H a xs) H1 (Ex.refl H1) walk_tup fun H3 e3 => ex_t (e.trans e3) hs
theorem lay_of_mixed {ms : List Nat} {m : Nat} (h : ms.Perm ((List.range m).map (· + 1))) : IsLay (ms.map (· - 1)) ∧ (ms.map (· - 1)).length = m := by
  have hl : ms.length = m := by rw [h.length_eq, List.length_map, List.length_range]
  have h2 := h.map (· - 1)
  rw [List.map_map] at h2
  have e : (List.range m).map ((fun x => x - 1) ∘ fun x => x + 1) = List.range m := by
    conv => rhs; rw [← List.map_id (List.range m)]
    apply List.map_congr_left
    intro a _
    show a + 1 - 1 = a
    omega
  rw [e] at h2
  refine ⟨?_, by rw [List.length_map, hl]⟩
  show (ms.map (· - 1)).Perm (List.range (ms.map (· - 1)).length)
  rw [List.length_map, hl]
  exact h2
theorem q_parLL {σ : L2.St} {H : Hp} {D : Ends} {tz : TS} {ta tb : TE} {i j : Nat} {xs ys : List V} (h1 : EvL ta σ H xs) (h2 : ∀ H1, Ex H H1 → EvL tb σ H1 ys)
    (k : ∀ p q H1 H2, H p = none → Ex H H1 → H1 p = some (.lst xs) → H1 q = none → Ex H1 H2 → H2 q = some (.lst ys) → tz D ((σ.set i (some (.ref p))).set j (some (.ref q))) H2) : tSeq (tPar i j (tCons ta (tCons tb tNil))) tz D σ H :=
  h1 H (Ex.refl H) _ fun p H1 np e1 hp => h2 H1 e1 H1 (Ex.refl H1) _ fun q H2 nq e2 hq => ⟨.ref p, .ref q, rfl, k p q H1 H2 np e1 hp nq e2 hq⟩
theorem q_parLV {σ : L2.St} {H : Hp} {D : Ends} {tz : TS} {ta tb : TE} {i j : Nat} {xs : List V} {v : V} (h1 : EvL ta σ H xs) (h2 : Ev tb σ H v)
    (k : ∀ p H2, H p = none → Ex H H2 → H2 p = some (.lst xs) → tz D ((σ.set i (some (.ref p))).set j (some v)) H2) : tSeq (tPar i j (tCons ta (tCons tb tNil))) tz D σ H :=
  h1 H (Ex.refl H) _ fun p H1 np e1 hp => h2 H1 e1 _ fun H2 e2 => ⟨.ref p, v, rfl, k p H2 np (e1.trans e2) (e2 _ _ hp)⟩
/-! ### _law_cycles -/
def spCyc (K : PySem.W.Frag) : Sp := fun vs H Q _ => ∃ (a : Addr) (lay : List Nat), vs = [.ref a] ∧ SqT K H a (lay.map vN) ∧ IsLay lay ∧ lay.length ≤ 30 ∧ ∀ p ys H2, H p = none → Ex H H2 → H2 p = some (.lst ys) → TupsAt K H2 ys (cycles lay) → Q (.ref p) H2
def upto (lay : List Nat) (i k : Nat) : List Nat := (List.range k).map fun j => it lay j i
theorem upto_succ (lay : List Nat) (i k : Nat) : upto lay i (k + 1) = upto lay i k ++ [it lay k i] := by
  unfold upto
  rw [List.range_succ, List.map_append]
  rfl
theorem upto_len (lay : List Nat) (i k : Nat) : (upto lay i k).length = k := by
  unfold upto
  rw [List.length_map, List.length_range]
theorem mem_upto {lay : List Nat} {i k y : Nat} : y ∈ upto lay i k ↔ ∃ j, j < k ∧ it lay j i = y := by
  unfold upto
  rw [List.mem_map]
  exact ⟨fun ⟨j, h1, h2⟩ => ⟨j, List.mem_range.mp h1, h2⟩, fun ⟨j, h1, h2⟩ => ⟨j, List.mem_range.mpr h1, h2⟩⟩
def stopAt (lay : List Nat) (i : Nat) : Nat := if inB lay i i then 0 else per lay i
theorem stop_in {lay : List Nat} (hL : IsLay lay) {i k : Nat} (hi : i < lay.length) {ss : List Nat} (hss : ∀ y, y ∈ ss ↔ inB lay i y = true) (hk : k ≤ stopAt lay i) : decide (it lay k i ∈ ss ++ upto lay i k) = decide (k = stopAt lay i) := by
  unfold stopAt at hk ⊢
  cases hb : inB lay i i with
  | true =>
    rw [hb] at hk
    have hk0 : k = 0 := by simpa using hk
    subst hk0
    rw [if_pos rfl, show decide (0 = 0) = true from rfl]
    exact decide_eq_true (List.mem_append.mpr (.inl ((hss _).mpr hb)))
  | false =>
    rw [hb, if_neg (by decide)] at hk
    rw [if_neg (by decide)]
    obtain ⟨p1, p2, p3, p4⟩ := hL.per hi
    by_cases z : k = per lay i
    · rw [decide_eq_true z, decide_eq_true]
      rw [z]
      exact List.mem_append.mpr (.inr (mem_upto.mpr ⟨0, by omega, by rw [p3]; rfl⟩))
    · rw [decide_eq_false z, decide_eq_false]
      intro hm
      rcases List.mem_append.mp hm with hm | hm
      · have := (hss _).mp hm
        rw [hL.new hi hb k] at this
        cases this
      · obtain ⟨j, j1, j2⟩ := mem_upto.mp hm
        exact hL.it_ne hi j1 (by omega) j2
theorem ok_cyc {f  : Addr} {fd  : FuncData} {k : Nat} (F : Fun K "_law_cycles" "_law_cycles" sCyc f fd) (B : Bu mg) : FnOk P w K mg base CX0 (k + 1) f fd ["laying"] (spCyc K) := by
  refine F.ok scCyc (fun vs H Q E h => ?_) (fun cdv A outer s H vs Q E hr h => ?_)
  · obtain ⟨a, lay, rfl, _⟩ := h
    rfl
  · obtain ⟨a, lay, rfl, hS, hL, h30, q⟩ := h
    have hu64 := hr.units
    refine ⟨_, (pss_cons (ps_par (i := 1) (j := 2) (by rfl) scCyc.nd rfl rfl (by decide) rfl rfl (pa_cons (pe_lst pa_nil) (pa_cons (pe_lst pa_nil) pa_nil)) (by rfl))
      (pss_cons (ps_for PassesOwn.never rfl (pi_range1 (by rfl) B.rng (pa_cons (pe_callB call_len_seq (by rfl) B.len PySem.boot_len (pa_cons (pv 0) pa_nil)) pa_nil)) (pg_name (i := 3) scCyc.nd rfl (.inl rfl))
      (pss_cons (ps_par (i := 4) (j := 5) (by rfl) scCyc.nd rfl rfl (by decide) rfl rfl (pa_cons (pe_lst pa_nil) (pa_cons (pv 3) pa_nil)) (by rfl))
      (pss_cons (ps_while PassesOwn.never (pt_cmpR op_notIn_seq (pv 5) (pv 2) (by rfl)) (pss_cons (ps_expr (pe_bm PySem.F.plainAttrs_list PySem.F.slot_list_append PySem.F.type_list_append mt_append (pv 2) (pa_cons (pv 5) pa_nil)))
      (pss_cons (ps_expr (pe_bm PySem.F.plainAttrs_list PySem.F.slot_list_append PySem.F.type_list_append mt_append (pv 4) (pa_cons (pv 5) pa_nil)))
      (pss_one (ps_set (i := 5) scCyc.nd rfl (.inl rfl) (pe_ix ix_tup (pv 0) (pv 5) (fun _ _ => rfl)))))))
      (pss_one (ps_if (pt_cmpR (op_neD hu64) (pv 4) (pe_lst pa_nil) (nomark _)) (pss_one (ps_expr (pe_bm PySem.F.plainAttrs_list PySem.F.slot_list_append PySem.F.type_list_append mt_append (pv 1) (pa_cons (pe_callTy call_tupOf (by rfl) B.tup boot_tuple (pa_cons (pv 4) pa_nil)) pa_nil)))) pss_nil)))))
      (pss_one (ps_ret (pv 1))))), ?_⟩
    refine q_parLL (xs := []) (ys := []) (el_lst ea_nil (by decide)) (fun H1 e1 => el_lst ea_nil (by decide)) fun fl sl H1 H2 nf e1 hf nl e2 hl => ?_
    have nsl : H sl = none := fresh_back e1 nl
    have hfs : fl ≠ sl := ne_of_none hf nl
    refine q_forR1 (σ := [some (.ref a), some (.ref fl), some (.ref sl), none, none, none]) (n := (lay.length : Int)) (ea_cons (ev_is (ev_lenT (K := K) (ev_var (v := .ref a) rfl) (ex_t (e1.trans e2) hS)) (by rw [List.length_map])) ea_nil) ⟨by omega, by omega⟩
      (fun i σ' H' => ∃ (y3 y4 y5 : Option V) (ys : List V) (ss : List Nat), σ' = [some (.ref a), some (.ref fl), some (.ref sl), y3, y4, y5] ∧ Ex H H' ∧ H' fl = some (.lst ys) ∧ TupsAt K H' ys (cycs lay i) ∧ H' sl = some (.lst (ss.map vN)) ∧ (∀ y, y ∈ ss ↔ inB lay i y = true) ∧ ss.length ≤ 30 * i)
      (fun Ha ea => ⟨none, none, none, [], [], rfl, (e1.trans e2).trans ea, ea _ _ (e2 _ _ hf), .nil, ea _ _ hl, fun y => ⟨fun h => (by cases h), fun h => (by cases h)⟩, Nat.zero_le _⟩) (fun i σ' H' hi hP => ?_) (fun σ' H' hP => ?_)
    · obtain ⟨y3, y4, y5, ys, ss, rfl, eH, hF, hT, hs, hss, hn⟩ := hP
      have hi' : i < lay.length := by omega
      have hyl : ys.length ≤ i := by
        rw [show ys.length = _ from paired_len hT]
        exact cycs_len lay i
      refine q_parLV (σ := [some (.ref a), some (.ref fl), some (.ref sl), some (.int (i : Int)), y4, y5]) (xs := []) (v := .int (i : Int)) (el_lst ea_nil (by decide)) (ev_var rfl) fun r Hb nr eb hr' => ?_
      have nr0 : H r = none := fresh_back eH nr
      have hrs : r ≠ sl := fun z => by rw [z, hs] at nr; cases nr
      have hrf : r ≠ fl := fun z => by rw [z, hF] at nr; cases nr
      have hst : stopAt lay i ≤ 30 := by
        unfold stopAt
        split
        · omega
        · have := (hL.per hi').2.1
          omega
      refine q_while (σ := [some (.ref a), some (.ref fl), some (.ref sl), some (.int (i : Int)), some (.ref r), some (.int (i : Int))]) (fun m σ' H2 => ∃ k, k ≤ stopAt lay i ∧ m = stopAt lay i - k ∧ σ' = [some (.ref a), some (.ref fl), some (.ref sl), some (.int (i : Int)), some (.ref r), some (vN (it lay k i))] ∧ Ex H H2 ∧ KeepT H' H2 ∧ H2 fl = some (.lst ys) ∧ H2 r = some (.lst ((upto lay i k).map vN)) ∧ H2 sl = some (.lst ((ss ++ upto lay i k).map vN)))
        (stopAt lay i) ⟨0, Nat.zero_le _, rfl, rfl, eH.trans eb, KeepT.ex eb, eb _ _ hF, hr', by rw [show upto lay i 0 = [] from rfl, List.append_nil]; exact eb _ _ hs⟩ (fun m σ' H2 hW => ?_)
      obtain ⟨k, k1, rfl, rfl, eH2, kT, hF2, hr2, hs2⟩ := hW
      refine ⟨!decide (it lay k i ∈ ss ++ upto lay i k), et_is (et_test (ev_op (ev_var (v := vN (it lay k i)) rfl) (ev_var (v := .ref sl) rfl) (rv_niL (K := K) (sq_of hs2) rfl (flat_nats _)))) (by rw [inV_nat]), fun hb H3 e3 => ?_, fun hb H3 e3 => ?_⟩
      · rw [stop_in hL hi' hss k1] at hb
        have hk : k < stopAt lay i := by
          have : ¬ k = stopAt lay i := by simpa using hb
          omega
        refine ⟨fun σ2 H4 => ∃ k', k < k' ∧ k' ≤ stopAt lay i ∧ σ2 = [some (.ref a), some (.ref fl), some (.ref sl), some (.int (i : Int)), some (.ref r), some (vN (it lay k' i))] ∧ Ex H H4 ∧ KeepT H' H4 ∧ H4 fl = some (.lst ys) ∧ H4 r = some (.lst ((upto lay i k').map vN)) ∧ H4 sl = some (.lst ((ss ++ upto lay i k').map vN)), fun σ2 H4 ⟨k', z1, z2, z3, z4, z5, z6, z7, z8⟩ => ⟨stopAt lay i - k', by omega, k', z2, rfl, z3, z4, z5, z6, z7, z8⟩, ?_⟩
        have ul := upto_len lay i k
        refine q_app (K := K) (σ := [some (.ref a), some (.ref fl), some (.ref sl), some (.int (i : Int)), some (.ref r), some (vN (it lay k i))]) (v := vN (it lay k i)) (e3 _ _ hs2) (ev_var rfl) (ev_var rfl) (by rw [List.length_map, List.length_append]; omega) fun H4 e4 => ?_
        have e34 := e3.trans e4
        have hs4 := e34 _ _ hs2
        have x1 : Ex H (upd H4 sl (.lst ((ss ++ upto lay i k).map vN ++ [vN (it lay k i)]))) := Ex.mut (eH2.trans e34) nsl
        have x2 : KeepT H' (upd H4 sl (.lst ((ss ++ upto lay i k).map vN ++ [vN (it lay k i)]))) := (kT.trans (KeepT.ex e34)).trans (KeepT.lst hs4)
        have x3 : upd H4 sl (.lst ((ss ++ upto lay i k).map vN ++ [vN (it lay k i)])) fl = some (.lst ys) := by rw [upd_ne hfs]; exact e34 _ _ hF2
        have x4 : upd H4 sl (.lst ((ss ++ upto lay i k).map vN ++ [vN (it lay k i)])) r = some (.lst ((upto lay i k).map vN)) := by rw [upd_ne hrs]; exact e34 _ _ hr2
        have x5 : upd H4 sl (.lst ((ss ++ upto lay i k).map vN ++ [vN (it lay k i)])) sl = some (.lst ((ss ++ upto lay i (k + 1)).map vN)) := by
          rw [upd_same, upto_succ, ← List.append_assoc, List.map_append (l₁ := ss ++ upto lay i k)]
          rfl
        generalize upd H4 sl (.lst ((ss ++ upto lay i k).map vN ++ [vN (it lay k i)])) = H5 at x1 x2 x3 x4 x5
        refine q_app (K := K) (σ := [some (.ref a), some (.ref fl), some (.ref sl), some (.int (i : Int)), some (.ref r), some (vN (it lay k i))]) (v := vN (it lay k i)) x4 (ev_var rfl) (ev_var rfl) (by rw [List.length_map]; omega) fun H6 e6 => ?_
        have y1 : Ex H (upd H6 r (.lst ((upto lay i k).map vN ++ [vN (it lay k i)]))) := Ex.mut (x1.trans e6) nr0
        refine s_asg (σ := [some (.ref a), some (.ref fl), some (.ref sl), some (.int (i : Int)), some (.ref r), some (vN (it lay k i))]) (v := vN (it lay (k + 1) i)) (ev_op (ev_var (v := .ref a) rfl) (ev_var (v := vN (it lay k i)) rfl) (rv_ixT (K := K) (ex_t y1 hS) (at_lay (hL.it_lt hi' k)))) fun H7 e7 => ?_
        refine ⟨k + 1, by omega, by omega, rfl, y1.trans e7, ((x2.trans (KeepT.ex e6)).trans (KeepT.lst (e6 _ _ x4))).trans (KeepT.ex e7), e7 _ _ (by rw [upd_ne (Ne.symm hrf)]; exact e6 _ _ x3), e7 _ _ ?_, e7 _ _ (by rw [upd_ne (Ne.symm hrs)]; exact e6 _ _ x5)⟩
        rw [upd_same, upto_succ, List.map_append]
        rfl
      · rw [stop_in hL hi' hss k1] at hb
        have hk : k = stopAt lay i := by simpa using hb
        have hnil : decide (upto lay i k = ([] : List Nat)) = inB lay i i := by
          rw [hk]
          unfold stopAt
          cases hb' : inB lay i i with
          | true => rfl
          | false =>
            rw [if_neg (by decide)]
            refine decide_eq_false fun z => ?_
            have := congrArg List.length z
            rw [upto_len] at this
            have := (hL.per hi').1
            simp at *
            omega
        refine s_when (σ := [some (.ref a), some (.ref fl), some (.ref sl), some (.int (i : Int)), some (.ref r), some (vN (it lay k i))]) (b := !inB lay i i) (et_is (et_test (ev_opL (xs := ([] : List Nat).map vN) (ev_var (v := .ref r) rfl) (el_lst ea_nil (by decide)) fun p H4 hp e4 => rv_neLN (K := K) (sq_of ((e3.trans e4) _ _ hr2)) (sq_of hp))) (by rw [hnil])) (fun hb H4 e4 => ?_) (fun hb H4 e4 => ?_)
        · have hnew : inB lay i i = false := by simpa using hb
          have hk2 : k = per lay i := by
            rw [hk]
            unfold stopAt
            rw [hnew]
            rfl
          subst hk2
          have hup : upto lay i (per lay i) = orb lay i := rfl
          rw [hup] at hr2 hs2
          refine s_appU (K := K) (σ := [some (.ref a), some (.ref fl), some (.ref sl), some (.int (i : Int)), some (.ref r), some (vN (it lay (per lay i) i))]) (ys := (orb lay i).map vN) (e4 _ _ (e3 _ _ hF2)) (ev_var rfl) (eu_tupL (K := K) (ev_var (v := .ref r) rfl) (sq_of (e4 _ _ (e3 _ _ hr2)))) (by omega) fun p H5 np e5 h5 => ?_
          have e35 := (e3.trans e4).trans e5
          have kk := KeepT.lst (ys := ys ++ [.ref p]) (e35 _ _ hF2)
          refine ⟨_, _, _, ys ++ [.ref p], ss ++ orb lay i, rfl, Ex.mut (eH2.trans e35) nf, upd_same, ?_, by rw [upd_ne (Ne.symm hfs)]; exact e35 _ _ hs2, fun y => ?_, ?_⟩
          · rw [cycs_succ, hnew]
            exact tups_app ((hT.keep (kT.trans (KeepT.ex e35))).keep kk) (keep_t kk (st_of h5))
          · rw [inB_succ, List.mem_append, hss y, Bool.or_eq_true, decide_eq_true_eq]
          · rw [List.length_append]
            have : (orb lay i).length = per lay i := upto_len lay i (per lay i)
            have := (hL.per hi').2.1
            omega
        · have hold : inB lay i i = true := by simpa using hb
          have hk0 : k = 0 := by
            rw [hk]
            unfold stopAt
            rw [hold]
            rfl
          subst hk0
          rw [show upto lay i 0 = [] from rfl, List.append_nil] at hs2
          have e34 := e3.trans e4
          refine ⟨_, _, _, ys, ss, rfl, eH2.trans e34, e34 _ _ hF2, ?_, e34 _ _ hs2, fun y => ?_, by omega⟩
          · rw [cycs_succ, hold]
            exact hT.keep (kT.trans (KeepT.ex e34))
          · rw [hL.old hi' hold]
            exact hss y
    · obtain ⟨y3, y4, y5, ys, ss, rfl, eH, hF, hT, hs, hss, hn⟩ := hP
      rw [Int.toNat_natCast] at hT
      exact s_ret (v := .ref fl) (ev_var rfl) fun H2 e2 => q fl ys H2 nf (eH.trans e2) (e2 _ _ hF) (hT.keep (KeepT.ex e2))
end
end Kw
set_option Elab.async false
set_option linter.all false
set_option maxRecDepth 100000
set_option maxHeartbeats 4000000
namespace Kw
open PySem PySem.Spec PyProof.Rows L2 Evl KwX NdefX LamX
section
variable {P : Program} {w : World} {K : PySem.W.Frag} {mg : Str → Option Value} {base : Heap}
/-! ### what is no laying: NoLaying -/
def spChLX (K : PySem.W.Frag) (C : Addr) : Sp := fun vs H _ E => ∃ (v : V) (d : PyData), vs = [v] ∧ Dp K H v d ∧ layD d = false ∧ ∀ H', Ex H H' → E (.ref C) none H'
def spRdOX (K : PySem.W.Frag) (C : Addr) : Sp := fun vs H _ E => ∃ (v : V) (d : PyData), vs = [v] ∧ Dp K H v d ∧ layD d = false ∧ ∀ H', Ex H H' → E (.ref C) none H'
end
section
variable {K : PySem.W.Frag} {σ : L2.St} {H H' : Hp} {ta tb te tl : TE}
theorem eu_tupR {n : Nat} (ha : Ev ta σ H (.int n)) (hn : n ≤ 100000) : EvU (tTupRg (tRg1 ta)) σ H ((List.range n).map vN) := fun H1 e Q q =>
  ha H1 e _ fun H2 e2 => ⟨n, rfl, RgOk.of_le (by omega) (by omega) (by omega) (by omega), fun p hp => q p _ (fresh_back e2 hp) (e2.trans (Ex.new hp)) (by rw [rgV_nat]; exact upd_same)⟩
/-- all but the last -/
theorem cut_last (ys : List V) (v : V) : cutV (ys ++ [v]) none (some (-1)) = ys := by
  unfold cutV HT.sIx
  rw [List.length_append, List.length_singleton]
  show List.take ((if (-1 : Int) < 0 then ((-1 : Int) + ((ys.length + 1 : Nat) : Int)).toNat else _) - 0) (List.drop 0 (ys ++ [v])) = ys
  rw [if_pos (by decide), show ((-1 : Int) + ((ys.length + 1 : Nat) : Int)).toNat = ys.length by omega, Nat.sub_zero, List.drop_zero]
  simp
theorem rv_eqLR {p q : Addr} {ys zs : List V} {a b : List (List Nat)} (h1 : SqL K H p ys) (t1 : TupsAt K H ys a) (h2 : SqL K H q zs) (t2 : TupsAt K H zs b) : RV (rEqD K) (.ref p) (.ref q) H (.bl (decide (a = b))) := fun H1 e Q k =>
  ⟨_, _, .lst (ex_l e h1) (dp_tups (t1.keep (KeepT.ex e))), .lst (ex_l e h2) (dp_tups (t2.keep (KeepT.ex e))), shaped_lR a, shaped_lR b, by
    rw [show PyData.eqv (.list (dR a)) (.list (dR b)) = decide (a = b) by rw [PyData.eqv, eqv_dR]]
    exact k H1 (Ex.refl H1)⟩
/-- displays of tuples of numbers -/
def EvTs (K : PySem.W.Frag) (ta : TA) (σ : L2.St) (H : Hp) (rs : List (List Nat)) : Prop := ∀ H1, Ex H H1 → ∀ Q : List V → Hp → Prop, (∀ vs H2, Ex H1 H2 → TupsAt K H2 vs rs → Q vs H2) → ta σ H1 Q
theorem ts_nil : EvTs K tNil σ H [] := fun H1 _ Q q => q [] H1 (Ex.refl H1) .nil
theorem ts_cons {ta : TA} {r : List Nat} {rs : List (List Nat)} (h : EvU te σ H (r.map vN)) (hr : EvTs K ta σ H rs) : EvTs K (tCons te ta) σ H (r :: rs) := fun H1 e Q q =>
  h H1 e _ fun p H2 np e2 hp => hr H2 (e.trans e2) _ fun vs H3 e3 hv => q (.ref p :: vs) H3 (e2.trans e3) (.cons ⟨p, rfl, st_of (e3 _ _ hp)⟩ hv)
theorem er_lst {ta : TA} {rs : List (List Nat)} (h : EvTs K ta σ H rs) (hl : rs.length ≤ 1000) : EvR K (tLst ta) σ H rs := fun H1 e Q q =>
  h H1 e _ fun vs H2 e2 hv => ⟨sz_of (by rw [show vs.length = _ from paired_len hv]; omega), fun p np => q p vs _ (fresh_back e2 np) (e2.trans (Ex.new np)) upd_same (hv.keep (KeepT.ex (Ex.new np)))⟩
theorem ev_eqRR {a b : List (List Nat)} (ha : EvR K ta σ H a) (hb : ∀ H1, Ex H H1 → EvR K tb σ H1 b) : Ev (tOp (rEqD K) ta tb) σ H (.bl (decide (a = b))) := fun H1 e Q q =>
  ha H1 e _ fun p ys H2 np e2 hp hT => hb H2 (e.trans e2) H2 (Ex.refl H2) _ fun p2 zs H3 np2 e3 hp2 hT2 => rv_eqLR (K := K) (sq_of (e3 _ _ hp)) (hT.keep (KeepT.ex e3)) (sq_of hp2) hT2 H3 (Ex.refl H3) _ fun H4 e4 => q H4 ((e2.trans e3).trans e4)
theorem ev_neVR {p : Addr} {ys : List V} {a b : List (List Nat)} (ha : Ev ta σ H (.ref p)) (hp : SqL K H p ys) (hT : TupsAt K H ys a) (hb : EvR K tb σ H b) : Ev (tOp (rNeD K) ta tb) σ H (.bl (!decide (a = b))) := fun H1 e Q q =>
  ha H1 e _ fun H2 e2 => hb H2 (e.trans e2) _ fun p2 zs H3 np2 e3 hp2 hT2 => rv_neLR (K := K) (ex_l ((e.trans e2).trans e3) hp) (hT.keep (KeepT.ex ((e.trans e2).trans e3))) (sq_of hp2) hT2 H3 (Ex.refl H3) _ fun H4 e4 => q H4 ((e2.trans e3).trans e4)
end
/-- rounds_of(laying), laying here or written -/
theorem er_rdO {K : PySem.W.Frag} {σ : L2.St} {H : Hp} {ta : TE} {a : Addr} {lay : List Nat} (ha : Ev ta σ H (.ref a)) (hs : SqT K H a (lay.map vN)) (hL : IsLay lay) (h1 : 1 ≤ lay.length) (h2 : lay.length ≤ 30) : EvR K (tCall (spRdO K) [] E0 (tCons ta tNil)) σ H (cycles lay) := er_call (ea_cons ha ea_nil) fun H1 e1 Q q E => ⟨a, lay, rfl, ex_t e1 hs, hL, h1, h2, q⟩
theorem er_rdOU {K : PySem.W.Frag} {σ : L2.St} {H : Hp} {ta : TE} {lay : List Nat} (ha : EvU ta σ H (lay.map vN)) (hL : IsLay lay) (h1 : 1 ≤ lay.length) (h2 : lay.length ≤ 30) : EvR K (tCall (spRdO K) [] E0 (tCons ta tNil)) σ H (cycles lay) := fun H1 e Q q =>
  ha H1 e _ fun p H2 np e2 hp => ⟨p, lay, rfl, st_of hp, hL, h1, h2, fun p2 ys H3 np2 e3 h3 hT => q p2 ys H3 (fresh_back e2 np2) (e2.trans e3) h3 hT⟩
theorem er_cyc {K : PySem.W.Frag} {σ : L2.St} {H : Hp} {ta : TE} {a : Addr} {lay : List Nat} (ha : Ev ta σ H (.ref a)) (hs : SqT K H a (lay.map vN)) (hL : IsLay lay) (h2 : lay.length ≤ 30) : EvR K (tCall (spCyc K) [] E0 (tCons ta tNil)) σ H (cycles lay) := er_call (ea_cons ha ea_nil) fun H1 e1 Q q E => ⟨a, lay, rfl, ex_t e1 hs, hL, h2, q⟩
end Kw
set_option Elab.async false
set_option linter.all false
set_option maxRecDepth 100000
set_option maxHeartbeats 1000000
set_option pp.maxSteps 400
namespace Kw
open PySem PySem.Spec PyProof.Rows L2 Evl KwX NdefX LamX
theorem ext_len {m : Nat} : ∀ m, m < 8 → ∀ t, t ≤ m → trW m (fun _ => 1) t [] ≤ 5040 := by decide +kernel
theorem len_trT (m t : Nat) : (allS m t).length = trW m (fun _ => 1) t [] := by
  rw [← trW_sum, ← allS_desc]
  induction allS m t with
  | nil => rfl
  | cons a r ih => rw [List.length_cons, List.map_cons, List.sum_cons, ← ih]; omega
theorem take_flat {α β : Type} (f : α → List β) (L : List α) (i : Nat) : ((L.take i).flatMap f).length ≤ (L.flatMap f).length := by
  conv => rhs; rw [← List.take_append_drop i L]
  rw [List.flatMap_append, List.length_append]
  omega
section
variable {P : Program} {w : World} {K : PySem.W.Frag} {mg : Str → Option Value} {base : Heap} {H : Hp} {σ : L2.St} {ta : TA} {tb tc te td : TE} {D : Ends} {tz tu : TS}
theorem er_lcF {wi : TI} {g : TG} {tt : TT} {vs : List Nat} {n : Nat} {p : Nat → Bool} {f : Nat → List Nat} (h : EvC (tLc wi g tt te vs) σ H n p (fun i y H => ∃ a, y = V.ref a ∧ SqT K H a ((f i).map vN))) : EvR K (tLc wi g tt te vs) σ H (((List.range n).filter p).map f) := fun H1 e Q q =>
  h H1 e _ fun r ys H2 np e2 hp pr => q r ys H2 np e2 hp (paired_flip (F := fun (y : V) (r : List Nat) => ∃ a, y = V.ref a ∧ SqT K H2 a (r.map vN)) (g := f) pr)
theorem paired_cat {α β : Type} {F : α → β → Prop} : ∀ {xs : List α} {ys : List β} {us : List α} {vs : List β}, Paired F xs ys → Paired F us vs → Paired F (xs ++ us) (ys ++ vs)
  | _, _, _, _, .nil, h => h
  | _, _, _, _, .cons r t, h => .cons r (paired_cat t h)
theorem er_cat {p : Addr} {ys : List V} {rs ss : List (List Nat)} (ha : Ev td σ H (.ref p)) (hp : H p = some (.lst ys)) (hT : TupsAt K H ys rs) (hb : EvR K tb σ H ss) (hn : rs.length + ss.length ≤ 100000) : EvR K (tOp rCat td tb) σ H (rs ++ ss) := fun H1 e Q q =>
  ha H1 e _ fun H2 e2 => hb H2 (e.trans e2) _ fun r zs H3 nr e3 hr hT2 => ⟨p, r, ys, zs, rfl, rfl, e3 _ _ (e2 _ _ (e _ _ hp)), hr, sz_of (by rw [show ys.length = rs.length from paired_len hT, show zs.length = ss.length from paired_len hT2]; exact hn), fun t nt => q t _ _ (fresh_back (e2.trans e3) nt) ((e2.trans e3).trans (Ex.new nt)) upd_same (paired_cat (hT.keep (KeepT.ex (((e.trans e2).trans e3).trans (Ex.new nt)))) (hT2.keep (KeepT.ex (Ex.new nt))))⟩
theorem s_rowR {i : Nat} {rs : List (List Nat)} (h : EvR K td σ H rs) (k : ∀ p ys H1, H p = none → Ex H H1 → H1 p = some (.lst ys) → TupsAt K H1 ys rs → D.nx (σ.set i (some (.ref p))) H1) : tAsg td (gName i) D σ H := h H (Ex.refl H) _ k
theorem q_asgR {i : Nat} {rs : List (List Nat)} (h : EvR K td σ H rs) (k : ∀ p ys H1, H p = none → Ex H H1 → H1 p = some (.lst ys) → TupsAt K H1 ys rs → tz D (σ.set i (some (.ref p))) H1) : tSeq (tAsg td (gName i)) tz D σ H := h H (Ex.refl H) _ k
abbrev sLAL : Stmt := topS 32
theorem scLAL : FnScope ["many", "found", "turn", "longer", "row", "one"] ["many"] (defScope sLAL) := ⟨rfl, rfl, rfl, by decide +kernel, rfl, by decide +kernel, by decide +kernel⟩
def spLAL (K : PySem.W.Frag) : Sp := fun vs H Q _ => ∃ m : Nat, vs = [vN m] ∧ m < 8 ∧ ∀ p ys H2, H p = none → Ex H H2 → H2 p = some (.lst ys) → TupsAt K H2 ys (allS m m) → Q (.ref p) H2
theorem ok_lal {f  : Addr} {fd  : FuncData} {k : Nat} (F : Fun K "_law_all_layings" "_law_all_layings" sLAL f fd) (B : Bu mg) : FnOk P w K mg base CX0 (k + 1) f fd ["many"] (spLAL K) := by
  refine F.ok scLAL (fun vs H Q E h => ?_) (fun cdv A outer s H vs Q E hr h => ?_)
  · obtain ⟨m, rfl, _⟩ := h
    rfl
  · obtain ⟨m, rfl, hm, q⟩ := h
    refine ⟨_, (pss_cons (ps_set (i := 1) scLAL.nd rfl (.inl rfl) (pe_lst (pa_cons (pe_tup pa_nil) pa_nil)))
      (pss_cons (ps_for PassesOwn.never rfl (pi_range1 (by rfl) B.rng (pa_cons (pv 0) pa_nil)) (pg_name (i := 2) scLAL.nd rfl (.inl rfl))
      (pss_cons (ps_set (i := 3) scLAL.nd rfl (.inl rfl) (pe_lst pa_nil))
      (pss_cons (ps_for PassesOwn.never rfl (pi_list (pv 1)) (pg_name (i := 4) scLAL.nd rfl (.inr rfl))
      (pss_one (ps_set (i := 3) scLAL.nd rfl (.inl rfl) (pe_op op_cat (pv 3) (pe_lc (own := [("one", 5)]) (g := (gName 5)) (tt := (tTest (tOp (rIn K true) (tVar 5) (tVar 4)))) (te := (tOp (rCatA K) (tVar 4) (tTup (tCons (tVar 5) tNil)))) rfl scLAL.nd (pi_range1 (by rfl) B.rng (pa_cons (pv 0) pa_nil)) (blkOk_by (N := ["many", "found", "turn", "longer", "row", "one"]) (sc := defScope sLAL) (by decide +kernel)) (fun _ _ _ _ _ => (pg_name (i := 5) scLAL.nd rfl (.inl rfl))) (fun _ _ _ _ _ => (pts_one (pt_cmpR op_notIn_seq (pv 5) (pv 4) (by rfl)))) (fun _ _ _ _ _ => (pe_op op_catA (pv 4) (pe_tup (pa_cons (pv 5) pa_nil)))))))))
      (pss_one (ps_set (i := 1) scLAL.nd rfl (.inl rfl) (pv 3))))))
      (pss_one (ps_ret (pv 1))))), ?_⟩
    refine q_asgR (K := K) (σ := [some (vN m), none, none, none, none, none]) (er_lst (rs := allS m 0) (ts_cons (r := []) (eu_tup ea_nil (by decide)) ts_nil) (by show 1 ≤ 1000; decide)) fun fp ys0 H1 nfH f2 hf0 hT0 => ?_
    refine q_forR1 (σ := [some (vN m), some (.ref fp), none, none, none, none]) (n := (m : Int)) (ea_cons (ev_var (i := 0) (v := vN m) rfl) ea_nil) ⟨by omega, by omega⟩ (fun t σ' H' => ∃ fp ys y2 y3 y4 y5, σ' = [some (vN m), some (.ref fp), y2, y3, y4, y5] ∧ Ex H H' ∧ H fp = none ∧ H' fp = some (.lst ys) ∧ TupsAt K H' ys (allS m t)) (fun H2 e2 => ⟨fp, ys0, none, none, none, none, rfl, f2.trans e2, nfH, e2 _ _ hf0, hT0.keep (KeepT.ex e2)⟩) (fun t σ' H' ht hP => ?_) (fun σ' H' hP => ?_)
    · obtain ⟨fp, ys, y2, y3, y4, y5, rfl, eH, nfp, hfp, hT⟩ := hP
      have htm : t < m := by omega
      refine q_asgL (σ := [some (vN m), some (.ref fp), some (vN t), y3, y4, y5]) (xs := []) (el_lst ea_nil (by decide)) fun lp H2 nl e2 hl => ?_
      refine q_forLn (K := K) (σ := [some (vN m), some (.ref fp), some (vN t), some (.ref lp), y4, y5]) (a := fp) (xs := ys) (ev_var (i := 1) (v := .ref fp) rfl) (sq_of (e2 _ _ hfp)) (fun i σ' G => ∃ lp zs y4 y5, σ' = [some (vN m), some (.ref fp), some (vN t), some (.ref lp), y4, y5] ∧ Ex H G ∧ H lp = none ∧ G lp = some (.lst zs) ∧ TupsAt K G zs (((allS m t).take i).flatMap (ext9 m)) ∧ G fp = some (.lst ys) ∧ TupsAt K G ys (allS m t)) (fun G g => ⟨lp, [], y4, y5, rfl, (eH.trans e2).trans g, fresh_back eH nl, g _ _ hl, .nil, g _ _ (e2 _ _ hfp), hT.keep (KeepT.ex (e2.trans g))⟩) (fun i σ' G _ hP => ?_) (fun i x σ' G hx hP => ?_) (fun σ' G hP => ?_)
      · obtain ⟨lp, zs, y4, y5, rfl, _, _, _, _, hfp2, _⟩ := hP
        exact sq_of hfp2
      · obtain ⟨lp, zs, y4, y5, rfl, eG, nlp, hlp, hTz, hfp2, hTy⟩ := hP
        obtain ⟨row, hrow, ra, rfl, hra⟩ := paired_get hTy hx
        have hrm := List.mem_of_getElem? hrow
        obtain ⟨r1, r2, r3⟩ := allS_ok m t row hrm
        have hR : EvR K (tLc (iRng1 (tCons (tVar 0) tNil)) (gName 5) (tTest (tOp (rIn K true) (tVar 5) (tVar 4))) (tOp (rCatA K) (tVar 4) (tTup (tCons (tVar 5) tNil))) [5]) [some (vN m), some (.ref fp), some (vN t), some (.ref lp), some (.ref ra), y5] G (ext9 m row) := by
          refine er_lcF (K := K) (p := fun x => !decide (x ∈ row)) (f := fun x => row ++ [x]) (lc_gen (ew_rng1 (n := m) (ea_cons (ev_var (i := 0) (v := vN m) rfl) ea_nil) (by omega)) (by omega) _ _ (fun i y H H' kT ⟨a, h1, h2⟩ => ⟨a, h1, keep_t kT h2⟩) (fun j x G3 G4 Q e hj hy k => ?_))
          obtain ⟨rfl, rfl⟩ := hy
          have hra3 := ex_t e hra
          refine k [some (vN m), some (.ref fp), some (vN t), some (.ref lp), some (.ref ra), some (vN j)] _ (Ex.refl _) rfl (et_is (et_test (ev_op (ev_var (i := 5) (v := vN j) rfl) (ev_var (i := 4) (v := .ref ra) rfl) (rv_niT (K := K) hra3 rfl (flat_nats _)))) (by rw [inV_nat])) fun _ => ?_
          have := ep_catA (K := K) (σ := [some (vN m), some (.ref fp), some (vN t), some (.ref lp), some (.ref ra), some (vN j)]) (tb := tTup (tCons (tVar 5) tNil)) (ys := [vN j]) (ev_var (i := 4) (v := .ref ra) rfl) hra3 (eu_tup (ea_cons (ev_var (i := 5) (v := vN j) rfl) ea_nil) (by show 1 ≤ 100000; decide)) (by rw [List.length_map]; show row.length + 1 ≤ 100000; omega)
          intro G5 g5 Q5 q5
          exact this G5 g5 Q5 fun v G6 e6 ⟨p, hv, hp⟩ => q5 v G6 e6 ⟨p, hv, by rw [List.map_append]; exact hp⟩
        have hsz : (((allS m t).take i).flatMap (ext9 m)).length + (ext9 m row).length ≤ 100000 := by
          have h1 := take_flat (ext9 m) (allS m t) (i + 1)
          rw [List.take_add_one, hrow, List.flatMap_append, List.length_append] at h1
          have h2 : (List.flatMap (ext9 m) (some row).toList).length = (ext9 m row).length := by simp
          rw [h2] at h1
          have h3 : ((allS m t).flatMap (ext9 m)).length ≤ 5040 := by
            have := ext_len (m := m) m hm (t + 1) (by omega)
            rw [← len_trT] at this
            exact this
          omega
        refine s_rowR (er_cat (K := K) (σ := [some (vN m), some (.ref fp), some (vN t), some (.ref lp), some (.ref ra), y5]) (ev_var (i := 3) (v := .ref lp) rfl) hlp hTz hR hsz) fun r ws G3 nr e3 hr hT3 => ?_
        refine ⟨r, ws, _, _, rfl, eG.trans e3, fresh_back eG nr, hr, ?_, e3 _ _ hfp2, hTy.keep (KeepT.ex e3)⟩
        rw [List.take_add_one, hrow, List.flatMap_append]
        have h2 : List.flatMap (ext9 m) (some row).toList = ext9 m row := by simp
        rw [h2]
        exact hT3
      · obtain ⟨lp, zs, y4, y5, rfl, eG, nlp, hlp, hTz, hfp2, hTy⟩ := hP
        have hyl : ys.length = (allS m t).length := paired_len hTy
        rw [hyl, List.take_length] at hTz
        exact ⟨.ref lp, rfl, lp, zs, _, _, _, _, rfl, eG, nlp, hlp, hTz⟩
    · obtain ⟨fp, ys, y2, y3, y4, y5, rfl, eH, nfp, hfp, hT⟩ := hP
      exact ⟨.ref fp, rfl, q fp ys H' nfp eH hfp hT⟩
end
end Kw
set_option Elab.async false
set_option linter.all false
set_option maxRecDepth 100000
set_option maxHeartbeats 4000000
namespace Kw
open PySem PySem.Spec PyProof.Rows L2 Evl
/-! ### data drawn from a display: what of it lies elsewhere than in the bag -/
def delB (H : Hp) (b : Addr) : Hp := fun x => if x = b then none else H x
section
variable {K : PySem.W.Frag} {σ : L2.St} {H H' : Hp} {te tl : TE} {b : Addr} {v : V} {d : PyData} {ds : List PyData} {ta : TA}
theorem delB_ne {x : Addr} (h : x ≠ b) : delB H b x = H x := if_neg h
theorem delB_some {x : Addr} {o : HO} (h : delB H b x = some o) : x ≠ b ∧ H x = some o := by
  unfold delB at h
  split at h
  · cases h
  · rename_i n
    exact ⟨n, h⟩
theorem delB_ex (e : Ex H H') : Ex (delB H b) (delB H' b) := fun x o h => by
  obtain ⟨n, h⟩ := delB_some h
  rw [delB_ne n]
  exact e x o h
theorem delB_x (e : ExB b H H') : Ex (delB H b) H' := fun x o h => by
  obtain ⟨n, h⟩ := delB_some h
  exact e x o n h
theorem delB_xx (e : ExB b H H') : Ex (delB H b) (delB H' b) := fun x o h => by
  obtain ⟨n, h⟩ := delB_some h
  rw [delB_ne n]
  exact e x o n h
theorem delB_le : Ex (delB H b) H := fun x o h => (delB_some h).2
theorem delB_new {p : Addr} {o o' : HO} (np : H p = none) (hb : H b = some o') : Ex (delB H b) (delB (upd H p o) b) ∧ delB (upd H p o) b p = some o := by
  have n : p ≠ b := fun z => by rw [z, hb] at np; cases np
  exact ⟨delB_ex (Ex.new np), by rw [delB_ne n]; exact upd_same⟩
theorem delB_keep (hb : Bag H b) : KeepT H (delB H b) := fun x xs r => by
  obtain ⟨dd, n, ys, h1, _⟩ := hb
  have nb : x ≠ b := by
    rintro rfl
    rcases r with r | ⟨o, r⟩
    · rw [h1] at r; cases r
    · rw [h1] at r; cases r
  rcases r with r | ⟨o, r⟩
  · exact .inl (by rw [delB_ne nb]; exact r)
  · exact .inr ⟨o, by rw [delB_ne nb]; exact r⟩
def EvG (K : PySem.W.Frag) (b : Addr) (te : TE) (σ : L2.St) (H : Hp) (d : PyData) : Prop := ∀ H1, Ex H H1 → ∀ Q : VK, (∀ v H2, Ex H1 H2 → Dp K (delB H2 b) v d → Q v H2) → te σ H1 Q
def EvGA (K : PySem.W.Frag) (b : Addr) (ta : TA) (σ : L2.St) (H : Hp) (ds : List PyData) : Prop := ∀ H1, Ex H H1 → ∀ Q : List V → Hp → Prop, (∀ vs H2, Ex H1 H2 → DpAll K (delB H2 b) vs ds → Q vs H2) → ta σ H1 Q
theorem eg_of (h : Ev te σ H v) (hd : Dp K (delB H b) v d) : EvG K b te σ H d := fun H1 e Q q => h H1 e Q fun H2 e2 => q v H2 e2 (dp_ex (delB_ex (e.trans e2)) _ _ hd)
theorem eg_non : EvG K b (tC .non) σ H .none := eg_of ev_c .non
theorem eg_bl {x : Bool} : EvG K b (tC (.bl x)) σ H (.bool x) := eg_of ev_c (.bl x)
theorem eg_int {i : Int} : EvG K b (tC (.int i)) σ H (.int i) := eg_of ev_c (.int i)
theorem eg_str {s : Str} : EvG K b (tC (.str s)) σ H (.str s) := eg_of ev_c (.str s)
theorem eg_neg {i : Int} : EvG K b (tUn (rU fun i => .int (-i)) (tC (.int i))) σ H (.int (-i)) := eg_of (ev_un ev_c ru_neg) (.int _)
theorem ga_nil : EvGA K b tNil σ H [] := fun H1 _ Q q => q [] H1 (Ex.refl H1) .nil
theorem ga_cons (h : EvG K b te σ H d) (hr : EvGA K b ta σ H ds) : EvGA K b (tCons te ta) σ H (d :: ds) := fun H1 e Q q =>
  h H1 e _ fun v H2 e2 hv => hr H2 (e.trans e2) _ fun vs H3 e3 hvs => q (v :: vs) H3 (e2.trans e3) (.cons (dp_ex (delB_ex e3) _ _ hv) hvs)
theorem eg_tup {o' : HO} (hb : H b = some o') (h : EvGA K b ta σ H ds) (hl : ds.length ≤ 1000) : EvG K b (tTup ta) σ H (.tuple ds) := fun H1 e Q q =>
  h H1 e _ fun vs H2 e2 hvs => ⟨sz_of (by rw [dpA_len hvs]; omega), fun p hp => by
    have hn := delB_new (o := .tup vs) hp ((e.trans e2) _ _ hb)
    exact q (.ref p) _ (e2.trans (Ex.new hp)) (.tup (st_of hn.2) (dpA_ex hn.1 _ _ hvs))⟩
theorem eg_lst {o' : HO} (hb : H b = some o') (h : EvGA K b ta σ H ds) (hl : ds.length ≤ 1000) : EvG K b (tLst ta) σ H (.list ds) := fun H1 e Q q =>
  h H1 e _ fun vs H2 e2 hvs => ⟨sz_of (by rw [dpA_len hvs]; omega), fun p hp => by
    have hn := delB_new (o := .lst vs) hp ((e.trans e2) _ _ hb)
    exact q (.ref p) _ (e2.trans (Ex.new hp)) (.lst (sq_of hn.2) (dpA_ex hn.1 _ _ hvs))⟩
/-- list(t) of a tuple -/
theorem eg_listT {p : Addr} {xs : List V} (hb : Bag H b) (ha : Ev te σ H (.ref p)) (h : SqT K H p xs) (hd : ∀ H1, DpAll K H1 xs ds) : EvG K b (tCB (rListS K) (tCons te tNil)) σ H (.list ds) := fun H1 e Q q =>
  el_listT (K := K) ha h H1 e _ fun l H2 nl e2 hl => by
    obtain ⟨dd, n, ys, h1, _⟩ := hb
    have n : l ≠ b := fun z => by rw [z, e _ _ h1] at nl; cases nl
    exact q (.ref l) H2 e2 (.lst (sq_of (by rw [delB_ne n]; exact hl)) (hd _))
/-- [.., ..][_law_take(bag, n)] -/
theorem menuD {i : Nat} {n : Int} {Q : VK} (ha : EvGA K b ta σ H ds) (hn : n = (ds.length : Int)) (hl : 1 ≤ ds.length ∧ ds.length ≤ 1000) (h0 : σ[i]? = some (some (.ref b))) (hB : Bag H b)
    (q : ∀ v d H', d ∈ ds → Dp K (delB H' b) v d → ExB b H H' → Bag H' b → Q v H') : tOp (rIxL K) (tLst ta) (tCall (spTake K) [] E0 (tCons (tVar i) (tCons (tC (.int n)) tNil))) σ H Q := by
  refine ha H (Ex.refl H) _ fun vs H1 e1 hvs => ⟨sz_of (by rw [dpA_len hvs]; omega), fun l nl => ?_⟩
  have hB' := hB
  obtain ⟨dd, nn, ys, h1, _⟩ := hB'
  have hN := delB_new (o := .lst vs) nl (e1 _ _ h1)
  have e2 := e1.trans (Ex.new (o := .lst vs) nl)
  refine ⟨.ref b, h0, b, n, rfl, hB.ex e2, by omega, fun r H2 r0 r1 x2 b2 => ?_⟩
  obtain ⟨j, hj⟩ := Int.eq_ofNat_of_zero_le r0
  have hj' : j < vs.length := by have := dpA_len hvs; omega
  obtain ⟨d, hd, hdp⟩ := dpA_get hvs (List.getElem?_eq_getElem hj')
  have eX : Ex (delB H1 b) (delB H2 b) := hN.1.trans (delB_xx x2)
  exact ⟨l, vs, r, vs[j], rfl, rfl, sq_of (delB_x x2 _ _ hN.2), by rw [hj]; exact atI_nat (List.getElem?_eq_getElem hj'), q _ d H2 (List.mem_of_getElem? hd) (dp_ex eX _ _ hdp) ((ExB.of e2).trans x2) b2⟩
end
end Kw
set_option Elab.async false
set_option linter.all false
set_option maxRecDepth 100000
set_option maxHeartbeats 4000000
namespace Kw
open PySem PySem.Spec PyProof.Rows L2 Evl KwX NdefX LamX
section
variable {K : PySem.W.Frag} {σ : L2.St} {H : Hp} {D : Ends} {tu tz : TS} {ta : TA}
/-- a for over a displayed tuple, lambdas made on the way -/
theorem q_forN {g : TG} {xs : List V} (h : EvA ta σ H xs) (hl : xs.length ≤ 1000) (Pv : Hp → Nat → L2.St → Hp → Prop) (h0 : ∀ H1, Ex H H1 → Pv H1 0 σ H1) (hE : ∀ H1 i σ' H', Pv H1 i σ' H' → ExtN H1 H')
    (hs : ∀ H1 i x σ' H2, Ex H H1 → xs[i]? = some x → Pv H1 i σ' H2 → g x σ' H2 fun σ2 H4 => tu { D with nx := Pv H1 (i + 1), ct := Pv H1 (i + 1), bk := tz D } σ2 H4) (hd : ∀ H1 σ' H2, Ex H H1 → Pv H1 xs.length σ' H2 → tz D σ' H2) : tSeq (tFor (iTup K (tTup ta)) g tu) tz D σ H :=
  h H (Ex.refl H) _ fun H1 e1 => ⟨sz_of (by omega), fun p hp => ⟨p, rfl, ⟨xs, st_of upd_same⟩, by
    have eN := e1.trans (Ex.new (o := .tup xs) hp)
    exact for_it (walk_tup (K := K) (a := p) (xs := xs)) (Pv (upd H1 p (.tup xs))) (h0 _ eN) (fun i σ' H' _ hP => keep_t (keepN (hE _ _ _ _ hP)) (st_of upd_same)) (fun i x σ' H2 H3 hi hP hy => by
      obtain ⟨rfl, hx⟩ := hy
      exact hs _ i x σ' _ eN hx hP) (fun σ' H2 hP => hd _ σ' H2 eN hP)⟩⟩
theorem q_forND {g : TG} {ds : List PyData} (h : EvDA K ta σ H ds) (hl : ds.length ≤ 1000) (Pv : Hp → Nat → L2.St → Hp → Prop) (h0 : ∀ H1, Ex H H1 → Pv H1 0 σ H1) (hE : ∀ H1 i σ' H', Pv H1 i σ' H' → ExtN H1 H')
    (hs : ∀ H1 i x y σ' H2, Ex H H1 → ds[i]? = some y → Dp K H2 x y → Pv H1 i σ' H2 → g x σ' H2 fun σ2 H4 => tu { D with nx := Pv H1 (i + 1), ct := Pv H1 (i + 1), bk := tz D } σ2 H4) (hd : ∀ H1 σ' H2, Ex H H1 → Pv H1 ds.length σ' H2 → tz D σ' H2) : tSeq (tFor (iTup K (tTup ta)) g tu) tz D σ H :=
  h H (Ex.refl H) _ fun xs H1 e1 hxs => ⟨sz_of (by rw [dpA_len hxs]; omega), fun p hp => ⟨p, rfl, ⟨xs, st_of upd_same⟩, by
    have eN := e1.trans (Ex.new (o := .tup xs) hp)
    have hxs' := dpA_ex (Ex.new (o := .tup xs) hp) _ _ hxs
    exact for_it (walk_tup (K := K) (a := p) (xs := xs)) (Pv (upd H1 p (.tup xs))) (h0 _ eN) (fun i σ' H' _ hP => keep_t (keepN (hE _ _ _ _ hP)) (st_of upd_same)) (fun i x σ' H2 H3 hi hP hy => by
      obtain ⟨rfl, hx⟩ := hy
      obtain ⟨y, hy1, hy2⟩ := dpA_get hxs' hx
      exact hs _ i x y σ' _ eN hy1 (dp_n (hE _ _ _ _ hP) _ _ hy2) hP) (fun σ' H2 hP => hd _ σ' H2 eN (by rw [← dpA_len hxs]; exact hP))⟩⟩
theorem s_forND {g : TG} {ds : List PyData} (h : EvDA K ta σ H ds) (hl : ds.length ≤ 1000) (Pv : Hp → Nat → L2.St → Hp → Prop) (h0 : ∀ H1, Ex H H1 → Pv H1 0 σ H1) (hE : ∀ H1 i σ' H', Pv H1 i σ' H' → ExtN H1 H')
    (hs : ∀ H1 i x y σ' H2, Ex H H1 → ds[i]? = some y → Dp K H2 x y → Pv H1 i σ' H2 → g x σ' H2 fun σ2 H4 => tu { D with nx := Pv H1 (i + 1), ct := Pv H1 (i + 1), bk := D.nx } σ2 H4) (hd : ∀ H1 σ' H2, Ex H H1 → Pv H1 ds.length σ' H2 → D.nx σ' H2) : tFor (iTup K (tTup ta)) g tu D σ H := by
  show tSeq (tFor (iTup K (tTup ta)) g tu) tNext D σ H
  exact q_forND (tz := tNext) h hl Pv h0 hE hs hd
end
/-- the refusals that may come here -/
def rs09 : Nat → Bool := fun i => decide (i = 5)
theorem odd_num {lo n : Nat} (h1 : lo ≤ 1) (h2 : n ≤ 40) : ∀ y ∈ [PyData.int (-1), .int 41, .bool true, .none, .str "3", .tuple [.int 1]], numD lo n y = false := by
  intro y hy
  simp only [List.mem_cons, List.not_mem_nil, or_false] at hy
  rcases hy with rfl | rfl | rfl | rfl | rfl | rfl
  · show (decide ((lo : Int) ≤ -1) && _) = false
    rw [decide_eq_false (by omega)]
    rfl
  · show (decide ((lo : Int) ≤ 41) && decide ((41 : Int) ≤ n)) = false
    rw [decide_eq_false (show ¬ (41 : Int) ≤ n by omega), Bool.and_false]
  · rfl
  · rfl
  · rfl
  · rfl
theorem odd_int : ∀ y ∈ [PyData.bool true, .none, .str "3", .tuple [.int 1]], isIntD y = false ∧ ∀ lo n, numD lo n y = false := by
  intro y hy
  simp only [List.mem_cons, List.not_mem_nil, or_false] at hy
  rcases hy with rfl | rfl | rfl | rfl
  · exact ⟨rfl, fun _ _ => rfl⟩
  · exact ⟨rfl, fun _ _ => rfl⟩
  · exact ⟨rfl, fun _ _ => rfl⟩
  · exact ⟨rfl, fun _ _ => rfl⟩
abbrev sLCR : Stmt := topS 34
theorem scLCR : FnScope ["door", "odd"] [] (defScope sLCR) := ⟨rfl, rfl, rfl, by decide +kernel, rfl, by decide +kernel, by decide +kernel⟩
def lamELCR0 : Expr := (exArg 0 (exLeft (stEx ((stBody ((stBody ((defBody sLCR).getD 0 (.Pass ⟨0, 0, 0, 0⟩))).getD 0 (.Pass ⟨0, 0, 0, 0⟩))).getD 0 (.Pass ⟨0, 0, 0, 0⟩)))))
def lamBLCR0 : Expr := lamBd lamELCR0
def lamMLCR0 : Addr → NF := mkLam "_law_counts_refused" lamELCR0 (defScope sLCR)
theorem lamSLCR0 : nscB ["a", "b", "c"] ["a", "b", "c"] [] (lamSc lamELCR0 (defScope sLCR)) = true := by decide +kernel
def lamELCR1 : Expr := (exArg 0 (exLeft (stEx ((stBody ((stBody ((defBody sLCR).getD 0 (.Pass ⟨0, 0, 0, 0⟩))).getD 1 (.Pass ⟨0, 0, 0, 0⟩))).getD 0 (.Pass ⟨0, 0, 0, 0⟩)))))
def lamBLCR1 : Expr := lamBd lamELCR1
def lamMLCR1 : Addr → NF := mkLam "_law_counts_refused" lamELCR1 (defScope sLCR)
theorem lamSLCR1 : nscB ["a", "b", "c"] ["a", "b", "c"] [] (lamSc lamELCR1 (defScope sLCR)) = true := by decide +kernel
section
variable {P : Program} {w : World} {K : PySem.W.Frag} {mg : Str → Option Value} {base : Heap} {CT CL : Addr} {CD : Nat → Addr}
def spLCR (K : PySem.W.Frag) (T : List (Addr × Str)) : Sp := fun vs H Q _ => vs = [] ∧ Tabs T H ∧ ∀ H', ExtN H H' → Tabs T H' → Q (.bl true) H'
theorem ok_lcr {f c Pt fRef fWR fWS fTog : Addr} {fdRef fdWR fdWS fdTog : FuncData} {k : Nat} {kV doc pm ct oc : Value} {an od : Option Addr} {osl : Array (Option Value)} {T : List (Addr × Str)} (lk : K.lookup f = some ⟨oc, od, .func (PySem.W.fnOf "_law_counts_refused" "_law_counts_refused" (defArgs sLCR) (defBody sLCR) (defScope sLCR) .none kV doc pm an (.ref c) ct), osl⟩) (hcd : PySem.W.codeIn K (.ref c) "_law_counts_refused" = true) (TB : TabB base mg c Pt) (hm : (Pt, ("_law_counts_refused" : Str) ++ ".<locals>." ++ "<lambda>") ∈ T) (hu : ∀ p ∈ T, p.1 = Pt → p.2 = ("_law_counts_refused" : Str) ++ ".<locals>." ++ "<lambda>") (DRef : Df K mg "_law_refused" sRef ["call", "one", "two", "three"] fRef fdRef) (DWR : Df K mg "with_rounds" sWR ["boxes", "many"] fWR fdWR) (DWS : Df K mg "with_size" sWS ["boxes", "many"] fWS fdWS) (DTog : Df K mg "together" sTog ["boxes", "many"] fTog fdTog) (GRefLCR0 : FnOk P w K mg base CX0 (k + 8) fRef fdRef ["call", "one", "two", "three"] (spRefG CD lamMLCR0 lamBLCR0 (spDoor2 (pick3 fWR fWS fTog) (pick3 (spNBl K (CD 5) 0) (spNBl K (CD 5) 1) (spNBl K (CD 5) 1))) rs09 false false CT CL)) (GRefLCR1 : FnOk P w K mg base CX0 (k + 8) fRef fdRef ["call", "one", "two", "three"] (spRefG CD lamMLCR1 lamBLCR1 (spDoor2 (pick3 fWR fWS fTog) (pick3 (spNM K (CD 5)) (spNM K (CD 5)) (spTogX K (CD 5)))) rs09 false false CT CL)) (GWR : FnOk P w K mg base CX0 (k + 3) fWR fdWR ["boxes", "many"] (spWR K)) (GWS : FnOk P w K mg base CX0 (k + 3) fWS fdWS ["boxes", "many"] (spWS K)) (GTog : FnOk P w K mg base CX0 (k + 3) fTog fdTog ["boxes", "many"] (spTog K)) (B : Bu mg) : FnOk P w K mg base CX0 (k + 9) f (PySem.W.fnOf "_law_counts_refused" "_law_counts_refused" (defArgs sLCR) (defBody sLCR) (defScope sLCR) .none kV doc pm an (.ref c) ct) [] (spLCR K T) := by
  refine okT lk hcd scLCR (fun vs H Q E h => ?_) (fun A outer s H vs Q E hr h => ?_)
  · obtain ⟨rfl, _⟩ := h
    rfl
  · obtain ⟨rfl, hT, q⟩ := h
    have hu64 := hr.units
    refine ⟨_, (pss_cons (ps_for PassesOwn.never rfl (pi_tup (pe_tup (pa_cons (pe_glob (v := .ref fWR) (by rfl) DWR.g rfl) (pa_cons (pe_glob (v := .ref fWS) (by rfl) DWS.g rfl) (pa_cons (pe_glob (v := .ref fTog) (by rfl) DTog.g rfl) pa_nil))))) (pg_name (i := 0) scLCR.nd rfl (.inl rfl))
      (pss_cons (ps_for PassesOwn.never rfl (pi_tup (pe_tup (pa_cons (pe_un un_neg pe_int) (pa_cons pe_int (pa_cons pe_bl (pa_cons pe_non (pa_cons pe_str (pa_cons (pe_tup (pa_cons pe_int pa_nil)) pa_nil)))))))) (pg_name (i := 1) scLCR.nd rfl (.inl rfl))
      (pss_one (ps_if (pt_cmpR (op_neD hu64) (pcall DRef GRefLCR0 (hr.mono (by omega)) (pa_cons (pe_lamV TB rfl hm hu rfl (by decide +kernel) (fun _ => rfl)) (pa_cons (pv 0) (pa_cons (pv 1) (pa_cons pe_non pa_nil))))) (pe_lst (pa_cons pe_str (pa_cons pe_bl pa_nil))) (nomark _)) (pss_one (ps_ret pe_bl)) pss_nil)))
      (pss_one (ps_for PassesOwn.never rfl (pi_tup (pe_tup (pa_cons pe_bl (pa_cons pe_non (pa_cons pe_str (pa_cons (pe_tup (pa_cons pe_int pa_nil)) pa_nil)))))) (pg_name (i := 1) scLCR.nd rfl (.inl rfl))
      (pss_one (ps_if (pt_cmpR (op_neD hu64) (pcall DRef GRefLCR1 (hr.mono (by omega)) (pa_cons (pe_lamV TB rfl hm hu rfl (by decide +kernel) (fun _ => rfl)) (pa_cons (pv 0) (pa_cons pe_int (pa_cons (pv 1) pa_nil))))) (pe_lst (pa_cons pe_str (pa_cons pe_bl pa_nil))) (nomark _)) (pss_one (ps_ret pe_bl)) pss_nil))))))
      (pss_one (ps_ret pe_bl))), ?_⟩
    refine q_forN (K := K) (σ := [none, none]) (xs := [.ref fWR, .ref fWS, .ref fTog]) (ea_cons ev_c (ea_cons ev_c (ea_cons ev_c ea_nil))) (by show 3 ≤ 1000; decide)
      (fun G i σ' G' => ExtN G G' ∧ Tabs T G' ∧ ∃ y z, σ' = [y, z]) (fun G e => ⟨ExtN.ex (Ex.refl G), hT.ext e, _, _, rfl⟩) (fun G i σ' G' hP => hP.1) (fun G i x σ' G2 e hx hP => ?_) (fun G σ' G2 e hP => ?_)
    · obtain ⟨eG, tG, z0, z1, rfl⟩ := hP
      have hi : ∃ j : Fin 3, x = .ref (pick3 fWR fWS fTog j) := by
        match i, hx with
        | 0, hx => exact ⟨0, (Option.some.inj hx).symm⟩
        | 1, hx => exact ⟨1, (Option.some.inj hx).symm⟩
        | 2, hx => exact ⟨2, (Option.some.inj hx).symm⟩
        | i + 3, hx => cases hx
      obtain ⟨jj, rfl⟩ := hi
      refine q_forND (K := K) (σ := [some (.ref (pick3 fWR fWS fTog jj)), z1]) (ds := [.int (-1), .int 41, .bool true, .none, .str "3", .tuple [.int 1]]) (da_cons ed_neg (da_cons ed_int (da_cons ed_bl (da_cons ed_non (da_cons ed_str (da_cons (ed_tup (da_cons ed_int da_nil) (by decide)) da_nil)))))) (by show 6 ≤ 1000; decide)
        (fun G3 i σ' G4 => ExtN G3 G4 ∧ Tabs T G4 ∧ ∃ y, σ' = [some (.ref (pick3 fWR fWS fTog jj)), y]) (fun G3 e3 => ⟨ExtN.ex (Ex.refl G3), tG.ext e3, _, rfl⟩) (fun G3 i σ' G4 hP => hP.1) (fun G3 i x y σ' G4 e3 hy hx hP => ?_) (fun G3 σ' G4 e3 hP => ?_)
      · obtain ⟨e4, t4, z2, rfl⟩ := hP
        have hn := List.mem_of_getElem? hy
        exact s_refG (K := K) (T := T) (mk := lamMLCR0) (b := lamBLCR0) (d := CD) (spL := spDoor2 (pick3 fWR fWS fTog) (pick3 (spNBl K (CD 5) 0) (spNBl K (CD 5) 1) (spNBl K (CD 5) 1))) (σ := [some (.ref (pick3 fWR fWS fTog jj)), some x]) (.cls 5) (by show 5 < 14; decide) (v1 := .ref (pick3 fWR fWS fTog jj)) (v2 := x) (v3 := .non) t4 (fun H5 e5 => ea_cons (ev_var rfl) (ea_cons (ev_var rfl) (ea_cons ev_c ea_nil))) (fun G => ed_lst (da_cons ed_str (da_cons ed_bl da_nil)) (by show 2 ≤ 1000; decide)) (fun H5 e5 Q' E' _ _ _ hc => ⟨jj, x, .non, rfl, by
            have hd := dp_n e5 _ _ hx
            match jj with
            | 0 => exact ⟨x, .non, y, rfl, hd, odd_num (by decide) (by decide) y hn, fun H6 e6 => hc 5 H6 (by decide) rfl ⟨rfl, e6⟩⟩
            | 1 => exact ⟨x, .non, y, rfl, hd, odd_num (by decide) (by decide) y hn, fun H6 e6 => hc 5 H6 (by decide) rfl ⟨rfl, e6⟩⟩
            | 2 => exact ⟨x, .non, y, rfl, hd, odd_num (by decide) (by decide) y hn, fun H6 e6 => hc 5 H6 (by decide) rfl ⟨rfl, e6⟩⟩⟩) (fun H6 e6 t6 => ⟨e4.trans e6, t6, _, rfl⟩)
      · obtain ⟨e4, t4, z2, rfl⟩ := hP
        refine s_forND (K := K) (σ := [some (.ref (pick3 fWR fWS fTog jj)), z2]) (ds := [.bool true, .none, .str "3", .tuple [.int 1]]) (da_cons ed_bl (da_cons ed_non (da_cons ed_str (da_cons (ed_tup (da_cons ed_int da_nil) (by decide)) da_nil)))) (by show 4 ≤ 1000; decide)
          (fun G3 i σ' G4 => ExtN G3 G4 ∧ Tabs T G4 ∧ ∃ y, σ' = [some (.ref (pick3 fWR fWS fTog jj)), y]) (fun G3 e3 => ⟨ExtN.ex (Ex.refl G3), t4.ext e3, _, rfl⟩) (fun G3 i σ' G4 hP => hP.1) (fun G5 i x y σ' G6 e5 hy hx hP => ?_) (fun G5 σ' G6 e5 hP => ?_)
        · obtain ⟨e7, t7, z3, rfl⟩ := hP
          have hn := odd_int y (List.mem_of_getElem? hy)
          exact s_refG (K := K) (T := T) (mk := lamMLCR1) (b := lamBLCR1) (d := CD) (spL := spDoor2 (pick3 fWR fWS fTog) (pick3 (spNM K (CD 5)) (spNM K (CD 5)) (spTogX K (CD 5)))) (σ := [some (.ref (pick3 fWR fWS fTog jj)), some x]) (.cls 5) (by show 5 < 14; decide) (v1 := .ref (pick3 fWR fWS fTog jj)) (v2 := .int 5) (v3 := x) t7 (fun H5 e5 => ea_cons (ev_var rfl) (ea_cons ev_c (ea_cons (ev_var rfl) ea_nil))) (fun G => ed_lst (da_cons ed_str (da_cons ed_bl da_nil)) (by show 2 ≤ 1000; decide)) (fun H5 e5 Q' E' _ _ _ hc => ⟨jj, .int 5, x, rfl, by
            have hd := dp_n e5 _ _ hx
            match jj with
            | 0 => exact ⟨x, y, rfl, hd, hn.1, fun H6 e6 => hc 5 H6 (by decide) rfl ⟨rfl, e6⟩⟩
            | 1 => exact ⟨x, y, rfl, hd, hn.1, fun H6 e6 => hc 5 H6 (by decide) rfl ⟨rfl, e6⟩⟩
            | 2 => exact ⟨5, x, y, rfl, by decide, by decide, hd, hn.2 1 5, fun H6 e6 => hc 5 H6 (by decide) rfl ⟨rfl, e6⟩⟩⟩) (fun H6 e6 t6 => ⟨e7.trans e6, t6, _, rfl⟩)
        · obtain ⟨e7, t7, z3, rfl⟩ := hP
          exact ⟨((eG.trans (ExtN.ex e3)).trans e4).trans ((ExtN.ex e5).trans e7), t7, _, _, rfl⟩
    · obtain ⟨eG, tG, z0, z1, rfl⟩ := hP
      exact s_ret (v := .bl true) ev_c fun H4 e4 => q H4 (((ExtN.ex e).trans eG).trans (ExtN.ex e4)) (tG.ext e4)
end
end Kw
set_option Elab.async false
set_option linter.all false
set_option maxRecDepth 100000
set_option maxHeartbeats 4000000
set_option pp.maxSteps 400
namespace Kw
open PySem PySem.Spec PyProof.Rows L2 Evl KwX NdefX LamX
abbrev sLaw : Stmt := topS 35
theorem scLaw : FnScope ["script", "boxes", "counts", "sizes", "first", "laying", "rows", "many", "due", "kin", "box"] ["script"] (defScope sLaw) := ⟨rfl, rfl, rfl, by decide +kernel, rfl, by decide +kernel, by decide +kernel⟩
def lamELaw0 : Expr := (exArg 0 (exLeft (stEx ((stBody ((stBody ((stBody ((defBody sLaw).getD 0 (.Pass ⟨0, 0, 0, 0⟩))).getD 2 (.Pass ⟨0, 0, 0, 0⟩))).getD 4 (.Pass ⟨0, 0, 0, 0⟩))).getD 0 (.Pass ⟨0, 0, 0, 0⟩)))))
def lamBLaw0 : Expr := lamBd lamELaw0
def lamMLaw0 : Addr → NF := mkLam "law" lamELaw0 (defScope sLaw)
theorem lamSLaw0 : nscB ["a", "b", "c"] ["a", "b", "c"] [] (lamSc lamELaw0 (defScope sLaw)) = true := by decide +kernel
def lamELaw1 : Expr := (exArg 0 (stEx ((defBody sLaw).getD 2 (.Pass ⟨0, 0, 0, 0⟩))))
def lamBLaw1 : Expr := lamBd lamELaw1
def lamMLaw1 : Addr → NF := mkLam "law" lamELaw1 (defScope sLaw)
theorem lamSLaw1 : nscB ["a", "b", "c"] ["a", "b", "c"] [] (lamSc lamELaw1 (defScope sLaw)) = true := by decide +kernel
theorem pcallZ {X : Cx} {k : Nat} {f : Addr} {fd : FuncData} {ps : List Str} {sp : Sp} {x : Str} {st : Stmt} {p pos : Pos} (D : Df X.K X.mg x st ps f fd) (G : FnOk X.prog X.w X.K X.mg X.base CX0 k f fd ps sp) (hr : Room k X.A) (hg : Gl X x := by rfl)
    (h1 : (x == ("__debug__" : Str)) = false := by decide) : PE X (.Call (.Name x p) [] [] pos) (tCall sp [] E0 tNil) := pe_call0 G hr hg D.g D.F.kp D.b .nil pass0 h1
section
variable {K : PySem.W.Frag} {σ : L2.St} {H : Hp} {D : Ends} {tu tz : TS} {ta tl : TA} {tc te tb td : TE} {x : V} {mk : Addr → NF} {b : Expr} {spL : Sp} {d : Nat → Addr} {rs : Nat → Bool} {rT rL : Bool} {dT dL : Addr} {T : List (Addr × Str)}
theorem q_asgRef (o : Out) {i : Nat} {v1 v2 v3 : V} (hT : Tabs T H) (ha : ∀ H1, ExtN H H1 → EvA ta σ H1 [v1, v2, v3])
    (hL : ∀ H1, ExtN H H1 → Ends4 d spL [v1, v2, v3] rs rT rL dT dL H1 (OnlyO o H1)) (k : ∀ p H1, ExtN H H1 → Tabs T H1 → H1 p = some (.lst (resO o)) → tz D (σ.set i (some (.ref p))) H1) (hmk : ∀ c', (mk c').c = c' := by intro _; rfl) :
    tSeq (tAsg (tCall (spRefG d mk b spL rs rT rL dT dL) [] E0 (tCons (tLamV T mk b) ta)) (gName i)) tz D σ H := ref_run o hT ha hL k hmk
theorem ev_res (o : Out) (oo : OkO o) {i : Nat} {p : Addr} (hσ : σ[i]? = some (some (.ref p))) (hp : H p = some (.lst (resO o))) (hc : ∀ H1, EvD K tc σ H1 (.list (dataO o))) : Ev (tOp (rEqD K) (tVar i) tc) σ H (.bl true) := fun H1 e Q q =>
  ⟨.ref p, hσ, hc H1 H1 (Ex.refl H1) _ fun v H2 e2 hv => rv_eqDp (K := K) (d := .list (dataO o)) (e := .list (dataO o)) (.lst (sq_of ((e.trans e2) _ _ hp)) (res_dp oo)) hv (res_shaped oo) (res_shaped oo) _ (Ex.refl _) _ fun H3 e3 => by
    rw [res_eqv]
    exact q H3 (e2.trans e3)⟩
theorem s_forRI {j : Nat} {lo n : Int} (h : EvA ta σ H [.int lo, .int n]) (hn : -100000 ≤ lo ∧ lo ≤ 100000 ∧ -100000 ≤ n ∧ n ≤ 100000) (Pv : Nat → L2.St → Hp → Prop) (h0 : ∀ H1, Ex H H1 → Pv 0 σ H1)
    (hs : ∀ (i : Nat) σ' H', lo + (i : Int) < n → Pv i σ' H' → tu { D with nx := Pv (i + 1), ct := Pv (i + 1), bk := D.nx } (σ'.set j (some (.int (lo + (i : Int))))) H') (hd : ∀ σ' H', Pv (n - lo).toNat σ' H' → D.nx σ' H') : tFor (iRng2 ta) (gName j) tu D σ H :=
  h H (Ex.refl H) _ fun H1 e => ⟨lo, n, rfl, ⟨by omega, by omega, by omega, by omega⟩, for_range (lo := lo) (n := (n - lo).toNat) Pv (h0 H1 e) (fun i σ' H' hi p => hs i σ' H' (by omega) p) hd⟩
theorem rv_neI9 {i j : Nat} (h : i = j) : RV rNe (vN i) (vN j) H (.bl false) := by
  have e := rv_ne (H := H) (x := vN i) (y := vN j) rfl
  rw [h, decide_eq_true rfl] at e
  rw [h]
  exact e
theorem rep_flat9 {α : Type} (x : α) : ∀ k : Nat, (List.replicate k [x]).flatten = List.replicate k x
  | 0 => rfl
  | k + 1 => by
    rw [List.replicate_succ, List.flatten_cons, List.replicate_succ, rep_flat9 x k]
    rfl
theorem el_rep9 {k : Nat} (ha : EvL te σ H [x]) (hb : Ev tb σ H (.int k)) (hk : k ≤ 10000) : EvL (tOp rRep te tb) σ H (List.replicate k x) := fun H1 e Q q =>
  ha H1 e _ fun p H2 _ e2 hp => hb H2 (e.trans e2) _ fun H3 e3 => ⟨p, k, [x], rfl, rfl, e3 _ _ hp, by omega, by omega, sz_of (by show 1 * _ ≤ _; rw [Int.toNat_natCast]; omega), fun l hl => q l _ (fresh_back (e2.trans e3) hl) ((e2.trans e3).trans (Ex.new hl)) (by
    rw [upd_same, Int.toNat_natCast, rep_flat9])⟩
theorem el_nil9 : EvL (tOp rRep (tLst (tCons (tC (.int 0)) tNil)) (tC (.int 9))) σ H (cs9 fun _ => 0) :=
  el_rep9 (k := 9) (x := .int 0) (el_lst (ea_cons ev_c ea_nil) (by show 1 ≤ 100000; decide)) (ev_c (v := .int 9)) (by decide)
theorem q_three {i j l : Nat} (k : ∀ p q r H3, H p = none → H q = none → H r = none → p ≠ q → p ≠ r → q ≠ r → Ex H H3 → H3 p = some (.lst (cs9 fun _ => 0)) → H3 q = some (.lst (cs9 fun _ => 0)) → H3 r = some (.lst (cs9 fun _ => 0)) → tz D (((σ.set i (some (.ref p))).set j (some (.ref q))).set l (some (.ref r))) H3) :
    tSeq (tPar3 i j l (tCons (tOp rRep (tLst (tCons (tC (.int 0)) tNil)) (tC (.int 9))) (tCons (tOp rRep (tLst (tCons (tC (.int 0)) tNil)) (tC (.int 9))) (tCons (tOp rRep (tLst (tCons (tC (.int 0)) tNil)) (tC (.int 9))) tNil)))) tz D σ H :=
  el_nil9 H (Ex.refl H) _ fun p H1 np e1 hp => el_nil9 H1 (Ex.refl H1) _ fun q H2 nq e2 hq => el_nil9 H2 (Ex.refl H2) _ fun r H3 nr e3 hr =>
    ⟨.ref p, .ref q, .ref r, rfl, k p q r H3 np (fresh_back e1 nq) (fresh_back (e1.trans e2) nr) (fun z => by rw [← z, hp] at nq; cases nq) (fun z => by rw [← z, e2 _ _ hp] at nr; cases nr) (fun z => by rw [← z, hq] at nr; cases nr) ((e1.trans e2).trans e3) ((e2.trans e3) _ _ hp) (e3 _ _ hq) hr⟩
end
section
variable {P : Program} {w : World} {K : PySem.W.Frag} {mg : Str → Option Value} {base : Heap}
theorem ev_wr9 {σ : L2.St} {H : Hp} {ta tb : TE} {n : Nat} {m : Int} (ha : Ev ta σ H (vN n)) (hb : Ev tb σ H (.int m)) (hn : n ≤ 40) : Ev (tCall (spWR K) [] E0 (tCons ta (tCons tb tNil))) σ H (vN (wr n m)) :=
  ev_call (ea_cons ha (ea_cons hb ea_nil)) (SpV.of fun H1 e1 Q q E => ⟨n, m, rfl, hn, q⟩)
theorem ev_ws9 {σ : L2.St} {H : Hp} {ta tb : TE} {n : Nat} {m : Int} (ha : Ev ta σ H (vN n)) (hb : Ev tb σ H (.int m)) (h1 : 1 ≤ n) (hn : n ≤ 40) : Ev (tCall (spWS K) [] E0 (tCons ta (tCons tb tNil))) σ H (vN (ws n m)) :=
  ev_call (ea_cons ha (ea_cons hb ea_nil)) (SpV.of fun H1 e1 Q q E => ⟨n, m, rfl, h1, hn, q⟩)
theorem ev_tog9 {σ : L2.St} {H : Hp} {ta tb : TE} {n m : Nat} (ha : Ev ta σ H (vN n)) (hb : Ev tb σ H (vN m)) (h1 : 1 ≤ m) (h2 : m ≤ n) (hn : n ≤ 40) : Ev (tCall (spTog K) [] E0 (tCons ta (tCons tb tNil))) σ H (vN (fact n / m)) :=
  ev_call (ea_cons ha (ea_cons hb ea_nil)) (SpV.of fun H1 e1 Q q E => ⟨n, m, rfl, h1, h2, hn, q⟩)
/-- counts[many] if 0 <= many < 9 else 0 -/
theorem ev_due {σ : L2.St} {H : Hp} {u : Addr} {f : Nat → Nat} {j n t : Nat} (h1 : σ[j]? = some (some (.ref u))) (h7 : σ[7]? = some (some (.int (-2 + (t : Int))))) (hu : H u = some (.lst (cs9 f))) (hn : n = if 2 ≤ t ∧ t < 11 then f (t - 2) else 0) :
    Ev (tIf (tTest (tChain (rI0 fun i j => .bl (decide (i ≤ j))) (rI0 fun i j => .bl (decide (i < j))) (tC (.int 0)) (tVar 7) (tC (.int 9)))) (tOp (rIxL K) (tVar j) (tVar 7)) (tC (.int 0))) σ H (vN n) := by
  refine ev_if (b := decide ((0 : Int) ≤ -2 + (t : Int)) && decide (-2 + (t : Int) < 9)) (et_test (ev_chain ev_c (ev_var h7) ev_c rv_I0 rv_I0)) (fun hb => ?_) (fun hb => ?_)
  · rw [Bool.and_eq_true, decide_eq_true_eq, decide_eq_true_eq] at hb
    rw [if_pos (by omega)] at hn
    rw [hn]
    exact ev_op (ev_var h1) (ev_is (w := .int ((t - 2 : Nat) : Int)) (ev_var h7) (by show V.int _ = V.int _; congr 1; omega)) (rv_ixL (K := K) (sq_of hu) (cs_get (by omega)))
  · have hz : ¬ (2 ≤ t ∧ t < 11) := fun z => by
      rw [Bool.and_eq_false_iff, decide_eq_false_iff_not, decide_eq_false_iff_not] at hb
      omega
    rw [if_neg hz] at hn
    rw [hn]
    exact ev_c
/-- [box for box in range(many) if box not in rows[0]] == [] -/
theorem ev_all9 {σ : L2.St} {H : Hp} {cp t0 : Addr} {zs : List V} {lay : List Nat} {m : Nat} {s0 s1 s2 s3 s4 s5 s8 s9 s10 : Option V} (hc : H cp = some (.lst zs)) (h0 : zs[0]? = some (.ref t0)) (ht : SqT K H t0 ((orb lay 0).map vN)) (hm : m ≤ 100000)
    (hσ : σ = [s0, s1, s2, s3, s4, s5, some (.ref cp), some (.int (m : Int)), s8, s9, s10]) :
    Ev (tOp (rEqD K) (tLc (iRng1 (tCons (tVar 7) tNil)) (gName 10) (tTest (tOp (rIn K true) (tVar 10) (tOp (rIxL K) (tVar 6) (tC (.int 0))))) (tVar 10) [10]) (tLst tNil)) σ H (.bl (PF9 m lay)) := by
  subst hσ
  refine ev_is (ev_opLL (xs := ((List.range m).filter fun x => !decide (x ∈ orb lay 0)).map vN) (ys := ([] : List Nat).map vN) ?_ (el_lst ea_nil (by decide)) fun p q H1 hp hq e => rv_eqLN (K := K) (sq_of hp) (sq_of hq)) ?_
  · refine el_lc (ew_rng1 (n := m) (ea_cons (ev_var rfl) ea_nil) hm) hm (fun x => !decide (x ∈ orb lay 0)) vN rfl (fun j x G3 G4 Q e hj hy k => ?_)
    obtain ⟨rfl, rfl⟩ := hy
    refine k [s0, s1, s2, s3, s4, s5, some (.ref cp), some (.int (m : Int)), s8, s9, some (vN j)] _ (Ex.refl _) rfl (et_is (et_test (ev_op (ev_var (v := vN j) rfl) (ev_op (ev_var (v := .ref cp) rfl) (ev_c (v := .int 0)) (rv_ixL (K := K) (sq_of (e _ _ hc)) (atI_nat (j := 0) h0))) (rv_niT (K := K) (ex_t e ht) rfl (flat_nats _)))) (by rw [inV_nat])) fun _ => ev_var rfl
  · show V.bl _ = V.bl _
    rw [none_in]
    rfl
end
section
variable {P : Program} {w : World} {K : PySem.W.Frag} {mg : Str → Option Value} {base : Heap} {CT CL : Addr} {CD : Nat → Addr}
theorem dat09 : ∀ {σ : L2.St} (G : Hp), EvD K (tLst (tCons (tC (.str "NoNumber")) (tCons (tC (.bl true)) tNil))) σ G (.list (dataO (.cls 5))) := fun G => ed_lst (da_cons ed_str (da_cons ed_bl da_nil)) (by show 2 ≤ 1000; decide)
theorem ok_law {f c Pt fRef fLAL fCyc fWR fWS fTog fLCR fCell : Addr} {fdRef fdLAL fdCyc fdWR fdWS fdTog fdLCR fdCell : FuncData} {k : Nat} {kV doc pm ct oc : Value} {an od : Option Addr} {osl : Array (Option Value)} {T : List (Addr × Str)} (lk : K.lookup f = some ⟨oc, od, .func (PySem.W.fnOf "law" "law" (defArgs sLaw) (defBody sLaw) (defScope sLaw) .none kV doc pm an (.ref c) ct), osl⟩) (hcd : PySem.W.codeIn K (.ref c) "law" = true) (TB : TabB base mg c Pt) (hm : (Pt, ("law" : Str) ++ ".<locals>." ++ "<lambda>") ∈ T) (hu : ∀ p ∈ T, p.1 = Pt → p.2 = ("law" : Str) ++ ".<locals>." ++ "<lambda>") (DRef : Df K mg "_law_refused" sRef ["call", "one", "two", "three"] fRef fdRef) (DLAL : Df K mg "_law_all_layings" sLAL ["many"] fLAL fdLAL) (DCyc : Df K mg "_law_cycles" sCyc ["laying"] fCyc fdCyc) (DWR : Df K mg "with_rounds" sWR ["boxes", "many"] fWR fdWR) (DWS : Df K mg "with_size" sWS ["boxes", "many"] fWS fdWS) (DTog : Df K mg "together" sTog ["boxes", "many"] fTog fdTog) (DLCR : Df K mg "_law_counts_refused" sLCR [] fLCR fdLCR) (DCell : Df K mg "_law_cell_at" sCell ["script", "k"] fCell fdCell) (GRefLaw0 : FnOk P w K mg base CX0 (k + 9) fRef fdRef ["call", "one", "two", "three"] (spRefG CD lamMLaw0 lamBLaw0 (spLam2 (spTogX K (CD 5))) rs09 false false CT CL)) (GRefLaw1 : FnOk P w K mg base CX0 (k + 9) fRef fdRef ["call", "one", "two", "three"] (spRefG CD lamMLaw1 lamBLaw1 (spLam2 (spNBl K (CD 5) 1)) rs09 false false CT CL)) (GLAL : FnOk P w K mg base CX0 (k + 1) fLAL fdLAL ["many"] (spLAL K)) (GCyc : FnOk P w K mg base CX0 (k + 1) fCyc fdCyc ["laying"] (spCyc K)) (GWR : FnOk P w K mg base CX0 (k + 3) fWR fdWR ["boxes", "many"] (spWR K)) (GWS : FnOk P w K mg base CX0 (k + 3) fWS fdWS ["boxes", "many"] (spWS K)) (GTog : FnOk P w K mg base CX0 (k + 3) fTog fdTog ["boxes", "many"] (spTog K)) (GLCR : FnOk P w K mg base CX0 (k + 9) fLCR fdLCR [] (spLCR K T)) (GCell : FnOk P w K mg base CX0 (k + 1) fCell fdCell ["script", "k"] (spCell K)) (B : Bu mg) : FnOk P w K mg base CX0 (k + 10) f (PySem.W.fnOf "law" "law" (defArgs sLaw) (defBody sLaw) (defScope sLaw) .none kV doc pm an (.ref c) ct) ["script"] (spLawX K T) := by
  refine okT lk hcd scLaw (fun vs H Q E h => ?_) (fun A outer s H vs Q E hr h => ?_)
  · obtain ⟨a, ns, rfl, _⟩ := h
    rfl
  · obtain ⟨a, ns, rfl, hS, hl, hT, q⟩ := h
    have hu64 := hr.units
    refine ⟨_, (pss_cons (ps_for PassesOwn.never rfl (pi_tup (pe_tup (pa_cons pe_int (pa_cons pe_int (pa_cons pe_int (pa_cons pe_int (pa_cons pe_int (pa_cons pe_int (pa_cons pe_int (pa_cons pe_int pa_nil)))))))))) (pg_name (i := 1) scLaw.nd rfl (.inl rfl))
      (pss_cons (ps_par3 (i := 2) (j := 3) (l := 4) (by rfl) scLaw.nd rfl rfl rfl (by decide) (by decide) (by decide) rfl rfl rfl (pa_cons (pe_op op_rep (pe_lst (pa_cons pe_int pa_nil)) pe_int) (pa_cons (pe_op op_rep (pe_lst (pa_cons pe_int pa_nil)) pe_int) (pa_cons (pe_op op_rep (pe_lst (pa_cons pe_int pa_nil)) pe_int) pa_nil))) (by rfl))
      (pss_cons (ps_for PassesOwn.never rfl (pi_list (pcall DLAL GLAL (hr.mono (by omega)) (pa_cons (pv 1) pa_nil))) (pg_name (i := 5) scLaw.nd rfl (.inl rfl))
      (pss_cons (ps_set (i := 6) scLaw.nd rfl (.inr rfl) (pcall DCyc GCyc (hr.mono (by omega)) (pa_cons (pv 5) pa_nil)))
      (pss_cons (ps_asg (pe_op op_add (pe_ix ix_list (pv 2) (pe_callB call_len_seq (by rfl) B.len PySem.boot_len (pa_cons (pv 6) pa_nil)) (fun _ _ => rfl)) pe_int) (pg_sub (pv 2) (pe_callB call_len_seq (by rfl) B.len PySem.boot_len (pa_cons (pv 6) pa_nil)) set_list))
      (pss_one (ps_if (pt_cmpR (op_neD hu64) (pv 6) (pe_lst pa_nil) (nomark _)) (pss_cons (ps_asg (pe_op op_add (pe_ix ix_list (pv 3) (pe_callB call_len_seq (by rfl) B.len PySem.boot_len (pa_cons (pe_ix ix_list (pv 6) pe_int (fun _ _ => rfl)) pa_nil)) (fun _ _ => rfl)) pe_int) (pg_sub (pv 3) (pe_callB call_len_seq (by rfl) B.len PySem.boot_len (pa_cons (pe_ix ix_list (pv 6) pe_int (fun _ _ => rfl)) pa_nil)) set_list))
      (pss_one (ps_for PassesOwn.never rfl (pi_range2 (by rfl) B.rng (pa_cons pe_int (pa_cons (pe_op op_add (pv 1) pe_int) pa_nil))) (pg_name (i := 7) scLaw.nd rfl (.inl rfl))
      (pss_one (ps_if (pt_cmpR (op_eqD hu64) (pe_lc (own := [("box", 10)]) (g := (gName 10)) (tt := (tTest (tOp (rIn K true) (tVar 10) (tOp (rIxL K) (tVar 6) (tC (.int 0)))))) (te := (tVar 10)) rfl scLaw.nd (pi_range1 (by rfl) B.rng (pa_cons (pv 7) pa_nil)) (blkOk_by (N := ["script", "boxes", "counts", "sizes", "first", "laying", "rows", "many", "due", "kin", "box"]) (sc := defScope sLaw) (by decide +kernel)) (fun _ _ _ _ _ => (pg_name (i := 10) scLaw.nd rfl (.inl rfl))) (fun _ _ _ _ _ => (pts_one (pt_cmpR op_notIn_seq (pv 10) (pe_ix ix_list (pv 6) pe_int (fun _ _ => rfl)) (by rfl)))) (fun _ _ _ _ _ => (pv 10))) (pe_lst pa_nil) (nomark _)) (pss_one (ps_asg (pe_op op_add (pe_ix ix_list (pv 4) (pv 7) (fun _ _ => rfl)) pe_int) (pg_sub (pv 4) (pv 7) set_list))) pss_nil))))) pss_nil)))))
      (pss_one (ps_for PassesOwn.never rfl (pi_range2 (by rfl) B.rng (pa_cons (pe_un un_neg pe_int) (pa_cons pe_int pa_nil))) (pg_name (i := 7) scLaw.nd rfl (.inl rfl))
      (pss_cons (ps_set (i := 8) scLaw.nd rfl (.inl rfl) (pe_ifExp (pt_chain op_le op_lt pe_int (pv 7) pe_int) (pe_ix ix_list (pv 2) (pv 7) (fun _ _ => rfl)) pe_int))
      (pss_cons (ps_if (PW.pt (pw_or (pt_cmpR op_ne (pcall DWR GWR (hr.mono (by omega)) (pa_cons (pv 1) (pa_cons (pv 7) pa_nil))) (pv 8) (nomark _)) (pw_or1 (pt_cmpR op_ne (pcall DWR GWR (hr.mono (by omega)) (pa_cons (pv 1) (pa_cons (pe_op op_pow pe_int pe_int) pa_nil))) pe_int (nomark _))))) (pss_one (ps_ret pe_bl)) pss_nil)
      (pss_cons (ps_if (PW.pt (pw_and (pt_cmpR op_gt (pv 1) pe_int (nomark _)) (pw_and1 (pt_cmpR op_ne (pcall DWS GWS (hr.mono (by omega)) (pa_cons (pv 1) (pa_cons (pv 7) pa_nil))) (pe_ifExp (pt_chain op_le op_lt pe_int (pv 7) pe_int) (pe_ix ix_list (pv 3) (pv 7) (fun _ _ => rfl)) pe_int) (nomark _))))) (pss_one (ps_ret pe_bl)) pss_nil)
      (pss_cons (ps_if (PW.pt (pw_and (pt_chain op_le op_le pe_int (pv 7) (pv 1)) (pw_and1 (pt_cmpR op_ne (pcall DTog GTog (hr.mono (by omega)) (pa_cons (pv 1) (pa_cons (pv 7) pa_nil))) (pe_ix ix_list (pv 4) (pv 7) (fun _ _ => rfl)) (nomark _))))) (pss_one (ps_ret pe_bl)) pss_nil)
      (pss_one (ps_if (PW.pt (pw_and (pt_cmpR op_gt (pv 1) pe_int (nomark _)) (pw_and1 (pt_not (pt_chain op_le op_le pe_int (pv 7) (pv 1)))))) (pss_one (ps_if (pt_cmpR (op_neD hu64) (pcall DRef GRefLaw0 (hr.mono (by omega)) (pa_cons (pe_lamV TB rfl hm hu rfl (by decide +kernel) (fun _ => rfl)) (pa_cons (pv 1) (pa_cons (pv 7) (pa_cons pe_int pa_nil))))) (pe_lst (pa_cons pe_str (pa_cons pe_bl pa_nil))) (nomark _)) (pss_one (ps_ret pe_bl)) pss_nil)) pss_nil)))))))))))
      (pss_cons (ps_if (pt_not (pt_val (pcallZ DLCR GLCR (hr.mono (by omega))))) (pss_one (ps_ret pe_bl)) pss_nil)
      (pss_cons (ps_set (i := 9) scLaw.nd rfl (.inl rfl) (pcall DRef GRefLaw1 (hr.mono (by omega)) (pa_cons (pe_lamV TB rfl hm hu rfl (by decide +kernel) (fun _ => rfl)) (pa_cons pe_int (pa_cons pe_int (pa_cons pe_int pa_nil))))))
      (pss_one (ps_ret (pe_and (pe_cmpR (op_eqD hu64) (pv 9) (pe_lst (pa_cons pe_str (pa_cons pe_bl pa_nil))) (nomark _)) (pe_one (pe_cmpR op_ge (pcall DWR GWR (hr.mono (by omega)) (pa_cons (pe_op op_add (pe_op op_mod (pcall DCell GCell (hr.mono (by omega)) (pa_cons (pv 0) (pa_cons pe_int pa_nil))) pe_int) pe_int) (pa_cons pe_int pa_nil))) pe_int (nomark _))))))))), ?_⟩
    refine q_forN (K := K) (σ := [some (.ref a), none, none, none, none, none, none, none, none, none, none]) (xs := [.int 0, .int 1, .int 2, .int 3, .int 4, .int 5, .int 6, .int 7]) (ea_cons ev_c (ea_cons ev_c (ea_cons ev_c (ea_cons ev_c (ea_cons ev_c (ea_cons ev_c (ea_cons ev_c (ea_cons ev_c ea_nil)))))))) (by show 8 ≤ 1000; decide)
      (fun G i σ' G' => ExtN G G' ∧ Tabs T G' ∧ ∃ y1 y2 y3 y4 y5 y6 y7 y8 y9 y10, σ' = [some (.ref a), y1, y2, y3, y4, y5, y6, y7, y8, y9, y10]) (fun G e => ⟨ExtN.ex (Ex.refl G), hT.ext e, _, _, _, _, _, _, _, _, _, _, rfl⟩) (fun G i σ' G' hP => hP.1) (fun G i x σ' G2 e hx hP => ?_) (fun G σ' G2 e hP => ?_)
    · obtain ⟨eG, tG, y1, y2, y3, y4, y5, y6, y7, y8, y9, y10, rfl⟩ := hP
      have hi : ∃ b : Nat, b < 8 ∧ x = vN b := by
        match i, hx with
        | 0, hx => exact ⟨0, by decide, (Option.some.inj hx).symm⟩
        | 1, hx => exact ⟨1, by decide, (Option.some.inj hx).symm⟩
        | 2, hx => exact ⟨2, by decide, (Option.some.inj hx).symm⟩
        | 3, hx => exact ⟨3, by decide, (Option.some.inj hx).symm⟩
        | 4, hx => exact ⟨4, by decide, (Option.some.inj hx).symm⟩
        | 5, hx => exact ⟨5, by decide, (Option.some.inj hx).symm⟩
        | 6, hx => exact ⟨6, by decide, (Option.some.inj hx).symm⟩
        | 7, hx => exact ⟨7, by decide, (Option.some.inj hx).symm⟩
        | i + 8, hx => cases hx
      obtain ⟨b, hb8, rfl⟩ := hi
      clear hx
      refine q_three (σ := [some (.ref a), some (vN b), y2, y3, y4, y5, y6, y7, y8, y9, y10]) fun p q r H3 np nq nr npq npr nqr e3 hp hq hr => ?_
      refine q_for_src (K := K) (σ := [some (.ref a), some (vN b), some (.ref p), some (.ref q), some (.ref r), y5, y6, y7, y8, y9, y10]) (call_src (vs := [vN b]) (ea_cons (ev_var rfl) ea_nil) fun H5 e5 => ⟨b, rfl, hb8, fun fp ys H6 nf e6 hf hTy => ⟨fp, rfl, ⟨ys, sq_of hf⟩, ?_⟩⟩)
      have nf3 : H3 fp = none := fresh_back e5 nf
      have e56 := e5.trans e6
      have nfp : fp ≠ p := fun z => by rw [z, hp] at nf3; cases nf3
      have nfq : fp ≠ q := fun z => by rw [z, hq] at nf3; cases nf3
      have nfr : fp ≠ r := fun z => by rw [z, hr] at nf3; cases nf3
      refine for_it (walk_list (K := K) (a := fp) (xs := ys)) (fun i σ' G => ∃ y5 y6 y7 y10, σ' = [some (.ref a), some (vN b), some (.ref p), some (.ref q), some (.ref r), y5, y6, y7, y8, y9, y10] ∧ Ex G2 G ∧ G p = some (.lst (cs9 (fC b i))) ∧ G q = some (.lst (cs9 (fZ b i))) ∧ G r = some (.lst (cs9 (fF b i))) ∧ G fp = some (.lst ys) ∧ TupsAt K G ys (allS b b))
        ⟨y5, y6, y7, y10, rfl, e3.trans e56, by rw [cs_ext fun k _ => (f_zero b k).1]; exact e56 _ _ hp, by rw [cs_ext fun k _ => (f_zero b k).2.1]; exact e56 _ _ hq, by rw [cs_ext fun k _ => (f_zero b k).2.2]; exact e56 _ _ hr, hf, hTy⟩ (fun i σ' G _ hP => ?_) (fun i x σ' G0 G hi hP hy => ?_) (fun σ' G hP => ?_)
      · obtain ⟨_, _, _, _, _, _, _, _, _, h, _⟩ := hP
        exact sq_of h
      · obtain ⟨z5, z6, z7, z10, rfl, eA, hpA, hqA, hrA, hfA, hTA⟩ := hP
        obtain ⟨rfl, hx⟩ := hy
        obtain ⟨lay, hlay, la, rfl, hla⟩ := paired_get hTA hx
        obtain ⟨hL, hLl⟩ := allS_lay (List.mem_of_getElem? hlay)
        have hcl := cnt_le lay
        refine q_asgR (K := K) (σ := [some (.ref a), some (vN b), some (.ref p), some (.ref q), some (.ref r), some (.ref la), z6, z7, y8, y9, z10]) (er_cyc (ev_var (v := .ref la) rfl) hla hL (by omega)) fun cp zs Ga ncp ea hcp hTc => ?_
        have hzl : zs.length = cnt lay := paired_len hTc
        have hlen : ∀ {G : Hp}, G cp = some (.lst zs) → Ev (tCB (rLenS K) (tCons (tVar 6) tNil)) [some (.ref a), some (vN b), some (.ref p), some (.ref q), some (.ref r), some (.ref la), some (.ref cp), z7, y8, y9, z10] G (.int (cnt lay : Int)) := fun {G} h => ev_is (ev_len (K := K) (ev_var (v := .ref cp) rfl) (sq_of h)) (by rw [hzl])
        have ncp2 : ∀ {u : Addr} {o : HO}, G u = some o → u ≠ cp := fun h z => by rw [← z, h] at ncp; cases ncp
        refine q_setL (l := p) (xs := cs9 (fC b i)) (j := cnt lay) (v := .int ((fC b i (cnt lay) : Int) + 1)) (ea _ _ hpA) (ev_op (ev_op (ev_var (v := .ref p) rfl) (hlen hcp) (rv_ixL (K := K) (sq_of (ea _ _ hpA)) (cs_get (by omega)))) ev_c rv_I0) (ev_var rfl) (hlen hcp) (by rw [cs_len]; omega) fun Gb eb => ?_
        rw [cs_set (g := fC b (i + 1)) (by rw [fC_succ hlay, if_pos rfl]) (fun k _ hk => by rw [fC_succ hlay, if_neg hk]; rfl)]
        have x1 : Ex G2 (upd Gb p (.lst (cs9 (fC b (i + 1))))) := Ex.mut ((eA.trans ea).trans eb) np
        have xk : KeepT Gb (upd Gb p (.lst (cs9 (fC b (i + 1))))) := KeepT.lst (eb _ _ (ea _ _ hpA))
        have x2 : (upd Gb p (.lst (cs9 (fC b (i + 1))))) p = some (.lst (cs9 (fC b (i + 1)))) := upd_same
        have x3 : (upd Gb p (.lst (cs9 (fC b (i + 1))))) q = some (.lst (cs9 (fZ b i))) := by rw [upd_ne (Ne.symm npq)]; exact eb _ _ (ea _ _ hqA)
        have x4 : (upd Gb p (.lst (cs9 (fC b (i + 1))))) r = some (.lst (cs9 (fF b i))) := by rw [upd_ne (Ne.symm npr)]; exact eb _ _ (ea _ _ hrA)
        have x5 : (upd Gb p (.lst (cs9 (fC b (i + 1))))) fp = some (.lst ys) := by rw [upd_ne nfp]; exact eb _ _ (ea _ _ hfA)
        have x6 : (upd Gb p (.lst (cs9 (fC b (i + 1))))) cp = some (.lst zs) := by rw [upd_ne (Ne.symm (ncp2 hpA))]; exact eb _ _ hcp
        have x7 := hTA.keep ((KeepT.ex (ea.trans eb)).trans xk)
        have x8 := hTc.keep ((KeepT.ex eb).trans xk)
        generalize upd Gb p (.lst (cs9 (fC b (i + 1)))) = Gc at x1 x2 x3 x4 x5 x6 x7 x8
        clear xk hpA hqA hrA hfA hTA hcp hTc eA
        refine s_when (σ := [some (.ref a), some (vN b), some (.ref p), some (.ref q), some (.ref r), some (.ref la), some (.ref cp), z7, y8, y9, z10]) (b := decide (0 < b)) (et_is (et_test (ev_neVR (K := K) (ev_var (v := .ref cp) rfl) (sq_of x6) x8 (er_lst (rs := []) ts_nil (by decide)))) ?_) (fun h0 Gd ed => ?_) (fun h0 Gd ed => ?_)
        · by_cases z : 0 < b
          · obtain ⟨bs, hbs⟩ := leads_zero (lay := lay) (by omega)
            rw [decide_eq_true z, cycles_leads, hbs]
            rfl
          · rw [decide_eq_false z, List.eq_nil_of_length_eq_zero (by omega : lay.length = 0)]
            rfl
        · have h0 : 0 < b := of_decide_eq_true h0
          obtain ⟨bs, hbs⟩ := leads_zero (lay := lay) (by omega)
          have hcy0 : (cycles lay)[0]? = some (orb lay 0) := by rw [cycles_leads, hbs]; rfl
          have d2 := ed _ _ x2
          have d3 := ed _ _ x3
          have d4 := ed _ _ x4
          have d5 := ed _ _ x5
          have d6 := ed _ _ x6
          have d7 := x7.keep (KeepT.ex ed)
          have d8 := x8.keep (KeepT.ex ed)
          have d1 := x1.trans ed
          clear x1 x2 x3 x4 x5 x6 x7 x8
          obtain ⟨t, ht0, t0, rfl, ht⟩ := paired_get2 d8 hcy0
          have hper := hL.per (i := 0) (by omega)
          have hlr : ∀ {G : Hp}, Ex Gd G → Ev (tCB (rLenS K) (tCons (tOp (rIxL K) (tVar 6) (tC (.int 0))) tNil)) [some (.ref a), some (vN b), some (.ref p), some (.ref q), some (.ref r), some (.ref la), some (.ref cp), z7, y8, y9, z10] G (.int (per lay 0 : Int)) := fun {G} g => ev_is (ev_lenT (K := K) (ev_op (ev_var (v := .ref cp) rfl) (ev_c (v := .int 0)) (rv_ixL (K := K) (sq_of (g _ _ d6)) (atI_nat (j := 0) ht0))) (ex_t g ht)) (by rw [List.length_map]; unfold orb; rw [List.length_map, List.length_range])
          refine q_setL (σ := [some (.ref a), some (vN b), some (.ref p), some (.ref q), some (.ref r), some (.ref la), some (.ref cp), z7, y8, y9, z10]) (l := q) (xs := cs9 (fZ b i)) (j := per lay 0) (v := .int ((fZ b i (per lay 0) : Int) + 1)) d3 (ev_op (ev_op (ev_var (v := .ref q) rfl) (hlr (Ex.refl _)) (rv_ixL (K := K) (sq_of d3) (cs_get (by omega)))) ev_c rv_I0) (ev_var rfl) (hlr (Ex.refl _)) (by rw [cs_len]; omega) fun Ge ee => ?_
          rw [cs_set (g := fZ b (i + 1)) (by rw [fZ_succ hlay h0, if_pos rfl]) (fun k _ hk => by rw [fZ_succ hlay h0, if_neg hk]; rfl)]
          have xk : KeepT Ge (upd Ge q (.lst (cs9 (fZ b (i + 1))))) := KeepT.lst (ee _ _ d3)
          have w1 : Ex G2 (upd Ge q (.lst (cs9 (fZ b (i + 1))))) := Ex.mut (d1.trans ee) nq
          have w2 : (upd Ge q (.lst (cs9 (fZ b (i + 1))))) p = some (.lst (cs9 (fC b (i + 1)))) := by rw [upd_ne npq]; exact ee _ _ d2
          have w3 : (upd Ge q (.lst (cs9 (fZ b (i + 1))))) q = some (.lst (cs9 (fZ b (i + 1)))) := upd_same
          have w4 : (upd Ge q (.lst (cs9 (fZ b (i + 1))))) r = some (.lst (cs9 (fF b i))) := by rw [upd_ne (Ne.symm nqr)]; exact ee _ _ d4
          have w5 : (upd Ge q (.lst (cs9 (fZ b (i + 1))))) fp = some (.lst ys) := by rw [upd_ne nfq]; exact ee _ _ d5
          have ncq : cp ≠ q := fun z => by
            rw [z] at d6
            rw [d6] at d3
            have h1 := List.length_map (as := List.range 9) (fun k => vN (fZ b i k))
            have h2 : zs = cs9 (fZ b i) := HO.lst.inj (Option.some.inj d3)
            rw [h2] at ht0
            have h3 : (cs9 (fZ b i))[0]? = some (vN (fZ b i 0)) := rfl
            rw [h3] at ht0
            cases ht0
          have ncr : cp ≠ r := fun z => by
            rw [z] at d6
            rw [d6] at d4
            have h2 : zs = cs9 (fF b i) := HO.lst.inj (Option.some.inj d4)
            rw [h2] at ht0
            have h3 : (cs9 (fF b i))[0]? = some (vN (fF b i 0)) := rfl
            rw [h3] at ht0
            cases ht0
          have w6 : (upd Ge q (.lst (cs9 (fZ b (i + 1))))) cp = some (.lst zs) := by rw [upd_ne ncq]; exact ee _ _ d6
          have w7 := d7.keep ((KeepT.ex ee).trans xk)
          have w8 := keep_t ((KeepT.ex ee).trans xk) ht
          generalize upd Ge q (.lst (cs9 (fZ b (i + 1)))) = Gf at w1 w2 w3 w4 w5 w6 w7 w8
          clear d1 d2 d3 d4 d5 d6 d7 d8 xk ht
          refine s_forR2 (σ := [some (.ref a), some (vN b), some (.ref p), some (.ref q), some (.ref r), some (.ref la), some (.ref cp), z7, y8, y9, z10]) (lo := 1) (n := (b : Int) + 1) (ea_cons ev_c (ea_cons (ev_op (ev_var (v := vN b) rfl) ev_c rv_I0) ea_nil)) ⟨by decide, by decide, by omega, by omega⟩
            (fun t σ' G => ∃ y7, σ' = [some (.ref a), some (vN b), some (.ref p), some (.ref q), some (.ref r), some (.ref la), some (.ref cp), y7, y8, y9, z10] ∧ Ex G2 G ∧ G p = some (.lst (cs9 (fC b (i + 1)))) ∧ G q = some (.lst (cs9 (fZ b (i + 1)))) ∧ G r = some (.lst (cs9 (fG b i lay t))) ∧ G fp = some (.lst ys) ∧ G cp = some (.lst zs) ∧ TupsAt K G ys (allS b b) ∧ SqT K G t0 ((orb lay 0).map vN))
            (fun G g => ⟨z7, rfl, w1.trans g, g _ _ w2, g _ _ w3, by rw [cs_ext fun k _ => fG_zero b i lay k]; exact g _ _ w4, g _ _ w5, g _ _ w6, w7.keep (KeepT.ex g), ex_t g w8⟩) (fun t σ' G htb hP => ?_) (fun σ' G hP => ?_)
          · obtain ⟨y7, rfl, v1, v2, v3, v4, v5, v6, v7, v8⟩ := hP
            have e7 : (1 + (t : Int)) = ((1 + t : Nat) : Int) := by omega
            rw [e7]
            refine s_when (σ := [some (.ref a), some (vN b), some (.ref p), some (.ref q), some (.ref r), some (.ref la), some (.ref cp), some (.int ((1 + t : Nat) : Int)), y8, y9, z10]) (b := PF9 (1 + t) lay) (et_test (ev_all9 v6 ht0 v8 (by omega) rfl)) (fun hy Gg eg => ?_) (fun hy Gg eg => ?_)
            · obtain ⟨y1, y2⟩ := fG_yes (b := b) (i := i) hy
              refine s_setL (σ := [some (.ref a), some (vN b), some (.ref p), some (.ref q), some (.ref r), some (.ref la), some (.ref cp), some (.int ((1 + t : Nat) : Int)), y8, y9, z10]) (l := r) (xs := cs9 (fG b i lay t)) (j := 1 + t) (v := .int ((fG b i lay t (1 + t) : Int) + 1)) (eg _ _ v4) (ev_op (ev_op (ev_var (v := .ref r) rfl) (ev_var rfl) (rv_ixL (K := K) (sq_of (eg _ _ v4)) (cs_get (by omega)))) ev_c rv_I0) (ev_var rfl) (ev_var rfl) (by rw [cs_len]; omega) fun Gh eh => ?_
              rw [cs_set (g := fG b i lay (t + 1)) y1 (fun k _ hk => y2 k hk)]
              have gh := eg.trans eh
              have xk : KeepT G (upd Gh r (.lst (cs9 (fG b i lay (t + 1))))) := (KeepT.ex gh).trans (KeepT.lst (gh _ _ v4))
              exact ⟨_, rfl, Ex.mut (v1.trans gh) nr, by rw [upd_ne npr]; exact gh _ _ v2, by rw [upd_ne nqr]; exact gh _ _ v3, upd_same, by rw [upd_ne nfr]; exact gh _ _ v5, by rw [upd_ne ncr]; exact gh _ _ v6, v7.keep xk, keep_t xk v8⟩
            · exact ⟨_, rfl, v1.trans eg, eg _ _ v2, eg _ _ v3, by rw [← cs_ext fun k _ => fG_no (b := b) (i := i) hy k]; exact eg _ _ v4, eg _ _ v5, eg _ _ v6, v7.keep (KeepT.ex eg), ex_t eg v8⟩
          · obtain ⟨y7, rfl, v1, v2, v3, v4, v5, v6, v7, v8⟩ := hP
            rw [show ((b : Int) + 1 - 1).toNat = b by omega, cs_ext fun k _ => fG_end hlay k] at v4
            exact ⟨_, _, _, _, rfl, v1, v2, v3, v4, v5, v7⟩
        · have h0 : b = 0 := by have := of_decide_eq_false h0; omega
          refine ⟨_, _, _, _, rfl, x1.trans ed, ed _ _ x2, ?_, ?_, ed _ _ x5, x7.keep (KeepT.ex ed)⟩
          · rw [cs_ext (f := fZ b (i + 1)) (g := fZ b i) fun k _ => by unfold fZ; rw [if_pos h0, if_pos h0]]
            exact ed _ _ x3
          · rw [cs_ext (f := fF b (i + 1)) (g := fF b i) fun k _ => by unfold fF; rw [if_neg (by omega), if_neg (by omega)]]
            exact ed _ _ x4
      · obtain ⟨z5, z6, z7, z10, rfl, eA, hpA, hqA, hrA, _, hTA⟩ := hP
        rw [show ys.length = (allS b b).length from paired_len hTA] at hpA hqA hrA
        have hb40 : b ≤ 40 := by omega
        refine s_forRI (σ := [some (.ref a), some (vN b), some (.ref p), some (.ref q), some (.ref r), z5, z6, z7, y8, y9, z10]) (lo := -2) (n := 11) (ea_cons (ev_un ev_c ru_neg) (ea_cons ev_c ea_nil)) ⟨by decide, by decide, by decide, by decide⟩
          (fun t σ' G' => ExtN G G' ∧ Tabs T G' ∧ ∃ y7 y8, σ' = [some (.ref a), some (vN b), some (.ref p), some (.ref q), some (.ref r), z5, z6, y7, y8, y9, z10]) (fun G1 g1 => ⟨ExtN.ex g1, (tG.ext eA).ext g1, _, _, rfl⟩) (fun t σ' G1 ht hP => ?_) (fun σ' G1 hP => ?_)
        · obtain ⟨eN, t1, y7, y8, rfl⟩ := hP
          have ht : t < 13 := by omega
          have em : (-2 + (t : Int)) = (t : Int) - 2 := by omega
          have wrE := endC hb8 ht
          rw [← em] at wrE
          have hp1 : G1 p = some (.lst (cs9 (fC b (allS b b).length))) := eN _ _ hpA (fun ps z => by cases z)
          have hq1 : G1 q = some (.lst (cs9 (fZ b (allS b b).length))) := eN _ _ hqA (fun ps z => by cases z)
          have hr1 : G1 r = some (.lst (cs9 (fF b (allS b b).length))) := eN _ _ hrA (fun ps z => by cases z)
          refine q_asg (σ := [some (.ref a), some (vN b), some (.ref p), some (.ref q), some (.ref r), z5, z6, some (.int (-2 + (t : Int))), y8, y9, z10]) (v := vN (wr b (-2 + (t : Int)))) (ev_due (j := 2) rfl rfl hp1 wrE) fun Ga ea => ?_
          refine q_when (σ := [some (.ref a), some (vN b), some (.ref p), some (.ref q), some (.ref r), z5, z6, some (.int (-2 + (t : Int))), some (vN (wr b (-2 + (t : Int)))), y9, z10]) (b := false) (et_is (et_or (b := false) (et_test (ev_op (ev_wr9 (m := -2 + (t : Int)) (ev_var (v := vN b) rfl) (ev_var rfl) hb40) (ev_var (v := vN (wr b (-2 + (t : Int)))) rfl) (rv_neI9 rfl))) fun _ => et_test (ev_op (ev_wr9 (m := (10 : Int) ^ (30 : Int).toNat) (ev_var (v := vN b) rfl) (ev_op ev_c ev_c (rv_I ⟨by decide, by decide, by decide⟩)) hb40) (ev_c (v := vN 0)) (rv_neI9 (tabB b hb8)))) rfl) (fun hb => absurd hb (by decide)) (fun _ Gb eb => ?_)
          have eab := ea.trans eb
          have egt : ∀ {G : Hp}, Ev (tOp (rI0 fun i j => .bl (decide (j < i))) (tVar 1) (tC (.int 0))) [some (.ref a), some (vN b), some (.ref p), some (.ref q), some (.ref r), z5, z6, some (.int (-2 + (t : Int))), some (vN (wr b (-2 + (t : Int)))), y9, z10] G (.bl (decide ((0 : Int) < b))) := fun {G} => ev_op (ev_var (v := vN b) rfl) ev_c rv_I0
          have ech : ∀ {G : Hp}, Ev (tChain (rI0 fun i j => .bl (decide (i ≤ j))) (rI0 fun i j => .bl (decide (i ≤ j))) (tC (.int 1)) (tVar 7) (tVar 1)) [some (.ref a), some (vN b), some (.ref p), some (.ref q), some (.ref r), z5, z6, some (.int (-2 + (t : Int))), some (vN (wr b (-2 + (t : Int)))), y9, z10] G (.bl (decide ((1 : Int) ≤ -2 + (t : Int)) && decide (-2 + (t : Int) ≤ (b : Int)))) := fun {G} => ev_chain ev_c (ev_var (v := .int (-2 + (t : Int))) rfl) (ev_var (v := vN b) rfl) rv_I0 rv_I0
          refine q_when (σ := [some (.ref a), some (vN b), some (.ref p), some (.ref q), some (.ref r), z5, z6, some (.int (-2 + (t : Int))), some (vN (wr b (-2 + (t : Int)))), y9, z10]) (b := false) (et_is (et_and (b := false) (et_test egt) (fun ha => et_test (ev_op (ev_ws9 (m := -2 + (t : Int)) (ev_var (v := vN b) rfl) (ev_var rfl) (by have := of_decide_eq_true ha; omega) hb40) (ev_due (j := 3) rfl rfl (eab _ _ hq1) (by
            have := endZ hb8 (by have := of_decide_eq_true ha; omega) ht
            rw [← em] at this
            exact this)) (rv_neI9 rfl)))) (Bool.and_false _)) (fun hb => absurd hb (by decide)) (fun _ Gc ec => ?_)
          refine q_when (σ := [some (.ref a), some (vN b), some (.ref p), some (.ref q), some (.ref r), z5, z6, some (.int (-2 + (t : Int))), some (vN (wr b (-2 + (t : Int)))), y9, z10]) (b := false) (et_is (et_and (b := false) (et_test ech) (fun ha => by
            rw [Bool.and_eq_true, decide_eq_true_eq, decide_eq_true_eq] at ha
            have e7 : ∀ {G : Hp}, Ev (tVar 7) [some (.ref a), some (vN b), some (.ref p), some (.ref q), some (.ref r), z5, z6, some (.int (-2 + (t : Int))), some (vN (wr b (-2 + (t : Int)))), y9, z10] G (.int ((t - 2 : Nat) : Int)) := fun {G} => ev_is (ev_var (v := .int (-2 + (t : Int))) rfl) (by show V.int _ = V.int _; congr 1; omega)
            exact et_test (ev_op (ev_tog9 (n := b) (m := t - 2) (ev_var rfl) e7 (by omega) (by omega) hb40) (ev_op (ev_var (v := .ref r) rfl) e7 (rv_ixL (K := K) (sq_of ((eab.trans ec) _ _ hr1)) (cs_get (by omega)))) (rv_neI9 (endF hb8 (by omega) (by omega)))))) (Bool.and_false _)) (fun hb => absurd hb (by decide)) (fun _ Gd ed => ?_)
          have eAD := (eab.trans ec).trans ed
          refine s_when (σ := [some (.ref a), some (vN b), some (.ref p), some (.ref q), some (.ref r), z5, z6, some (.int (-2 + (t : Int))), some (vN (wr b (-2 + (t : Int)))), y9, z10]) (et_and (et_test egt) (fun _ => et_not (et_test ech))) (fun hb Ge ee => ?_) (fun hb Ge ee => ⟨eN.trans (ExtN.ex (eAD.trans ee)), t1.ext (eAD.trans ee), _, _, rfl⟩)
          rw [Bool.and_eq_true] at hb
          have h0 := of_decide_eq_true hb.1
          have hnum : numD 1 (b : Int) (.int (-2 + (t : Int))) = false := by
            show (decide ((1 : Int) ≤ -2 + (t : Int)) && decide (-2 + (t : Int) ≤ (b : Int))) = false
            have := hb.2
            revert this
            cases (decide ((1 : Int) ≤ -2 + (t : Int)) && decide (-2 + (t : Int) ≤ (b : Int))) with
            | true => intro z; cases z
            | false => intro _; rfl
          exact s_refG (K := K) (T := T) (mk := lamMLaw0) (b := lamBLaw0) (d := CD) (spL := spLam2 (spTogX K (CD 5))) (σ := [some (.ref a), some (vN b), some (.ref p), some (.ref q), some (.ref r), z5, z6, some (.int (-2 + (t : Int))), some (vN (wr b (-2 + (t : Int)))), y9, z10]) (.cls 5) (by show 5 < 14; decide) (v1 := vN b) (v2 := .int (-2 + (t : Int))) (v3 := .int 0) (t1.ext (eAD.trans ee)) (fun H5 e5 => ea_cons (ev_var rfl) (ea_cons (ev_var rfl) (ea_cons ev_c ea_nil))) dat09 (fun H5 e5 Q' E' _ _ _ hc => ⟨vN b, .int (-2 + (t : Int)), .int 0, rfl, b, .int (-2 + (t : Int)), .int (-2 + (t : Int)), rfl, by omega, hb40, .int _, hnum, fun H6 e6 => hc 5 H6 (by decide) rfl ⟨rfl, e6⟩⟩) (fun H6 e6 t6 => ⟨(eN.trans (ExtN.ex (eAD.trans ee))).trans e6, t6, _, _, rfl⟩)
        · obtain ⟨eN, t1, y7, y8, rfl⟩ := hP
          exact ⟨(eG.trans (ExtN.ex eA)).trans eN, t1, _, _, _, _, _, _, _, _, _, _, rfl⟩
    · obtain ⟨eG, tG, y1, y2, y3, y4, y5, y6, y7, y8, y9, y10, rfl⟩ := hP
      refine ⟨rfl, tG, fun G3 e3 t3 => ⟨true, rfl, ?_⟩⟩
      refine q_asgRef (T := T) (mk := lamMLaw1) (b := lamBLaw1) (d := CD) (spL := spLam2 (spNBl K (CD 5) 1)) (σ := [some (.ref a), y1, y2, y3, y4, y5, y6, y7, y8, y9, y10]) (.cls 5) (v1 := .int 0) (v2 := .int 0) (v3 := .int 0) t3 (fun H5 e5 => ea_cons ev_c (ea_cons ev_c (ea_cons ev_c ea_nil))) (fun H5 e5 Q' E' _ _ _ hc => ⟨.int 0, .int 0, .int 0, rfl, .int 0, .int 0, .int 0, rfl, .int _, rfl, fun H6 e6 => hc 5 H6 (by decide) rfl ⟨rfl, e6⟩⟩) (fun kp H4 e4 t4 hk => ?_)
      have hS4 : SqL K H4 a (ns.map V.int) := sqL_n ((eG.trans e3).trans e4) (ex_l e hS)
      refine ev_res (K := K) (.cls 5) (by show 5 < 14; decide) rfl hk dat09 H4 (Ex.refl H4) _ fun H5 e5 => ⟨true, rfl, ?_⟩
      refine ⟨.ref a, rfl, a, ns, 0, rfl, ex_l e5 hS4, fun c H6 e6 => ⟨c, 7, rfl, rfl, by show (0 : Int) < 7; decide, c % 7, 1, rfl, rfl, ?_⟩⟩
      obtain ⟨n, hn⟩ := Int.eq_ofNat_of_zero_le (Int.emod_nonneg c (show (7 : Int) ≠ 0 by decide))
      have hn7 := Int.emod_lt_of_pos c (show (0 : Int) < 7 by decide)
      have hw := tab1 (n + 1) (by omega) (by omega)
      refine ⟨n + 1, 1, by rw [hn]; rfl, by omega, fun H7 e7 => ⟨(wr (n + 1) 1 : Nat), 1, rfl, rfl, ?_⟩⟩
      have hd : decide ((1 : Int) ≤ ((wr (n + 1) 1 : Nat) : Int)) = true := decide_eq_true (by omega)
      show Q (.bl (decide ((1 : Int) ≤ ((wr (n + 1) 1 : Nat) : Int)))) _
      rw [hd]
      exact q _
end
end Kw
set_option Elab.async false
set_option linter.all false
set_option maxRecDepth 100000
set_option maxHeartbeats 4000000
namespace Kw
open PySem PySem.Spec PyProof.Rows L2 Evl KwX NdefX LamX
/-- a class of the program, as one that is asked for -/
structure ClsT (K : PySem.W.Frag) (mg : Str → Option Value) (x : Str) (C : Addr) : Prop where
  g : mg x = some (.ref C)
  i : PySem.W.isClsIn K C = true
  t : PySem.W.typeIn K (.ref C) = some (.type "type")
  b : PySem.W.subIn K (.ref C) (.type "BaseException") = some true
  h : PySem.W.hasDictIn K C = true
theorem kit_ref {K : PySem.W.Frag} {C : Addr} {t : Value} {b : Bool} (i : PySem.W.isClsIn K C = true) (ty : PySem.W.typeIn K (.ref C) = some (.type "type")) (s : PySem.W.subIn K t (.ref C) = some b) (n : b = true ∨ (t == .ref C) = false) : PySem.W.kitOne K t (.ref C) = some b := by
  unfold PySem.W.kitOne
  split
  · rename_i h
    rcases n with n | n
    · rw [n]
    · rw [n] at h; cases h
  · show (if ((PySem.W.clsIn K C).isSome && PySem.W.typeIn K (.ref C) == some (.type "type")) = true then _ else _) = _
    have i' : (PySem.W.clsIn K C).isSome = true := i
    rw [i', ty]
    rw [if_pos (by rfl)]
    exact s
theorem kit_val {K : PySem.W.Frag} {C : Addr} (s : PySem.W.subIn K (.ref C) (.type "ValueError") = some true) : PySem.W.kitOne K (.ref C) (.type "ValueError") = some true := by
  unfold PySem.W.kitOne
  split
  · rfl
  · show (if PySem.W.kitMeta "ValueError" = true then PySem.W.subIn K (.ref C) (.type "ValueError") else none) = _
    rw [if_pos (by decide +kernel)]
    exact s
/-- what a raised class says of itself -/
structure RaiseT (K : PySem.W.Frag) (C : Addr) : Prop where
  v : PySem.W.subIn K (.ref C) (.type "ValueError") = some true
  e : ExcC K C
  q : PySem.W.excIn K C [.type "ValueError", .type "Exception", .type "BaseException", .type "object"] "ValueError.__new__" = true
  k : PySem.W.keepIn K (.ref C) = true
theorem RaiseT.exc {K : PySem.W.Frag} {mg : Str → Option Value} {x : Str} {C : Addr} (r : RaiseT K C) (c : ClsT K mg x C) : ExcT K mg x C := ⟨c.g, r.q, r.k, c.b, c.t⟩
theorem refT_of {K : PySem.W.Frag} {mg : Str → Option Value} {C dT dL dB : Addr} {d : Nat → Addr} {bs : Nat → Bool} (r : RaiseT K C) (cT : ClsT K mg "TooMany" dT) (cL : ClsT K mg "Locked" dL) (cB : ClsT K mg "BoxError" dB) (c : ∀ i, i < 14 → ClsT K mg (nmC i) (d i))
    (sT : PySem.W.subIn K (.ref C) (.ref dT) = some false) (sL : PySem.W.subIn K (.ref C) (.ref dL) = some false) (sB : PySem.W.subIn K (.ref C) (.ref dB) = some true)
    (s : ∀ i, i < 14 → PySem.W.subIn K (.ref C) (.ref (d i)) = some (bs i) ∧ (bs i = true ∨ (Value.ref C == .ref (d i)) = false)) (isi : mg "isinstance" = none) (ve : mg "ValueError" = none) : RefT K mg C d bs dT dL dB :=
  ⟨cT.g, cL.g, cB.g, fun i hi => (c i hi).g, PySem.W.exm_ref cT.b cT.h cT.t sT, PySem.W.exm_ref cL.b cL.h cL.t sL, PySem.W.exm_ref cB.b cB.h cB.t sB, fun i hi => kit_ref (c i hi).i (c i hi).t (s i hi).1 (s i hi).2, kit_val r.v, r.e, isi, ve⟩
def codeVs (vs : Array Value) (c P : Addr) : Bool := (match (vs[11]? : Option Value) with | some (.ref P') => P' == P | _ => false) &&
      (match vs.getD 18 .none with | .str _ _ => true | _ => false) && (match vs.getD 7 .none with | .int _ _ => true | _ => false) &&
      (match vs.getD 9 .none with | .bool _ => true | _ => false) && (match vs.getD 10 .none with | .int _ _ => true | _ => false) && c != P
theorem codeHd_by {K : PySem.W.Frag} {c P : Addr} {od : Option Addr} {vs : Array Value} {sl : Array (Option Value)} (h : K.lookup c = some ⟨.type "code", od, .fields vs, sl⟩) (v : codeVs vs c P = true) : PySem.W.codeHdIn K c P = true := by
  unfold PySem.W.codeHdIn
  rw [h]
  exact v
theorem lookup_none {α β : Type} [BEq α] [LawfulBEq α] : ∀ {l : List (α × β)} {a : α}, a ∉ l.map (·.1) → l.lookup a = none
  | [], _, _ => rfl
  | (x, y) :: r, a, h => by
    rw [List.map_cons, List.mem_cons, not_or] at h
    rw [List.lookup_cons, show (a == x) = false from beq_eq_false_iff_ne.mpr h.1]
    exact lookup_none h.2
theorem km_none {K : Params → PySem.W.Frag} {as : List Addr} {e : ∀ P, as = (K P).map (·.1)} {ts : List Addr} {w : World} {h : Heap} (Y : (PySem.W.kmHook K as e ts).says w h) {n : Addr} (hn : as.contains n = false) : (K w.params).lookup n = none := by
  refine lookup_none ?_
  rw [← e w.params]
  intro z
  rw [List.contains_iff_mem.mpr z] at hn
  cases hn
end Kw
set_option Elab.async false
set_option linter.all false
set_option maxRecDepth 100000
namespace Kw
open PySem PySem.Spec PyProof.Rows L2 KwX NdefX LamX
abbrev lamQ_Law : Str := ("law" : Str) ++ ".<locals>." ++ "<lambda>"
abbrev lamQ_LCR : Str := ("_law_counts_refused" : Str) ++ ".<locals>." ++ "<lambda>"
set_option maxHeartbeats 4000000 in
theorem all_mk {l : PySem.W.OpenLaw} {w : World} {K : PySem.W.Frag} {h : Heap} {mg : Str → Option Value} {fa f1 f2 f3 f4 f5 f6 f7 f8 f9 f10 f11 f12 f13 f14 c_Law Pt_Law c_LCR Pt_LCR dT dL dB d0 d1 d2 d3 d4 d5 d6 d7 d8 d9 d10 d11 d12 d13 : Addr} (X : K.In h) (G : h.Ns mainGlobals mg) (hfa : mg "law" = some (.ref fa))
    (tab_Law : h.get? Pt_Law = some { cls := .none, data := .fields #[] })
    (tab_LCR : h.get? Pt_LCR = some { cls := .none, data := .fields #[] })
    {od1 an1 od2 an2 od3 an3 od4 an4 od5 an5 od6 an6 od7 an7 od8 an8 od9 an9 od10 an10 od11 an11 od12 an12 od13 an13 od14 an14 : Option Addr} {sl1 sl2 sl3 sl4 sl5 sl6 sl7 sl8 sl9 sl10 sl11 sl12 sl13 sl14 : Array (Option Value)} {oc1 kV1 dc1 pm1 ct1 cd1 oc2 kV2 dc2 pm2 ct2 cd2 oc3 kV3 dc3 pm3 ct3 cd3 oc4 kV4 dc4 pm4 ct4 cd4 oc5 kV5 dc5 pm5 ct5 cd5 oc6 kV6 dc6 pm6 ct6 cd6 oc7 kV7 dc7 pm7 ct7 cd7 oc8 kV8 dc8 pm8 ct8 cd8 oc9 kV9 dc9 pm9 ct9 cd9 oc10 kV10 dc10 pm10 ct10 cd10 oc11 kV11 dc11 pm11 ct11 oc12 kV12 dc12 pm12 ct12 cd12 oc13 kV13 dc13 pm13 ct13 cd13 oc14 kV14 dc14 pm14 ct14 : Value} {t_MOST_COUNTED : Tok} {tod_Law tod_LCR : Option Addr} {tvs_Law tvs_LCR : Array Value} {tsl_Law tsl_LCR : Array (Option Value)}
    (a1 : PySem.W.nsIn K mainGlobals "_law_all_layings" = some (some (.ref f1)))
    (l1 : K.lookup f1 = some ⟨oc1, od1, .func (PySem.W.fnOf "_law_all_layings" "_law_all_layings" (defArgs sLAL) (defBody sLAL) (defScope sLAL) .none kV1 dc1 pm1 an1 cd1 ct1), sl1⟩)
    (c1 : PySem.W.codeIn K cd1 "_law_all_layings" = true)
    (k1 : PySem.W.keepIn K (.ref f1) = true)
    (a2 : PySem.W.nsIn K mainGlobals "_law_cycles" = some (some (.ref f2)))
    (l2 : K.lookup f2 = some ⟨oc2, od2, .func (PySem.W.fnOf "_law_cycles" "_law_cycles" (defArgs sCyc) (defBody sCyc) (defScope sCyc) .none kV2 dc2 pm2 an2 cd2 ct2), sl2⟩)
    (c2 : PySem.W.codeIn K cd2 "_law_cycles" = true)
    (k2 : PySem.W.keepIn K (.ref f2) = true)
    (a3 : PySem.W.nsIn K mainGlobals "is_whole" = some (some (.ref f3)))
    (l3 : K.lookup f3 = some ⟨oc3, od3, .func (PySem.W.fnOf "is_whole" "is_whole" (defArgs sWho) (defBody sWho) (defScope sWho) .none kV3 dc3 pm3 an3 cd3 ct3), sl3⟩)
    (c3 : PySem.W.codeIn K cd3 "is_whole" = true)
    (k3 : PySem.W.keepIn K (.ref f3) = true)
    (a4 : PySem.W.nsIn K mainGlobals "check_number" = some (some (.ref f4)))
    (l4 : K.lookup f4 = some ⟨oc4, od4, .func (PySem.W.fnOf "check_number" "check_number" (defArgs sCkN) (defBody sCkN) (defScope sCkN) .none kV4 dc4 pm4 an4 cd4 ct4), sl4⟩)
    (c4 : PySem.W.codeIn K cd4 "check_number" = true)
    (k4 : PySem.W.keepIn K (.ref f4) = true)
    (a5 : PySem.W.nsIn K mainGlobals "check_whole" = some (some (.ref f5)))
    (l5 : K.lookup f5 = some ⟨oc5, od5, .func (PySem.W.fnOf "check_whole" "check_whole" (defArgs sCkW) (defBody sCkW) (defScope sCkW) .none kV5 dc5 pm5 an5 cd5 ct5), sl5⟩)
    (c5 : PySem.W.codeIn K cd5 "check_whole" = true)
    (k5 : PySem.W.keepIn K (.ref f5) = true)
    (a6 : PySem.W.nsIn K mainGlobals "counts_by_rounds" = some (some (.ref f6)))
    (l6 : K.lookup f6 = some ⟨oc6, od6, .func (PySem.W.fnOf "counts_by_rounds" "counts_by_rounds" (defArgs sCbR) (defBody sCbR) (defScope sCbR) .none kV6 dc6 pm6 an6 cd6 ct6), sl6⟩)
    (c6 : PySem.W.codeIn K cd6 "counts_by_rounds" = true)
    (k6 : PySem.W.keepIn K (.ref f6) = true)
    (a7 : PySem.W.nsIn K mainGlobals "with_rounds" = some (some (.ref f7)))
    (l7 : K.lookup f7 = some ⟨oc7, od7, .func (PySem.W.fnOf "with_rounds" "with_rounds" (defArgs sWR) (defBody sWR) (defScope sWR) .none kV7 dc7 pm7 an7 cd7 ct7), sl7⟩)
    (c7 : PySem.W.codeIn K cd7 "with_rounds" = true)
    (k7 : PySem.W.keepIn K (.ref f7) = true)
    (a8 : PySem.W.nsIn K mainGlobals "all_layings" = some (some (.ref f8)))
    (l8 : K.lookup f8 = some ⟨oc8, od8, .func (PySem.W.fnOf "all_layings" "all_layings" (defArgs sAllL) (defBody sAllL) (defScope sAllL) .none kV8 dc8 pm8 an8 cd8 ct8), sl8⟩)
    (c8 : PySem.W.codeIn K cd8 "all_layings" = true)
    (k8 : PySem.W.keepIn K (.ref f8) = true)
    (a9 : PySem.W.nsIn K mainGlobals "with_size" = some (some (.ref f9)))
    (l9 : K.lookup f9 = some ⟨oc9, od9, .func (PySem.W.fnOf "with_size" "with_size" (defArgs sWS) (defBody sWS) (defScope sWS) .none kV9 dc9 pm9 an9 cd9 ct9), sl9⟩)
    (c9 : PySem.W.codeIn K cd9 "with_size" = true)
    (k9 : PySem.W.keepIn K (.ref f9) = true)
    (a10 : PySem.W.nsIn K mainGlobals "together" = some (some (.ref f10)))
    (l10 : K.lookup f10 = some ⟨oc10, od10, .func (PySem.W.fnOf "together" "together" (defArgs sTog) (defBody sTog) (defScope sTog) .none kV10 dc10 pm10 an10 cd10 ct10), sl10⟩)
    (c10 : PySem.W.codeIn K cd10 "together" = true)
    (k10 : PySem.W.keepIn K (.ref f10) = true)
    (a11 : PySem.W.nsIn K mainGlobals "_law_counts_refused" = some (some (.ref f11)))
    (l11 : K.lookup f11 = some ⟨oc11, od11, .func (PySem.W.fnOf "_law_counts_refused" "_law_counts_refused" (defArgs sLCR) (defBody sLCR) (defScope sLCR) .none kV11 dc11 pm11 an11 (.ref c_LCR) ct11), sl11⟩)
    (c11 : PySem.W.codeIn K (.ref c_LCR) "_law_counts_refused" = true)
    (k11 : PySem.W.keepIn K (.ref f11) = true)
    (a12 : PySem.W.nsIn K mainGlobals "_law_cell_at" = some (some (.ref f12)))
    (l12 : K.lookup f12 = some ⟨oc12, od12, .func (PySem.W.fnOf "_law_cell_at" "_law_cell_at" (defArgs sCell) (defBody sCell) (defScope sCell) .none kV12 dc12 pm12 an12 cd12 ct12), sl12⟩)
    (c12 : PySem.W.codeIn K cd12 "_law_cell_at" = true)
    (k12 : PySem.W.keepIn K (.ref f12) = true)
    (a13 : PySem.W.nsIn K mainGlobals "_law_refused" = some (some (.ref f13)))
    (l13 : K.lookup f13 = some ⟨oc13, od13, .func (PySem.W.fnOf "_law_refused" "_law_refused" (defArgs sRef) (defBody sRef) (defScope sRef) .none kV13 dc13 pm13 an13 cd13 ct13), sl13⟩)
    (c13 : PySem.W.codeIn K cd13 "_law_refused" = true)
    (k13 : PySem.W.keepIn K (.ref f13) = true)
    (a14 : PySem.W.nsIn K mainGlobals "law" = some (some (.ref f14)))
    (l14 : K.lookup f14 = some ⟨oc14, od14, .func (PySem.W.fnOf "law" "law" (defArgs sLaw) (defBody sLaw) (defScope sLaw) .none kV14 dc14 pm14 an14 (.ref c_Law) ct14), sl14⟩)
    (c14 : PySem.W.codeIn K (.ref c_Law) "law" = true)
    (k14 : PySem.W.keepIn K (.ref f14) = true)
    (z_isi : PySem.W.nsIn K mainGlobals "isinstance" = some none)
    (z_tup : PySem.W.nsIn K mainGlobals "tuple" = some none)
    (z_lst : PySem.W.nsIn K mainGlobals "list" = some none)
    (z_str : PySem.W.nsIn K mainGlobals "str" = some none)
    (z_len : PySem.W.nsIn K mainGlobals "len" = some none)
    (z_all : PySem.W.nsIn K mainGlobals "all" = some none)
    (z_zip : PySem.W.nsIn K mainGlobals "zip" = some none)
    (z_rng : PySem.W.nsIn K mainGlobals "range" = some none)
    (z_int : PySem.W.nsIn K mainGlobals "int" = some none)
    (z_max : PySem.W.nsIn K mainGlobals "max" = some none)
    (z_min : PySem.W.nsIn K mainGlobals "min" = some none)
    (z_srt : PySem.W.nsIn K mainGlobals "sorted" = some none)
    (z_enu : PySem.W.nsIn K mainGlobals "enumerate" = some none)
    (z_sum : PySem.W.nsIn K mainGlobals "sum" = some none)
    (z_abs : PySem.W.nsIn K mainGlobals "abs" = some none)
    (z_rpr : PySem.W.nsIn K mainGlobals "repr" = some none)
    (z_set : PySem.W.nsIn K mainGlobals "set" = some none)
    (z_bool : PySem.W.nsIn K mainGlobals "bool" = some none)
    (z_ver : PySem.W.nsIn K mainGlobals "ValueError" = some none)
    (z_any : PySem.W.nsIn K mainGlobals "any" = some none)
    (m_MOST_COUNTED : PySem.W.nsIn K mainGlobals "MOST_COUNTED" = some (some (.int 40 t_MOST_COUNTED)))
    (e_NoHouse : PySem.W.nsIn K mainGlobals "NoHouse" = some (some (.ref d0)))
    (i_NoHouse : PySem.W.isClsIn K d0 = true)
    (t_NoHouse : PySem.W.typeIn K (.ref d0) = some (.type "type"))
    (b_NoHouse : PySem.W.subIn K (.ref d0) (.type "BaseException") = some true)
    (h_NoHouse : PySem.W.hasDictIn K d0 = true)
    (e_NoColour : PySem.W.nsIn K mainGlobals "NoColour" = some (some (.ref d1)))
    (i_NoColour : PySem.W.isClsIn K d1 = true)
    (t_NoColour : PySem.W.typeIn K (.ref d1) = some (.type "type"))
    (b_NoColour : PySem.W.subIn K (.ref d1) (.type "BaseException") = some true)
    (h_NoColour : PySem.W.hasDictIn K d1 = true)
    (e_NoRow : PySem.W.nsIn K mainGlobals "NoRow" = some (some (.ref d2)))
    (i_NoRow : PySem.W.isClsIn K d2 = true)
    (t_NoRow : PySem.W.typeIn K (.ref d2) = some (.type "type"))
    (b_NoRow : PySem.W.subIn K (.ref d2) (.type "BaseException") = some true)
    (h_NoRow : PySem.W.hasDictIn K d2 = true)
    (e_NoBoxes : PySem.W.nsIn K mainGlobals "NoBoxes" = some (some (.ref d3)))
    (i_NoBoxes : PySem.W.isClsIn K d3 = true)
    (t_NoBoxes : PySem.W.typeIn K (.ref d3) = some (.type "type"))
    (b_NoBoxes : PySem.W.subIn K (.ref d3) (.type "BaseException") = some true)
    (h_NoBoxes : PySem.W.hasDictIn K d3 = true)
    (e_NoLaying : PySem.W.nsIn K mainGlobals "NoLaying" = some (some (.ref d4)))
    (i_NoLaying : PySem.W.isClsIn K d4 = true)
    (t_NoLaying : PySem.W.typeIn K (.ref d4) = some (.type "type"))
    (b_NoLaying : PySem.W.subIn K (.ref d4) (.type "BaseException") = some true)
    (h_NoLaying : PySem.W.hasDictIn K d4 = true)
    (e_NoNumber : PySem.W.nsIn K mainGlobals "NoNumber" = some (some (.ref d5)))
    (i_NoNumber : PySem.W.isClsIn K d5 = true)
    (t_NoNumber : PySem.W.typeIn K (.ref d5) = some (.type "type"))
    (b_NoNumber : PySem.W.subIn K (.ref d5) (.type "BaseException") = some true)
    (h_NoNumber : PySem.W.hasDictIn K d5 = true)
    (e_NoBox : PySem.W.nsIn K mainGlobals "NoBox" = some (some (.ref d6)))
    (i_NoBox : PySem.W.isClsIn K d6 = true)
    (t_NoBox : PySem.W.typeIn K (.ref d6) = some (.type "type"))
    (b_NoBox : PySem.W.subIn K (.ref d6) (.type "BaseException") = some true)
    (h_NoBox : PySem.W.hasDictIn K d6 = true)
    (e_NoKey : PySem.W.nsIn K mainGlobals "NoKey" = some (some (.ref d7)))
    (i_NoKey : PySem.W.isClsIn K d7 = true)
    (t_NoKey : PySem.W.typeIn K (.ref d7) = some (.type "type"))
    (b_NoKey : PySem.W.subIn K (.ref d7) (.type "BaseException") = some true)
    (h_NoKey : PySem.W.hasDictIn K d7 = true)
    (e_Locks : PySem.W.nsIn K mainGlobals "Locks" = some (some (.ref d8)))
    (i_Locks : PySem.W.isClsIn K d8 = true)
    (t_Locks : PySem.W.typeIn K (.ref d8) = some (.type "type"))
    (b_Locks : PySem.W.subIn K (.ref d8) (.type "BaseException") = some true)
    (h_Locks : PySem.W.hasDictIn K d8 = true)
    (e_Unlike : PySem.W.nsIn K mainGlobals "Unlike" = some (some (.ref d9)))
    (i_Unlike : PySem.W.isClsIn K d9 = true)
    (t_Unlike : PySem.W.typeIn K (.ref d9) = some (.type "type"))
    (b_Unlike : PySem.W.subIn K (.ref d9) (.type "BaseException") = some true)
    (h_Unlike : PySem.W.hasDictIn K d9 = true)
    (e_Open : PySem.W.nsIn K mainGlobals "Open" = some (some (.ref d10)))
    (i_Open : PySem.W.isClsIn K d10 = true)
    (t_Open : PySem.W.typeIn K (.ref d10) = some (.type "type"))
    (b_Open : PySem.W.subIn K (.ref d10) (.type "BaseException") = some true)
    (h_Open : PySem.W.hasDictIn K d10 = true)
    (e_Shut : PySem.W.nsIn K mainGlobals "Shut" = some (some (.ref d11)))
    (i_Shut : PySem.W.isClsIn K d11 = true)
    (t_Shut : PySem.W.typeIn K (.ref d11) = some (.type "type"))
    (b_Shut : PySem.W.subIn K (.ref d11) (.type "BaseException") = some true)
    (h_Shut : PySem.W.hasDictIn K d11 = true)
    (e_Full : PySem.W.nsIn K mainGlobals "Full" = some (some (.ref d12)))
    (i_Full : PySem.W.isClsIn K d12 = true)
    (t_Full : PySem.W.typeIn K (.ref d12) = some (.type "type"))
    (b_Full : PySem.W.subIn K (.ref d12) (.type "BaseException") = some true)
    (h_Full : PySem.W.hasDictIn K d12 = true)
    (e_NothingLeft : PySem.W.nsIn K mainGlobals "NothingLeft" = some (some (.ref d13)))
    (i_NothingLeft : PySem.W.isClsIn K d13 = true)
    (t_NothingLeft : PySem.W.typeIn K (.ref d13) = some (.type "type"))
    (b_NothingLeft : PySem.W.subIn K (.ref d13) (.type "BaseException") = some true)
    (h_NothingLeft : PySem.W.hasDictIn K d13 = true)
    (e_TooMany : PySem.W.nsIn K mainGlobals "TooMany" = some (some (.ref dT)))
    (i_TooMany : PySem.W.isClsIn K dT = true)
    (t_TooMany : PySem.W.typeIn K (.ref dT) = some (.type "type"))
    (b_TooMany : PySem.W.subIn K (.ref dT) (.type "BaseException") = some true)
    (h_TooMany : PySem.W.hasDictIn K dT = true)
    (e_Locked : PySem.W.nsIn K mainGlobals "Locked" = some (some (.ref dL)))
    (i_Locked : PySem.W.isClsIn K dL = true)
    (t_Locked : PySem.W.typeIn K (.ref dL) = some (.type "type"))
    (b_Locked : PySem.W.subIn K (.ref dL) (.type "BaseException") = some true)
    (h_Locked : PySem.W.hasDictIn K dL = true)
    (e_BoxError : PySem.W.nsIn K mainGlobals "BoxError" = some (some (.ref dB)))
    (i_BoxError : PySem.W.isClsIn K dB = true)
    (t_BoxError : PySem.W.typeIn K (.ref dB) = some (.type "type"))
    (b_BoxError : PySem.W.subIn K (.ref dB) (.type "BaseException") = some true)
    (h_BoxError : PySem.W.hasDictIn K dB = true)
    (v_NoNumber : PySem.W.subIn K (.ref d5) (.type "ValueError") = some true)
    (s_NoNumber_NoHouse : PySem.W.subIn K (.ref d5) (.ref d0) = some false)
    (n_NoNumber_NoHouse : (Value.ref d5 == .ref d0) = false)
    (s_NoNumber_NoColour : PySem.W.subIn K (.ref d5) (.ref d1) = some false)
    (n_NoNumber_NoColour : (Value.ref d5 == .ref d1) = false)
    (s_NoNumber_NoRow : PySem.W.subIn K (.ref d5) (.ref d2) = some false)
    (n_NoNumber_NoRow : (Value.ref d5 == .ref d2) = false)
    (s_NoNumber_NoBoxes : PySem.W.subIn K (.ref d5) (.ref d3) = some false)
    (n_NoNumber_NoBoxes : (Value.ref d5 == .ref d3) = false)
    (s_NoNumber_NoLaying : PySem.W.subIn K (.ref d5) (.ref d4) = some false)
    (n_NoNumber_NoLaying : (Value.ref d5 == .ref d4) = false)
    (s_NoNumber_NoNumber : PySem.W.subIn K (.ref d5) (.ref d5) = some true)
    (s_NoNumber_NoBox : PySem.W.subIn K (.ref d5) (.ref d6) = some false)
    (n_NoNumber_NoBox : (Value.ref d5 == .ref d6) = false)
    (s_NoNumber_NoKey : PySem.W.subIn K (.ref d5) (.ref d7) = some false)
    (n_NoNumber_NoKey : (Value.ref d5 == .ref d7) = false)
    (s_NoNumber_Locks : PySem.W.subIn K (.ref d5) (.ref d8) = some false)
    (n_NoNumber_Locks : (Value.ref d5 == .ref d8) = false)
    (s_NoNumber_Unlike : PySem.W.subIn K (.ref d5) (.ref d9) = some false)
    (n_NoNumber_Unlike : (Value.ref d5 == .ref d9) = false)
    (s_NoNumber_Open : PySem.W.subIn K (.ref d5) (.ref d10) = some false)
    (n_NoNumber_Open : (Value.ref d5 == .ref d10) = false)
    (s_NoNumber_Shut : PySem.W.subIn K (.ref d5) (.ref d11) = some false)
    (n_NoNumber_Shut : (Value.ref d5 == .ref d11) = false)
    (s_NoNumber_Full : PySem.W.subIn K (.ref d5) (.ref d12) = some false)
    (n_NoNumber_Full : (Value.ref d5 == .ref d12) = false)
    (s_NoNumber_NothingLeft : PySem.W.subIn K (.ref d5) (.ref d13) = some false)
    (n_NoNumber_NothingLeft : (Value.ref d5 == .ref d13) = false)
    (s_NoNumber_TooMany : PySem.W.subIn K (.ref d5) (.ref dT) = some false)
    (s_NoNumber_Locked : PySem.W.subIn K (.ref d5) (.ref dL) = some false)
    (s_NoNumber_BoxError : PySem.W.subIn K (.ref d5) (.ref dB) = some true)
    (w1_NoNumber : PySem.W.findIn K (.ref d5) "__getattribute__" = some (some (.builtin "BaseException.__getattribute__")))
    (w2_NoNumber : PySem.W.findIn K (.ref d5) "__getattr__" = some none)
    (w5_NoNumber : PySem.W.findIn K (.ref d5) "__class__" = some (some (.builtin "object.__class__")))
    (w8_NoNumber : PySem.W.mroIn K d5 (.type "object") = some true)
    (xq_NoNumber : PySem.W.excIn K d5 [.type "ValueError", .type "Exception", .type "BaseException", .type "object"] "ValueError.__new__" = true)
    (xk_NoNumber : PySem.W.keepIn K (.ref d5) = true)
    (w6 : PySem.W.specialIn K (.builtin "object.__class__") "__get__" = some (some (.builtin "getset_descriptor.__get__")))
    (w7 : PySem.W.takesIn K (.builtin "object.__class__") = some true)
    (tn_Law : K.lookup Pt_Law = none)
    (tl_Law : K.lookup c_Law = some ⟨.type "code", tod_Law, .fields tvs_Law, tsl_Law⟩)
    (th_Law : codeVs tvs_Law c_Law Pt_Law = true)
    (tn_LCR : K.lookup Pt_LCR = none)
    (tl_LCR : K.lookup c_LCR = some ⟨.type "code", tod_LCR, .fields tvs_LCR, tsl_LCR⟩)
    (th_LCR : codeVs tvs_LCR c_LCR Pt_LCR = true)
    (pne : (Pt_Law == Pt_LCR) = false)
    : LawAtS l w K CX0 20 63 "script" mg fa h := by
  have e := hfa.symm.trans (PySem.W.mg_of X G a14)
  cases e
  have F1 := fun_mk (st := sLAL) l1 c1 k1
  have D1 : Df K mg "_law_all_layings" sLAL ["many"] f1 _ := ⟨F1, PySem.W.mg_of X G a1, F1.binds fun _ _ _ _ _ _ us hl => match us, hl with | [_], _ => rfl⟩
  have F2 := fun_mk (st := sCyc) l2 c2 k2
  have D2 : Df K mg "_law_cycles" sCyc ["laying"] f2 _ := ⟨F2, PySem.W.mg_of X G a2, F2.binds fun _ _ _ _ _ _ us hl => match us, hl with | [_], _ => rfl⟩
  have F3 := fun_mk (st := sWho) l3 c3 k3
  have D3 : Df K mg "is_whole" sWho ["thing"] f3 _ := ⟨F3, PySem.W.mg_of X G a3, F3.binds fun _ _ _ _ _ _ us hl => match us, hl with | [_], _ => rfl⟩
  have F4 := fun_mk (st := sCkN) l4 c4 k4
  have D4 : Df K mg "check_number" sCkN ["thing", "least", "most"] f4 _ := ⟨F4, PySem.W.mg_of X G a4, F4.binds fun _ _ _ _ _ _ us hl => match us, hl with | [_, _, _], _ => rfl⟩
  have F5 := fun_mk (st := sCkW) l5 c5 k5
  have D5 : Df K mg "check_whole" sCkW ["thing"] f5 _ := ⟨F5, PySem.W.mg_of X G a5, F5.binds fun _ _ _ _ _ _ us hl => match us, hl with | [_], _ => rfl⟩
  have F6 := fun_mk (st := sCbR) l6 c6 k6
  have D6 : Df K mg "counts_by_rounds" sCbR ["boxes"] f6 _ := ⟨F6, PySem.W.mg_of X G a6, F6.binds fun _ _ _ _ _ _ us hl => match us, hl with | [_], _ => rfl⟩
  have F7 := fun_mk (st := sWR) l7 c7 k7
  have D7 : Df K mg "with_rounds" sWR ["boxes", "many"] f7 _ := ⟨F7, PySem.W.mg_of X G a7, F7.binds fun _ _ _ _ _ _ us hl => match us, hl with | [_, _], _ => rfl⟩
  have F8 := fun_mk (st := sAllL) l8 c8 k8
  have D8 : Df K mg "all_layings" sAllL ["boxes"] f8 _ := ⟨F8, PySem.W.mg_of X G a8, F8.binds fun _ _ _ _ _ _ us hl => match us, hl with | [_], _ => rfl⟩
  have F9 := fun_mk (st := sWS) l9 c9 k9
  have D9 : Df K mg "with_size" sWS ["boxes", "many"] f9 _ := ⟨F9, PySem.W.mg_of X G a9, F9.binds fun _ _ _ _ _ _ us hl => match us, hl with | [_, _], _ => rfl⟩
  have F10 := fun_mk (st := sTog) l10 c10 k10
  have D10 : Df K mg "together" sTog ["boxes", "many"] f10 _ := ⟨F10, PySem.W.mg_of X G a10, F10.binds fun _ _ _ _ _ _ us hl => match us, hl with | [_, _], _ => rfl⟩
  have F11 := fun_mk (st := sLCR) l11 c11 k11
  have D11 : Df K mg "_law_counts_refused" sLCR [] f11 _ := ⟨F11, PySem.W.mg_of X G a11, F11.binds fun _ _ _ _ _ _ us hl => match us, hl with | [], _ => rfl⟩
  have F12 := fun_mk (st := sCell) l12 c12 k12
  have D12 : Df K mg "_law_cell_at" sCell ["script", "k"] f12 _ := ⟨F12, PySem.W.mg_of X G a12, F12.binds fun _ _ _ _ _ _ us hl => match us, hl with | [_, _], _ => rfl⟩
  have F13 := fun_mk (st := sRef) l13 c13 k13
  have D13 : Df K mg "_law_refused" sRef ["call", "one", "two", "three"] f13 _ := ⟨F13, PySem.W.mg_of X G a13, F13.binds fun _ _ _ _ _ _ us hl => match us, hl with | [_, _, _, _], _ => rfl⟩
  have F14 := fun_mk (st := sLaw) l14 c14 k14
  have B : Bu mg := ⟨PySem.W.mg_none_of X G z_isi, PySem.W.mg_none_of X G z_tup, PySem.W.mg_none_of X G z_lst, PySem.W.mg_none_of X G z_str, PySem.W.mg_none_of X G z_len, PySem.W.mg_none_of X G z_all, PySem.W.mg_none_of X G z_zip, PySem.W.mg_none_of X G z_rng, PySem.W.mg_none_of X G z_int, PySem.W.mg_none_of X G z_max, PySem.W.mg_none_of X G z_min, PySem.W.mg_none_of X G z_srt, PySem.W.mg_none_of X G z_enu, PySem.W.mg_none_of X G z_sum, PySem.W.mg_none_of X G z_abs, PySem.W.mg_none_of X G z_rpr, PySem.W.mg_none_of X G z_set, PySem.W.mg_none_of X G z_bool, PySem.W.mg_none_of X G z_ver, PySem.W.mg_none_of X G z_any⟩
  have n_MOST_COUNTED := PySem.W.mg_of X G m_MOST_COUNTED
  have C_NoHouse : ClsT K mg "NoHouse" d0 := ⟨PySem.W.mg_of X G e_NoHouse, i_NoHouse, t_NoHouse, b_NoHouse, h_NoHouse⟩
  have C_NoColour : ClsT K mg "NoColour" d1 := ⟨PySem.W.mg_of X G e_NoColour, i_NoColour, t_NoColour, b_NoColour, h_NoColour⟩
  have C_NoRow : ClsT K mg "NoRow" d2 := ⟨PySem.W.mg_of X G e_NoRow, i_NoRow, t_NoRow, b_NoRow, h_NoRow⟩
  have C_NoBoxes : ClsT K mg "NoBoxes" d3 := ⟨PySem.W.mg_of X G e_NoBoxes, i_NoBoxes, t_NoBoxes, b_NoBoxes, h_NoBoxes⟩
  have C_NoLaying : ClsT K mg "NoLaying" d4 := ⟨PySem.W.mg_of X G e_NoLaying, i_NoLaying, t_NoLaying, b_NoLaying, h_NoLaying⟩
  have C_NoNumber : ClsT K mg "NoNumber" d5 := ⟨PySem.W.mg_of X G e_NoNumber, i_NoNumber, t_NoNumber, b_NoNumber, h_NoNumber⟩
  have C_NoBox : ClsT K mg "NoBox" d6 := ⟨PySem.W.mg_of X G e_NoBox, i_NoBox, t_NoBox, b_NoBox, h_NoBox⟩
  have C_NoKey : ClsT K mg "NoKey" d7 := ⟨PySem.W.mg_of X G e_NoKey, i_NoKey, t_NoKey, b_NoKey, h_NoKey⟩
  have C_Locks : ClsT K mg "Locks" d8 := ⟨PySem.W.mg_of X G e_Locks, i_Locks, t_Locks, b_Locks, h_Locks⟩
  have C_Unlike : ClsT K mg "Unlike" d9 := ⟨PySem.W.mg_of X G e_Unlike, i_Unlike, t_Unlike, b_Unlike, h_Unlike⟩
  have C_Open : ClsT K mg "Open" d10 := ⟨PySem.W.mg_of X G e_Open, i_Open, t_Open, b_Open, h_Open⟩
  have C_Shut : ClsT K mg "Shut" d11 := ⟨PySem.W.mg_of X G e_Shut, i_Shut, t_Shut, b_Shut, h_Shut⟩
  have C_Full : ClsT K mg "Full" d12 := ⟨PySem.W.mg_of X G e_Full, i_Full, t_Full, b_Full, h_Full⟩
  have C_NothingLeft : ClsT K mg "NothingLeft" d13 := ⟨PySem.W.mg_of X G e_NothingLeft, i_NothingLeft, t_NothingLeft, b_NothingLeft, h_NothingLeft⟩
  have C_TooMany : ClsT K mg "TooMany" dT := ⟨PySem.W.mg_of X G e_TooMany, i_TooMany, t_TooMany, b_TooMany, h_TooMany⟩
  have C_Locked : ClsT K mg "Locked" dL := ⟨PySem.W.mg_of X G e_Locked, i_Locked, t_Locked, b_Locked, h_Locked⟩
  have C_BoxError : ClsT K mg "BoxError" dB := ⟨PySem.W.mg_of X G e_BoxError, i_BoxError, t_BoxError, b_BoxError, h_BoxError⟩
  have hC : ∀ i, i < 14 → ClsT K mg (nmC i) ([d0, d1, d2, d3, d4, d5, d6, d7, d8, d9, d10, d11, d12, d13].getD i d0) := fun i hi => match i, hi with | 0, _ => C_NoHouse | 1, _ => C_NoColour | 2, _ => C_NoRow | 3, _ => C_NoBoxes | 4, _ => C_NoLaying | 5, _ => C_NoNumber | 6, _ => C_NoBox | 7, _ => C_NoKey | 8, _ => C_Locks | 9, _ => C_Unlike | 10, _ => C_Open | 11, _ => C_Shut | 12, _ => C_Full | 13, _ => C_NothingLeft | i + 14, hi => absurd hi (by omega)
  have R_NoNumber : RaiseT K d5 := ⟨v_NoNumber, ⟨w1_NoNumber, w2_NoNumber, b_NoNumber, h_NoNumber, w5_NoNumber, w6, w7, w8_NoNumber⟩, xq_NoNumber, xk_NoNumber⟩
  have E_NoNumber := R_NoNumber.exc C_NoNumber
  have T_NoNumber : RefT K mg d5 (fun i => [d0, d1, d2, d3, d4, d5, d6, d7, d8, d9, d10, d11, d12, d13].getD i d0) (fun i => decide (i = 5)) dT dL dB := refT_of R_NoNumber C_TooMany C_Locked C_BoxError hC s_NoNumber_TooMany s_NoNumber_Locked s_NoNumber_BoxError (fun i hi => match i, hi with | 0, _ => ⟨s_NoNumber_NoHouse, .inr n_NoNumber_NoHouse⟩ | 1, _ => ⟨s_NoNumber_NoColour, .inr n_NoNumber_NoColour⟩ | 2, _ => ⟨s_NoNumber_NoRow, .inr n_NoNumber_NoRow⟩ | 3, _ => ⟨s_NoNumber_NoBoxes, .inr n_NoNumber_NoBoxes⟩ | 4, _ => ⟨s_NoNumber_NoLaying, .inr n_NoNumber_NoLaying⟩ | 5, _ => ⟨s_NoNumber_NoNumber, .inl rfl⟩ | 6, _ => ⟨s_NoNumber_NoBox, .inr n_NoNumber_NoBox⟩ | 7, _ => ⟨s_NoNumber_NoKey, .inr n_NoNumber_NoKey⟩ | 8, _ => ⟨s_NoNumber_Locks, .inr n_NoNumber_Locks⟩ | 9, _ => ⟨s_NoNumber_Unlike, .inr n_NoNumber_Unlike⟩ | 10, _ => ⟨s_NoNumber_Open, .inr n_NoNumber_Open⟩ | 11, _ => ⟨s_NoNumber_Shut, .inr n_NoNumber_Shut⟩ | 12, _ => ⟨s_NoNumber_Full, .inr n_NoNumber_Full⟩ | 13, _ => ⟨s_NoNumber_NothingLeft, .inr n_NoNumber_NothingLeft⟩ | i + 14, hi => absurd hi (by omega)) B.isi B.ver
  refine ⟨PySem.W.fnOf "law" "law" (defArgs sLaw) (defBody sLaw) (defScope sLaw) .none kV14 dc14 pm14 an14 (.ref c_Law) ct14, [(c_Law, Pt_Law), (c_LCR, Pt_LCR)], spLawX K [(Pt_Law, lamQ_Law), (Pt_LCR, lamQ_LCR)], (fun p hp => ?_), (fun p hp => ?_), (fun p hp => ?_), fun s v => .of_eq rfl, (fun H a ns hl _ hH hS => ⟨a, ns, rfl, hS, hl, (fun p hp => ?_), fun _ => rfl⟩), fun base _ _ TB => ?_⟩
  ·
    simp only [List.mem_cons, List.not_mem_nil, or_false] at hp
    rcases hp with rfl | rfl
    · exact tab_Law
    · exact tab_LCR
  ·
    simp only [List.mem_cons, List.not_mem_nil, or_false] at hp
    rcases hp with rfl | rfl
    · exact tn_Law
    · exact tn_LCR
  ·
    simp only [List.mem_cons, List.not_mem_nil, or_false] at hp
    rcases hp with rfl | rfl
    · exact PySem.W.codeHd_of_K X (codeHd_by tl_Law th_Law)
    · exact PySem.W.codeHd_of_K X (codeHd_by tl_LCR th_LCR)
  ·
    simp only [List.mem_cons, List.not_mem_nil, or_false] at hp
    rcases hp with rfl | rfl
    · exact TabS.nil (hH (c_Law, Pt_Law) (by simp))
    · exact TabS.nil (hH (c_LCR, Pt_LCR) (by simp))
  have TB_Law := TB (c_Law, Pt_Law) (by simp)
  have TB_LCR := TB (c_LCR, Pt_LCR) (by simp)
  have g1 : ∀ k : Nat, FnOk l.prog w K mg base CX0 (k + 1) f1 _ ["many"] (spLAL K) := fun k => ok_lal F1   B
  have g2 : ∀ k : Nat, FnOk l.prog w K mg base CX0 (k + 1) f2 _ ["laying"] (spCyc K) := fun k => ok_cyc F2   B
  have g3 : ∀ k : Nat, FnOk l.prog w K mg base CX0 (k + 1) f3 _ ["thing"] (spWho K) := fun k => ok_who F3   B
  have g4 : ∀ k : Nat, FnOk l.prog w K mg base CX0 (k + 2) f4 _ ["thing", "least", "most"] (spCkN K) := fun k => ok_ckn F4 D3 (g3 k) 
  have g5 : ∀ k : Nat, FnOk l.prog w K mg base CX0 (k + 2) f5 _ ["thing"] (spCkW K) := fun k => ok_ckw F5 D3 (g3 k) 
  have g6 : ∀ k : Nat, FnOk l.prog w K mg base CX0 (k + 1) f6 _ ["boxes"] (spCbR K) := fun k => ok_cbr F6   B
  have g7 : ∀ k : Nat, FnOk l.prog w K mg base CX0 (k + 3) f7 _ ["boxes", "many"] (spWR K) := fun k => ok_wr F7 D4 D5 D6 (g4 k) (g5 k) (g6 k) n_MOST_COUNTED
  have g8 : ∀ k : Nat, FnOk l.prog w K mg base CX0 (k + 1) f8 _ ["boxes"] (spAllL K) := fun k => ok_allL F8   B
  have g9 : ∀ k : Nat, FnOk l.prog w K mg base CX0 (k + 3) f9 _ ["boxes", "many"] (spWS K) := fun k => ok_ws F9 D4 D5 D8 (g4 k) (g5 k) (g8 k) n_MOST_COUNTED
  have g10 : ∀ k : Nat, FnOk l.prog w K mg base CX0 (k + 3) f10 _ ["boxes", "many"] (spTog K) := fun k => ok_tog F10 D4 D8 (g4 k) (g8 k) n_MOST_COUNTED
  have g12 : ∀ k : Nat, FnOk l.prog w K mg base CX0 (k + 1) f12 _ ["script", "k"] (spCell K) := fun k => ok_cell F12   B
  have TG : RefG K mg (fun i => [d0, d1, d2, d3, d4, d5, d6, d7, d8, d9, d10, d11, d12, d13].getD i d0) rs09 false false dT dL dB := ⟨C_TooMany.g, C_Locked.g, C_BoxError.g, B.isi, B.ver, (fun i hi h => by
    have h : i = 5 := by simpa [rs09] using h
    rw [h]
    exact T_NoNumber), (fun h => by cases h), fun h => by cases h⟩
  have xCkN : ∀ k : Nat, FnOk l.prog w K mg base (L2N.CX l.prog w) (k + 2) f4 _ ["thing", "least", "most"] (spCkNY K d5) := fun k => ok_cknY F4 D3 (g3 k) E_NoNumber
  have xCkW : ∀ k : Nat, FnOk l.prog w K mg base (L2N.CX l.prog w) (k + 2) f5 _ ["thing"] (spCkWX K d5) := fun k => ok_ckwX F5 D3 (g3 k) E_NoNumber
  have xnWR : ∀ k : Nat, FnOk l.prog w K mg base (L2N.CX l.prog w) (k + 3) f7 _ ["boxes", "many"] (spNBl K d5 0) := fun k => ok_nbWR F7 D4 (xCkN k) n_MOST_COUNTED
  have xnWS : ∀ k : Nat, FnOk l.prog w K mg base (L2N.CX l.prog w) (k + 3) f9 _ ["boxes", "many"] (spNBl K d5 1) := fun k => ok_nbWS F9 D4 (xCkN k) n_MOST_COUNTED
  have xnTog : ∀ k : Nat, FnOk l.prog w K mg base (L2N.CX l.prog w) (k + 3) f10 _ ["boxes", "many"] (spNBl K d5 1) := fun k => ok_nbTog F10 D4 (xCkN k) n_MOST_COUNTED
  have xmWR : ∀ k : Nat, FnOk l.prog w K mg base (L2N.CX l.prog w) (k + 3) f7 _ ["boxes", "many"] (spNM K d5) := fun k => ok_nmWR F7 D4 D5 (g4 k) (xCkW k) n_MOST_COUNTED
  have xmWS : ∀ k : Nat, FnOk l.prog w K mg base (L2N.CX l.prog w) (k + 3) f9 _ ["boxes", "many"] (spNM K d5) := fun k => ok_nmWS F9 D4 D5 (g4 k) (xCkW k) n_MOST_COUNTED
  have xmTog : ∀ k : Nat, FnOk l.prog w K mg base (L2N.CX l.prog w) (k + 3) f10 _ ["boxes", "many"] (spTogX K d5) := fun k => ok_togX F10 D4 (g4 k) (xCkN k) n_MOST_COUNTED
  have M0 : ∀ c', LOk l.prog w K mg base (L2N.CX l.prog w) 17 (lamMLCR0 c') lamBLCR0 ["a", "b", "c"] (spDoor2 (pick3 f7 f9 f10) (pick3 (spNBl K d5 0) (spNBl K d5 1) (spNBl K d5 1))) := fun c' => lok_d3 (sps := (pick3 (spNBl K d5 0) (spNBl K d5 1) (spNBl K d5 1))) (F := lamMLCR0 c') (nscope_by lamSLCR0) rfl (fun pm ctv us hl => match us, hl with | [_, _, _], _ => rfl) D7.F.kp D9.F.kp D10.F.kp D7.b D9.b D10.b (xnWR 13) (xnWS 13) (xnTog 13)
  have gLc0 : FnOk l.prog w K mg base CX0 18 f13 _ ["call", "one", "two", "three"] (spRefG (fun i => [d0, d1, d2, d3, d4, d5, d6, d7, d8, d9, d10, d11, d12, d13].getD i d0) lamMLCR0 lamBLCR0 (spDoor2 (pick3 f7 f9 f10) (pick3 (spNBl K d5 0) (spNBl K d5 1) (spNBl K d5 1))) rs09 false false dT dL) := ok_refG (k := 17) F13 TG M0
  have M1 : ∀ c', LOk l.prog w K mg base (L2N.CX l.prog w) 17 (lamMLCR1 c') lamBLCR1 ["a", "b", "c"] (spDoor2 (pick3 f7 f9 f10) (pick3 (spNM K d5) (spNM K d5) (spTogX K d5))) := fun c' => lok_d3 (sps := (pick3 (spNM K d5) (spNM K d5) (spTogX K d5))) (F := lamMLCR1 c') (nscope_by lamSLCR1) rfl (fun pm ctv us hl => match us, hl with | [_, _, _], _ => rfl) D7.F.kp D9.F.kp D10.F.kp D7.b D9.b D10.b (xmWR 13) (xmWS 13) (xmTog 13)
  have gLc1 : FnOk l.prog w K mg base CX0 18 f13 _ ["call", "one", "two", "three"] (spRefG (fun i => [d0, d1, d2, d3, d4, d5, d6, d7, d8, d9, d10, d11, d12, d13].getD i d0) lamMLCR1 lamBLCR1 (spDoor2 (pick3 f7 f9 f10) (pick3 (spNM K d5) (spNM K d5) (spTogX K d5))) rs09 false false dT dL) := ok_refG (k := 17) F13 TG M1
  have L0 : ∀ c', LOk l.prog w K mg base (L2N.CX l.prog w) 18 (lamMLaw0 c') lamBLaw0 ["a", "b", "c"] (spLam2 (spTogX K d5)) := fun c' => lok_2 (F := lamMLaw0 c') (nscope_by lamSLaw0) rfl rfl (fun pm ctv us hl => match us, hl with | [_, _, _], _ => rfl) D10 (xmTog 14)
  have gRef0 : FnOk l.prog w K mg base CX0 19 f13 _ ["call", "one", "two", "three"] (spRefG (fun i => [d0, d1, d2, d3, d4, d5, d6, d7, d8, d9, d10, d11, d12, d13].getD i d0) lamMLaw0 lamBLaw0 (spLam2 (spTogX K d5)) rs09 false false dT dL) := ok_refG (k := 18) F13 TG L0
  have L1 : ∀ c', LOk l.prog w K mg base (L2N.CX l.prog w) 18 (lamMLaw1 c') lamBLaw1 ["a", "b", "c"] (spLam2 (spNBl K d5 1)) := fun c' => lok_2 (F := lamMLaw1 c') (nscope_by lamSLaw1) rfl rfl (fun pm ctv us hl => match us, hl with | [_, _, _], _ => rfl) D9 (xnWS 14)
  have gRef1 : FnOk l.prog w K mg base CX0 19 f13 _ ["call", "one", "two", "three"] (spRefG (fun i => [d0, d1, d2, d3, d4, d5, d6, d7, d8, d9, d10, d11, d12, d13].getD i d0) lamMLaw1 lamBLaw1 (spLam2 (spNBl K d5 1)) rs09 false false dT dL) := ok_refG (k := 18) F13 TG L1
  have gLCR := ok_lcr (k := 10) (CD := (fun i => [d0, d1, d2, d3, d4, d5, d6, d7, d8, d9, d10, d11, d12, d13].getD i d0)) (T := [(Pt_Law, lamQ_Law), (Pt_LCR, lamQ_LCR)]) l11 c11 TB_LCR (List.mem_cons_of_mem _ (List.mem_singleton.mpr rfl)) (fun p hp z => by
    rcases List.mem_cons.mp hp with rfl | hp
    · rw [show Pt_Law = Pt_LCR from z] at pne
      rw [beq_self_eq_true] at pne
      cases pne
    · rw [List.mem_singleton.mp hp]) D13 D7 D9 D10 gLc0 gLc1 (g7 10) (g9 10) (g10 10) B
  exact ok_law (k := 10) (CD := (fun i => [d0, d1, d2, d3, d4, d5, d6, d7, d8, d9, d10, d11, d12, d13].getD i d0)) (T := [(Pt_Law, lamQ_Law), (Pt_LCR, lamQ_LCR)]) l14 c14 TB_Law (List.mem_cons_self ..) (fun p hp z => by
    rcases List.mem_cons.mp hp with rfl | hp
    · rfl
    · rw [List.mem_singleton.mp hp] at z
      rw [show Pt_LCR = Pt_Law from z, beq_self_eq_true] at pne
      cases pne) D13 D1 D2 D7 D9 D10 D11 D12 gRef0 gRef1 (g1 10) (g2 10) (g7 10) (g9 10) (g10 10) gLCR (g12 10) B
end Kw
open PySem PySem.W PyProof.Rows
set_option maxHeartbeats 0 in
theorem PySem.Challenge.cw_keyswithin_k09_counts_by_all_layings_holds : PySem.Challenge.rw_keyswithin_k09_counts_by_all_layings.Holds := by
  w_on; o_law; k_head; (case hw => w_witness2)
  k_fill
  refine LamX.walk_ofTs (l := PySem.Challenge.rw_keyswithin_k09_counts_by_all_layings) (n := 63) (k := 20) (x := "script") (CX := fun _ => L2.CX0) rfl (by decide) rfl ⟨rfl, by decide, by decide⟩ (fun w h Y => PySem.W.km_in_of Y) ?F (fun _ _ _ _ _ h => h)
  case F =>
    intro w mg fa h Y KX G hmg
    refine' Kw.all_mk KX G hmg (PySem.W.km_tabs_of Y _ (List.mem_cons_of_mem _ (List.mem_cons_self ..))) (PySem.W.km_tabs_of Y _ (List.mem_cons_self ..)) ?a1 ?l1 ?c1 ?k1 ?a2 ?l2 ?c2 ?k2 ?a3 ?l3 ?c3 ?k3 ?a4 ?l4 ?c4 ?k4 ?a5 ?l5 ?c5 ?k5 ?a6 ?l6 ?c6 ?k6 ?a7 ?l7 ?c7 ?k7 ?a8 ?l8 ?c8 ?k8 ?a9 ?l9 ?c9 ?k9 ?a10 ?l10 ?c10 ?k10 ?a11 ?l11 ?c11 ?k11 ?a12 ?l12 ?c12 ?k12 ?a13 ?l13 ?c13 ?k13 ?a14 ?l14 ?c14 ?k14 ?z_isi ?z_tup ?z_lst ?z_str ?z_len ?z_all ?z_zip ?z_rng ?z_int ?z_max ?z_min ?z_srt ?z_enu ?z_sum ?z_abs ?z_rpr ?z_set ?z_bool ?z_ver ?z_any ?m_MOST_COUNTED ?e_NoHouse ?i_NoHouse ?t_NoHouse ?b_NoHouse ?h_NoHouse ?e_NoColour ?i_NoColour ?t_NoColour ?b_NoColour ?h_NoColour ?e_NoRow ?i_NoRow ?t_NoRow ?b_NoRow ?h_NoRow ?e_NoBoxes ?i_NoBoxes ?t_NoBoxes ?b_NoBoxes ?h_NoBoxes ?e_NoLaying ?i_NoLaying ?t_NoLaying ?b_NoLaying ?h_NoLaying ?e_NoNumber ?i_NoNumber ?t_NoNumber ?b_NoNumber ?h_NoNumber ?e_NoBox ?i_NoBox ?t_NoBox ?b_NoBox ?h_NoBox ?e_NoKey ?i_NoKey ?t_NoKey ?b_NoKey ?h_NoKey ?e_Locks ?i_Locks ?t_Locks ?b_Locks ?h_Locks ?e_Unlike ?i_Unlike ?t_Unlike ?b_Unlike ?h_Unlike ?e_Open ?i_Open ?t_Open ?b_Open ?h_Open ?e_Shut ?i_Shut ?t_Shut ?b_Shut ?h_Shut ?e_Full ?i_Full ?t_Full ?b_Full ?h_Full ?e_NothingLeft ?i_NothingLeft ?t_NothingLeft ?b_NothingLeft ?h_NothingLeft ?e_TooMany ?i_TooMany ?t_TooMany ?b_TooMany ?h_TooMany ?e_Locked ?i_Locked ?t_Locked ?b_Locked ?h_Locked ?e_BoxError ?i_BoxError ?t_BoxError ?b_BoxError ?h_BoxError ?v_NoNumber ?s_NoNumber_NoHouse ?n_NoNumber_NoHouse ?s_NoNumber_NoColour ?n_NoNumber_NoColour ?s_NoNumber_NoRow ?n_NoNumber_NoRow ?s_NoNumber_NoBoxes ?n_NoNumber_NoBoxes ?s_NoNumber_NoLaying ?n_NoNumber_NoLaying ?s_NoNumber_NoNumber ?s_NoNumber_NoBox ?n_NoNumber_NoBox ?s_NoNumber_NoKey ?n_NoNumber_NoKey ?s_NoNumber_Locks ?n_NoNumber_Locks ?s_NoNumber_Unlike ?n_NoNumber_Unlike ?s_NoNumber_Open ?n_NoNumber_Open ?s_NoNumber_Shut ?n_NoNumber_Shut ?s_NoNumber_Full ?n_NoNumber_Full ?s_NoNumber_NothingLeft ?n_NoNumber_NothingLeft ?s_NoNumber_TooMany ?s_NoNumber_Locked ?s_NoNumber_BoxError ?w1_NoNumber ?w2_NoNumber ?w5_NoNumber ?w8_NoNumber ?xq_NoNumber ?xk_NoNumber ?w6 ?w7 ?tn_Law ?tl_Law ?th_Law ?tn_LCR ?tl_LCR ?th_LCR ?pne
    (case a1 => k_is)
    (case l1 => k_is)
    (case c1 => k_is)
    (case k1 => k_is)
    (case a2 => k_is)
    (case l2 => k_is)
    (case c2 => k_is)
    (case k2 => k_is)
    (case a3 => k_is)
    (case l3 => k_is)
    (case c3 => k_is)
    (case k3 => k_is)
    (case a4 => k_is)
    (case l4 => k_is)
    (case c4 => k_is)
    (case k4 => k_is)
    (case a5 => k_is)
    (case l5 => k_is)
    (case c5 => k_is)
    (case k5 => k_is)
    (case a6 => k_is)
    (case l6 => k_is)
    (case c6 => k_is)
    (case k6 => k_is)
    (case a7 => k_is)
    (case l7 => k_is)
    (case c7 => k_is)
    (case k7 => k_is)
    (case a8 => k_is)
    (case l8 => k_is)
    (case c8 => k_is)
    (case k8 => k_is)
    (case a9 => k_is)
    (case l9 => k_is)
    (case c9 => k_is)
    (case k9 => k_is)
    (case a10 => k_is)
    (case l10 => k_is)
    (case c10 => k_is)
    (case k10 => k_is)
    (case a11 => k_is)
    (case l11 => k_is)
    (case c11 => k_is)
    (case k11 => k_is)
    (case a12 => k_is)
    (case l12 => k_is)
    (case c12 => k_is)
    (case k12 => k_is)
    (case a13 => k_is)
    (case l13 => k_is)
    (case c13 => k_is)
    (case k13 => k_is)
    (case a14 => k_is)
    (case l14 => k_is)
    (case c14 => k_is)
    (case k14 => k_is)
    (case z_isi => k_is)
    (case z_tup => k_is)
    (case z_lst => k_is)
    (case z_str => k_is)
    (case z_len => k_is)
    (case z_all => k_is)
    (case z_zip => k_is)
    (case z_rng => k_is)
    (case z_int => k_is)
    (case z_max => k_is)
    (case z_min => k_is)
    (case z_srt => k_is)
    (case z_enu => k_is)
    (case z_sum => k_is)
    (case z_abs => k_is)
    (case z_rpr => k_is)
    (case z_set => k_is)
    (case z_bool => k_is)
    (case z_ver => k_is)
    (case z_any => k_is)
    (case m_MOST_COUNTED => k_is)
    (case e_NoHouse => k_is)
    (case i_NoHouse => k_is)
    (case t_NoHouse => k_is)
    (case b_NoHouse => k_is)
    (case h_NoHouse => k_is)
    (case e_NoColour => k_is)
    (case i_NoColour => k_is)
    (case t_NoColour => k_is)
    (case b_NoColour => k_is)
    (case h_NoColour => k_is)
    (case e_NoRow => k_is)
    (case i_NoRow => k_is)
    (case t_NoRow => k_is)
    (case b_NoRow => k_is)
    (case h_NoRow => k_is)
    (case e_NoBoxes => k_is)
    (case i_NoBoxes => k_is)
    (case t_NoBoxes => k_is)
    (case b_NoBoxes => k_is)
    (case h_NoBoxes => k_is)
    (case e_NoLaying => k_is)
    (case i_NoLaying => k_is)
    (case t_NoLaying => k_is)
    (case b_NoLaying => k_is)
    (case h_NoLaying => k_is)
    (case e_NoNumber => k_is)
    (case i_NoNumber => k_is)
    (case t_NoNumber => k_is)
    (case b_NoNumber => k_is)
    (case h_NoNumber => k_is)
    (case e_NoBox => k_is)
    (case i_NoBox => k_is)
    (case t_NoBox => k_is)
    (case b_NoBox => k_is)
    (case h_NoBox => k_is)
    (case e_NoKey => k_is)
    (case i_NoKey => k_is)
    (case t_NoKey => k_is)
    (case b_NoKey => k_is)
    (case h_NoKey => k_is)
    (case e_Locks => k_is)
    (case i_Locks => k_is)
    (case t_Locks => k_is)
    (case b_Locks => k_is)
    (case h_Locks => k_is)
    (case e_Unlike => k_is)
    (case i_Unlike => k_is)
    (case t_Unlike => k_is)
    (case b_Unlike => k_is)
    (case h_Unlike => k_is)
    (case e_Open => k_is)
    (case i_Open => k_is)
    (case t_Open => k_is)
    (case b_Open => k_is)
    (case h_Open => k_is)
    (case e_Shut => k_is)
    (case i_Shut => k_is)
    (case t_Shut => k_is)
    (case b_Shut => k_is)
    (case h_Shut => k_is)
    (case e_Full => k_is)
    (case i_Full => k_is)
    (case t_Full => k_is)
    (case b_Full => k_is)
    (case h_Full => k_is)
    (case e_NothingLeft => k_is)
    (case i_NothingLeft => k_is)
    (case t_NothingLeft => k_is)
    (case b_NothingLeft => k_is)
    (case h_NothingLeft => k_is)
    (case e_TooMany => k_is)
    (case i_TooMany => k_is)
    (case t_TooMany => k_is)
    (case b_TooMany => k_is)
    (case h_TooMany => k_is)
    (case e_Locked => k_is)
    (case i_Locked => k_is)
    (case t_Locked => k_is)
    (case b_Locked => k_is)
    (case h_Locked => k_is)
    (case e_BoxError => k_is)
    (case i_BoxError => k_is)
    (case t_BoxError => k_is)
    (case b_BoxError => k_is)
    (case h_BoxError => k_is)
    (case v_NoNumber => k_is)
    (case s_NoNumber_NoHouse => k_is)
    (case n_NoNumber_NoHouse => decide)
    (case s_NoNumber_NoColour => k_is)
    (case n_NoNumber_NoColour => decide)
    (case s_NoNumber_NoRow => k_is)
    (case n_NoNumber_NoRow => decide)
    (case s_NoNumber_NoBoxes => k_is)
    (case n_NoNumber_NoBoxes => decide)
    (case s_NoNumber_NoLaying => k_is)
    (case n_NoNumber_NoLaying => decide)
    (case s_NoNumber_NoNumber => k_is)
    (case s_NoNumber_NoBox => k_is)
    (case n_NoNumber_NoBox => decide)
    (case s_NoNumber_NoKey => k_is)
    (case n_NoNumber_NoKey => decide)
    (case s_NoNumber_Locks => k_is)
    (case n_NoNumber_Locks => decide)
    (case s_NoNumber_Unlike => k_is)
    (case n_NoNumber_Unlike => decide)
    (case s_NoNumber_Open => k_is)
    (case n_NoNumber_Open => decide)
    (case s_NoNumber_Shut => k_is)
    (case n_NoNumber_Shut => decide)
    (case s_NoNumber_Full => k_is)
    (case n_NoNumber_Full => decide)
    (case s_NoNumber_NothingLeft => k_is)
    (case n_NoNumber_NothingLeft => decide)
    (case s_NoNumber_TooMany => k_is)
    (case s_NoNumber_Locked => k_is)
    (case s_NoNumber_BoxError => k_is)
    (case w1_NoNumber => k_is)
    (case w2_NoNumber => k_is)
    (case w5_NoNumber => k_is)
    (case w8_NoNumber => k_is)
    (case xq_NoNumber => k_exc)
    (case xk_NoNumber => k_is)
    (case w6 => k_is)
    (case w7 => k_is)
    (case tn_Law => exact Kw.km_none Y (by decide +kernel))
    (case tl_Law => k_is)
    (case th_Law => decide +kernel)
    (case tn_LCR => exact Kw.km_none Y (by decide +kernel))
    (case tl_LCR => k_is)
    (case th_LCR => decide +kernel)
    (case pne => decide)
