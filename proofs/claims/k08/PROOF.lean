import PyProof.Rows.All
import Wide.All
import OpenK.AllK
import Wide.FinOn
import HandS.ForMost
import HandS.Evl
import HandS.Walk
import HandS.IsInst
import HandS.Zip
import HandS.TupAny
import HandS.Flow
import HandS.Style
import HandS.More
import HandS.Conv
import HandS.StrMore
import HandS.Text
import HandS.Wide
import PySem.Challenge.RW_keyswithin_k08_layings_and_their_rounds
import HandS.Star
import KE.GoesEnum
import HandS.SortRule
import HandS.List
import HandS.SetFor
import HandS.SetKeys
import HandS.SortInts
import HandS.Strs
import HandS.Exc
import HandS.ExcCtx
import HandS.HotCalls
import HandS.Comp
import HandS.Nested
import HandS.Lambda
import PyProof.ExcBaseAll.ValueError
import HandS.TupMul
import HandS.RaiseMore
import HandS.ExcIs
import HandS.EndTab
set_option Elab.async false
set_option linter.all false
set_option maxRecDepth 100000
set_option maxHeartbeats 4000000
namespace Kw
open PySem PySem.Spec PyProof.Rows L2 Evl
/-! ### what stays: the tuples -/
def KeepT (H H' : Hp) : Prop := ∀ b xs, Rd H b (.tup xs) → Rd H' b (.tup xs)
theorem KeepT.refl (H : Hp) : KeepT H H := fun _ _ h => h
theorem KeepT.trans {H H1 H2 : Hp} (a : KeepT H H1) (b : KeepT H1 H2) : KeepT H H2 := fun c o h => b c o (a c o h)
theorem KeepT.ex {H H' : Hp} (e : Ex H H') : KeepT H H' := fun b xs h => ex_rd e h
theorem KeepT.lst {H : Hp} {p : Addr} {xs ys : List V} (h : H p = some (.lst xs)) : KeepT H (upd H p (.lst ys)) := fun b zs r => by
  have nb : b ≠ p := by
    rintro rfl
    rcases r with r | ⟨o, r⟩
    · rw [h] at r; cases r
    · rw [h] at r; cases r
  rcases r with r | ⟨o, r⟩
  · exact .inl (by rw [upd_ne nb]; exact r)
  · exact .inr ⟨o, by rw [upd_ne nb]; exact r⟩
theorem keep_t {K : PySem.W.Frag} {H H' : Hp} {a : Addr} {xs : List V} (e : KeepT H H') (h : SqT K H a xs) : SqT K H' a xs := by
  rcases h with h | h
  · exact Or.inl (e _ _ h)
  · exact Or.inr h
/-! ### readings -/
def EvP (te : TE) (σ : L2.St) (H : Hp) (Φ : V → Hp → Prop) : Prop := ∀ H1, Ex H H1 → ∀ Q : VK, (∀ v H2, Ex H1 H2 → Φ v H2 → Q v H2) → te σ H1 Q
def EvW (wi : TI) (σ : L2.St) (H : Hp) (n : Nat) (Y : Nat → Hp → V → Hp → Prop) : Prop :=
  ∀ H1, Ex H H1 → ∀ R : It → Hp → Prop, (∀ (J : It) (G : Hp → Prop) (H2 : Hp), Ex H1 H2 → Walk J n G Y → (∀ H3, Ex H2 H3 → G H3) → R J H2) → wi σ H1 R
section
variable {K : PySem.W.Frag} {σ : L2.St} {H H' : Hp} {ta tb te tl : TE} {t u : TT} {x y z v : V} {r : R2} {Φ : V → Hp → Prop}
theorem EvP.ev (h : Ev te σ H v) : EvP te σ H (fun x _ => x = v) := fun H1 e Q q => h H1 e Q fun H2 e2 => q v H2 e2 rfl
theorem EvP.to (h : EvP te σ H (fun x _ => x = v)) : Ev te σ H v := fun H1 e Q q => h H1 e Q fun x H2 e2 hx => by
  subst hx
  exact q H2 e2
theorem EvP.mono (e : Ex H H') (h : EvP te σ H Φ) : EvP te σ H' Φ := fun H1 a Q q => h H1 (e.trans a) Q q
theorem EvP.imp {Ψ : V → Hp → Prop} (h : EvP te σ H Φ) (i : ∀ v H1, Ex H H1 → Φ v H1 → Ψ v H1) : EvP te σ H Ψ := fun H1 e Q q => h H1 e Q fun v H2 e2 hv => q v H2 e2 (i v H2 (e.trans e2) hv)
theorem ep_var {i : Nat} (h : σ[i]? = some (some v)) (hv : ∀ H1, Ex H H1 → Φ v H1) : EvP (tVar i) σ H Φ := fun H1 e _ q => ⟨v, h, q v H1 (Ex.refl H1) (hv H1 e)⟩
theorem ew_tup {a : Addr} {xs : List V} (h : Ev tl σ H (.ref a)) (hx : SqT K H a xs) : EvW (iTup K tl) σ H xs.length (YAt xs) := fun H1 e R r => h H1 e _ fun H2 e2 => ⟨a, rfl, ⟨xs, ex_t (e.trans e2) hx⟩, r _ _ H2 e2 walk_tup fun H3 e3 => ex_t ((e.trans e2).trans e3) hx⟩
theorem ew_list {a : Addr} {xs : List V} (h : Ev tl σ H (.ref a)) (hx : SqL K H a xs) : EvW (iList K tl) σ H xs.length (YAt xs) := fun H1 e R r => h H1 e _ fun H2 e2 => ⟨a, rfl, ⟨xs, ex_l (e.trans e2) hx⟩, r _ _ H2 e2 walk_list fun H3 e3 => ex_l ((e.trans e2).trans e3) hx⟩
theorem ew_listN {xs : List V} (h : EvL tl σ H xs) : EvW (iList K tl) σ H xs.length (YAt xs) := fun H1 e R r => h H1 e _ fun a H2 _ e2 hx => ⟨a, rfl, ⟨xs, sq_of hx⟩, r _ _ H2 e2 walk_list fun H3 e3 => sq_of (e3 _ _ hx)⟩
theorem walk_rng0 {n : Nat} : Walk (Itr 0 n) n (fun _ => True) (YFn fun (i : Nat) => .int (i : Int)) := by
  have e : (fun i : Nat => V.int ((0 : Int) + (i : Int))) = fun (i : Nat) => V.int (i : Int) := by
    funext i
    rw [Int.zero_add]
  rw [← e]
  exact walk_range
theorem ew_rng1 {ta : TA} {n : Nat} (h : EvA ta σ H [.int n]) (hn : n ≤ 100000) : EvW (iRng1 ta) σ H n (YFn fun (i : Nat) => .int (i : Int)) := fun H1 e R r => h H1 e _ fun H2 e2 => ⟨n, rfl, by omega, by omega, r _ _ H2 e2 (by rw [Int.toNat_natCast]; exact walk_rng0) fun _ _ => trivial⟩
theorem ew_str {z : Str} (h : Ev te σ H (.str z)) : EvW (iStr te) σ H z.cps.size (fun i H v H' => H' = H ∧ ∃ c, z.cps[i]? = some c ∧ v = .str ⟨#[c]⟩) := fun H1 e R r => h H1 e _ fun H2 e2 => ⟨z, rfl, r _ _ H2 e2 walk_str fun _ _ => trivial⟩
theorem cw_none {D : Addr} {y : V} {ys : List V} (e : Ex H H') (hD : H D = none) : Ex H (upd H' D (.lst ys)) := Ex.mut e hD
/-- a comprehension: which turns give, and what is true of what they give -/
def EvC (te : TE) (σ : L2.St) (H : Hp) (n : Nat) (f : Nat → Bool) (Φ : Nat → V → Hp → Prop) : Prop :=
  ∀ H1, Ex H H1 → ∀ Q : VK, (∀ p ys H2, H1 p = none → Ex H1 H2 → H2 p = some (.lst ys) → Paired (fun i y => Φ i y H2) ((List.range n).filter f) ys → Q (.ref p) H2) → te σ H1 Q
theorem paired_imp {α β : Type} {F G : α → β → Prop} {xs : List α} {ys : List β} (h : Paired F xs ys) (i : ∀ a b, F a b → G a b) : Paired G xs ys := Paired.mapP h i
theorem paired_app {α β : Type} {F : α → β → Prop} : ∀ {xs : List α} {ys : List β} {a : α} {b : β}, Paired F xs ys → F a b → Paired F (xs ++ [a]) (ys ++ [b])
  | _, _, _, _, .nil, h => .cons h .nil
  | _, _, _, _, .cons r t, h => .cons r (paired_app t h)
theorem lc_gen {wi : TI} {g : TG} {vs : List Nat} {n : Nat} {Y : Nat → Hp → V → Hp → Prop} (hi : EvW wi σ H n Y) (hn : n ≤ 100000) (f : Nat → Bool) (Φ : Nat → V → Hp → Prop)
    (st : ∀ i y H H', KeepT H H' → Φ i y H → Φ i y H')
    (turn : ∀ i x H1 H2 (Q : L2.St → Hp → Prop), Ex H H1 → i < n → Y i H1 x H2 → (∀ σ2 H3, Ex H1 H3 → wipe σ2 vs = wipe σ vs → EvT t σ2 H3 (f i) → (f i = true → EvP te σ2 H3 (Φ i)) → Q σ2 H3) → g x (wipe σ vs) H2 Q) :
    EvC (tLc wi g t te vs) σ H n f Φ := by
  intro H0 e Q q
  refine hi H0 e _ fun J G H1 e1 w hG => ?_
  intro D hD
  refine lc_it w (Pv := fun i H' => Ex H1 H' ∧ ∃ ys, H' D = some (.lst ys) ∧ Paired (fun i y => Φ i y H') ((List.range i).filter f) ys) ⟨Ex.new hD, [], upd_same, .nil⟩
    (fun i H' _ p => hG H' p.1) (fun i x H' H2 hi' p y => ?_) (fun H' p => ?_)
  · obtain ⟨p1, ys, p2, p3⟩ := p
    refine turn i x H' H2 _ ((e.trans e1).trans p1) hi' y fun σ2 H3 e3 hw ht he => ⟨hw, ?_⟩
    refine ht H3 (Ex.refl H3) _ fun H4 e4 => ?_
    have hlen : ys.length ≤ i := by
      rw [← Paired.length p3]
      have := List.length_filter_le f (List.range i)
      rw [List.length_range] at this
      exact this
    have eD : H4 D = some (.lst ys) := e4 _ _ (e3 _ _ p2)
    cases hf : f i with
    | false =>
      show Ex H1 H4 ∧ _
      refine ⟨(p1.trans e3).trans e4, ys, eD, ?_⟩
      rw [List.range_succ, List.filter_append, List.filter_cons, if_neg (by rw [hf]; decide), List.filter_nil, List.append_nil]
      exact paired_imp p3 fun a b h => st a b _ _ (KeepT.ex (e3.trans e4)) h
    | true =>
      show te σ2 H4 _
      refine (he hf) H4 e4 _ fun y H5 e5 hy => ?_
      have eD5 : H5 D = some (.lst ys) := e5 _ _ eD
      refine ⟨ys, eD5, sz_lt (by omega), Ex.mut (((p1.trans e3).trans e4).trans e5) hD, ys ++ [y], upd_same, ?_⟩
      rw [List.range_succ, List.filter_append, List.filter_cons, if_pos hf, List.filter_nil]
      exact paired_app (paired_imp p3 fun a b h => st a b _ _ ((KeepT.ex ((e3.trans e4).trans e5)).trans (KeepT.lst eD5)) h) (st _ _ _ _ (KeepT.lst eD5) hy)
  · obtain ⟨p1, ys, p2, p3⟩ := p
    exact q D ys H' (fresh_back e1 hD) (e1.trans p1) p2 p3
theorem paired_map {α β : Type} {v : α → β} : ∀ {xs : List α} {ys : List β}, Paired (fun i y => y = v i) xs ys → ys = xs.map v
  | _, _, .nil => rfl
  | _, _, .cons r t => by rw [r, List.map_cons, paired_map t]
theorem EvC.val {n : Nat} {f : Nat → Bool} {v : Nat → V} (h : EvC te σ H n f (fun i y _ => y = v i)) : EvL te σ H (((List.range n).filter f).map v) := fun H1 e Q q =>
  h H1 e Q fun p ys H2 hp e2 h2 pr => q p H2 hp e2 (by rw [h2, paired_map pr])
theorem el_lc {wi : TI} {g : TG} {vs : List Nat} {n : Nat} {Y : Nat → Hp → V → Hp → Prop} (hi : EvW wi σ H n Y) (hn : n ≤ 100000) (f : Nat → Bool) (v : Nat → V) {xs : List V} (hx : ((List.range n).filter f).map v = xs)
    (turn : ∀ i x H1 H2 (Q : L2.St → Hp → Prop), Ex H H1 → i < n → Y i H1 x H2 → (∀ σ2 H3, Ex H1 H3 → wipe σ2 vs = wipe σ vs → EvT t σ2 H3 (f i) → (f i = true → Ev te σ2 H3 (v i)) → Q σ2 H3) → g x (wipe σ vs) H2 Q) :
    EvL (tLc wi g t te vs) σ H xs := by
  subst hx
  exact EvC.val (lc_gen hi hn f (fun i y _ => y = v i) (fun _ _ _ _ _ h => h) fun i x H1 H2 Q e hi' y k => turn i x H1 H2 Q e hi' y fun σ2 H3 e3 hw ht he => k σ2 H3 e3 hw ht fun hf => EvP.ev (he hf))
end
/-- the built-in names are what they were -/
structure Bu (mg : Str → Option Value) : Prop where
  isi : mg "isinstance" = none
  tup : mg "tuple" = none
  lst : mg "list" = none
  str : mg "str" = none
  len : mg "len" = none
  all : mg "all" = none
  zip : mg "zip" = none
  rng : mg "range" = none
  int : mg "int" = none
  max : mg "max" = none
  min : mg "min" = none
  srt : mg "sorted" = none
  enu : mg "enumerate" = none
  sum : mg "sum" = none
  abs : mg "abs" = none
  rpr : mg "repr" = none
  set : mg "set" = none
  bool : mg "bool" = none
  ver : mg "ValueError" = none
  any : mg "any" = none
section
variable {K : PySem.W.Frag} {σ : L2.St} {H H' : Hp} {ta tb tc te tl : TE} {t u : TT} {x y z v : V} {r r' : R2}
theorem ty_tup {K : PySem.W.Frag} {H : Hp} {a : Addr} {xs : List V} (h : SqT K H a xs) : TyX K H (.ref a) (.type "tuple") := by
  rcases h with (h | ⟨o, h⟩) | ⟨o, its, n, h1, h2, _⟩
  · exact .base (.tup h)
  · exact .fTuple h
  · exact .kTuple h1 h2
def IsT (K : PySem.W.Frag) (xs : List V) : V → Hp → Prop := fun v H => ∃ p, v = .ref p ∧ SqT K H p xs
theorem ep_slT {tl th : TO} {a : Addr} {xs : List V} {lo hi : Option Int} (h : Ev te σ H (.ref a)) (h1 : EvO tl σ H lo) (h2 : EvO th σ H hi) (hs : SqT K H a xs) : EvP (tSl (rSlA K) te tl th) σ H (IsT K (cutV xs lo hi)) := fun H1 e Q q =>
  h H1 e _ fun H2 e2 => h1 H2 (e.trans e2) _ fun H3 e3 => h2 H3 ((e.trans e2).trans e3) _ fun H4 e4 =>
    ⟨a, xs, rfl, ex_t (((e.trans e2).trans e3).trans e4) hs, fun hf => q _ H4 ((e2.trans e3).trans e4) ⟨a, rfl, by
      have : cutV xs lo hi = xs := by
        unfold cutV
        rw [hf.1, hf.2]
        simp
      rw [this]
      exact ex_t (((e.trans e2).trans e3).trans e4) hs⟩, fun hf p hp => q _ _ (((e2.trans e3).trans e4).trans (Ex.new hp)) ⟨p, rfl, st_of upd_same⟩⟩
theorem cut1 (xs : List V) : cutV xs (some 1) none = xs.drop 1 := by
  unfold cutV
  rw [show HT.sIx xs.length 0 (some 1) = min 1 xs.length from HT.sIx_nat xs.length 0 1, HT.sIx_none]
  cases xs with
  | nil => rfl
  | cons x r =>
    rw [show min 1 (x :: r).length = 1 by
      rw [List.length_cons]
      omega]
    show (List.take ((x :: r).length - 1) r) = r
    rw [List.length_cons, Nat.add_sub_cancel]
    exact List.take_length
theorem walk_zipT {a b : Addr} {xs ys : List V} {n : Nat} (hn : n = min xs.length ys.length) : Walk (RZ.ItzT K a b) n (fun H => SqT K H a xs ∧ SqT K H b ys) (YPair (fun i => xs[i]?) (fun i => ys[i]?)) := by
  subst hn
  refine ⟨fun i _ hi q => ?_, fun _ q => ⟨xs, ys, q.1, q.2, by omega⟩, fun i H v H' _ q y => ?_⟩
  · have h1 : i < xs.length := by omega
    have h2 : i < ys.length := by omega
    exact ⟨xs, ys, xs[i], ys[i], q.1, q.2, by simp [h1], by simp [h2]⟩
  · obtain ⟨T, x, z, h1, h2, h3, h4, h5⟩ := y
    exact ⟨T, x, z, h1, h2, h3, h4 xs q.1, h5 ys q.2⟩
theorem ew_zipT {a : Addr} {xs ys : List V} {n : Nat} (hn : n = min xs.length ys.length) (h : Ev ta σ H (.ref a)) (hx : SqT K H a xs) (hb : EvP tb σ H (IsT K ys)) : EvW (RZ.iZipA K (tCons ta (tCons tb tNil))) σ H n (YPair (fun i => xs[i]?) (fun i => ys[i]?)) := fun H1 e R r =>
  h H1 e _ fun H2 e2 => hb H2 (e.trans e2) _ fun v H3 e3 ⟨p, hv, hp⟩ => by
    subst hv
    exact ⟨a, p, xs, ys, rfl, .inr ⟨ex_t ((e.trans e2).trans e3) hx, hp, r _ _ H3 (e2.trans e3) (walk_zipT hn) fun H4 e4 => ⟨ex_t (((e.trans e2).trans e3).trans e4) hx, ex_t e4 hp⟩⟩⟩
theorem ev_all {bs : List Bool} (h : EvL te σ H (bs.map V.bl)) : Ev (tCB (rAll K) (tCons te tNil)) σ H (.bl (bs.all id)) := fun H1 e Q q =>
  h H1 e _ fun p H2 _ e2 hp => ⟨p, bs, rfl, sq_of hp, q H2 e2⟩
/-- a comprehension without a test -/
theorem filter_true {n : Nat} : (List.range n).filter (fun _ => true) = List.range n := List.filter_eq_self.mpr (fun _ _ => rfl)
theorem et_yes {σ : L2.St} {H : Hp} : EvT tYes σ H true := fun H1 _ Q q => q H1 (Ex.refl H1)
/-- a def of the text: where it stands, how it binds -/
structure Df (K : PySem.W.Frag) (mg : Str → Option Value) (x : Str) (st : Stmt) (ps : List Str) (f : Addr) (fd : FuncData) : Prop where
  F : Fun K x x st f fd
  g : mg x = some (.ref f)
  b : Binds K fd ps []
theorem pcall {X : Cx} {k : Nat} {f : Addr} {fd : FuncData} {ps : List Str} {sp : Sp} {x : Str} {st : Stmt} {p pos : Pos} {e : Expr} {es : List Expr} {t : TA} (D : Df X.K X.mg x st ps f fd) (G : FnOk X.prog X.w X.K X.mg X.base CX0 k f fd ps sp) (hr : Room k X.A) (ha : PA X (e :: es) t) (hg : Gl X x := by rfl)
    (h1 : (x == ("__debug__" : Str)) = false := by decide) (h2 : starEach (e :: es) X.env = (false, eval e X.env) :: starEach es X.env := by rfl) (h3 : (backTo pos (starEach es X.env)).any (·.1) = false := by rfl) :
    PE X (.Call (.Name x p) (e :: es) [] pos) (tCall sp [] E0 t) := pe_call G hr hg D.g D.F.kp D.b .nil pass0 ha h1 h2 h3
theorem SpV.of {sp : Sp} {vs : List V} {H : Hp} {z : V} (h : ∀ H1, Ex H H1 → ∀ Q : VK, RetV z H1 Q → ∀ E, sp vs H1 Q E) : SpV sp (vs ++ []) H z := by
  rw [List.append_nil]
  exact fun H1 e Q q E => h H1 e Q q E
theorem ev_chain {k l : Bool} (ha : Ev ta σ H x) (hb : Ev tb σ H y) (hc : Ev tc σ H z) (h1 : RV r x y H (.bl k)) (h2 : RV r' y z H (.bl l)) : Ev (tChain r r' ta tb tc) σ H (.bl (k && l)) := fun H1 e Q q =>
  ha H1 e _ fun H2 e2 => hb H2 (e.trans e2) _ fun H3 e3 => h1 H3 ((e.trans e2).trans e3) _ fun H4 e4 => ⟨k, rfl, by
    cases k with
    | true =>
      show tc σ H4 _
      exact hc H4 (((e.trans e2).trans e3).trans e4) _ fun H5 e5 => h2 H5 ((((e.trans e2).trans e3).trans e4).trans e5) Q fun H6 e6 => q H6 ((((e2.trans e3).trans e4).trans e5).trans e6)
    | false =>
      show Q (.bl false) H4
      exact q H4 ((e2.trans e3).trans e4)⟩
theorem ev_isi {T U : String} {b : Bool} (ha : Ev ta σ H x) (hb : Ev tb σ H (.ty U)) (ht : ∀ H1, Ex H H1 → TyX K H1 x (.type T)) (hk : kitB T U = some b) : Ev (tCB (rIsi K) (tCons ta (tCons tb tNil))) σ H (.bl b) := fun H1 e Q q =>
  ha H1 e _ fun H2 e2 => hb H2 (e.trans e2) _ fun H3 e3 => ⟨x, .ty U, _, _, b, rfl, .ty _, ht H3 ((e.trans e2).trans e3), kit_ty hk, q H3 (e2.trans e3)⟩
theorem rv_le {i j : Int} : RV (rI0 fun i j => .bl (decide (i ≤ j))) (.int i) (.int j) H (.bl (decide (i ≤ j))) := rv_I0
theorem range_map_get {α β : Type} (l : List α) (d : α) (g : α → β) : (List.range l.length).map (fun i => g (l.getD i d)) = l.map g := by
  apply List.ext_getElem
  · simp
  · intro i h1 h2
    simp only [List.getElem_map, List.getElem_range]
    congr 1
    rw [List.getD_eq_getElem?_getD, List.getElem?_eq_getElem (by simpa using h2)]
    rfl
theorem paired_get {α β : Type} {F : α → β → Prop} : ∀ {xs : List α} {ys : List β} {i : Nat} {x : α}, Paired F xs ys → xs[i]? = some x → ∃ y, ys[i]? = some y ∧ F x y
  | _, _, _, _, .nil, e => by simp at e
  | _, _, 0, _, .cons r _, e => by simp at e; subst e; exact ⟨_, rfl, r⟩
  | _, _, i + 1, x, .cons _ t, e => by
    obtain ⟨u, h1, h2⟩ := paired_get (i := i) (x := x) t (by simpa using e)
    exact ⟨u, by simpa using h1, h2⟩
theorem paired_len {α β : Type} {F : α → β → Prop} {xs : List α} {ys : List β} (h : Paired F xs ys) : xs.length = ys.length := Paired.length h
/-- all([f(x) for x in t]) where each is so -/
theorem ev_allT {vs : List Nat} {wi : TI} {n : Nat} {Y : Nat → Hp → V → Hp → Prop} {g : TG} (hi : EvW wi σ H n Y) (hn : n ≤ 100000)
    (turn : ∀ i x H1 H2 (Q : L2.St → Hp → Prop), Ex H H1 → i < n → Y i H1 x H2 → (∀ σ2 H3, Ex H1 H3 → wipe σ2 vs = wipe σ vs → Ev te σ2 H3 (.bl true) → Q σ2 H3) → g x (wipe σ vs) H2 Q) :
    Ev (tCB (rAll K) (tCons (tLc wi g tYes te vs) tNil)) σ H (.bl true) := by
  refine ev_is (ev_all (K := K) (bs := List.replicate n true) ?_) (by rw [List.all_replicate]; simp)
  refine el_lc hi hn (fun _ => true) (fun i => .bl true) (by rw [filter_true, List.map_replicate, List.map_const', List.length_range]) (fun i x H1 H2 Q e hi hy k => ?_)
  exact turn i x H1 H2 Q e hi hy fun σ2 H3 e3 hw he => k σ2 H3 e3 hw et_yes fun _ => he
theorem ev_lenT {p : Addr} {xs : List V} (ha : Ev ta σ H (.ref p)) (h : SqT K H p xs) : Ev (tCB (rLenS K) (tCons ta tNil)) σ H (.int (xs.length : Int)) := fun H1 e Q q =>
  ha H1 e _ fun H2 e2 => ⟨p, xs, rfl, Or.inr (ex_t (e.trans e2) h), q H2 e2⟩
theorem rv_gt {i j : Int} : RV (rI0 fun i j => .bl (decide (j < i))) (.int i) (.int j) H (.bl (decide (j < i))) := rv_I0
theorem at0 {x y : V} : atI [x, y] 0 = some x := atI_nat (j := 0) rfl
theorem at1 {x y : V} : atI [x, y] 1 = some y := atI_nat (j := 1) rfl
theorem yes_do {σ : L2.St} {H : Hp} {A B : Hp → Prop} (h : A H) : tYes σ H (fun b H => if b = true then A H else B H) := iteT (A := A H) (B := B H) h
/-- [y for x in .. for y in t], t a tuple -/
theorem el_lc2 {wi : TI} {g : TG} {vs vs1 : List Nat} {n j : Nat} {Y : Nat → Hp → V → Hp → Prop} (hi : EvW wi σ H n Y) (L : Nat → List V) (hn : ∀ i ≤ n, ((List.range i).flatMap L).length ≤ 100000) {xs : List V} (hx : (List.range n).flatMap L = xs)
    (turn : ∀ i x H1 H2 (Q : L2.St → Hp → Prop), Ex H H1 → i < n → Y i H1 x H2 → (∀ σ2 H3 a, Ex H1 H3 → wipe σ2 vs = wipe σ vs → Ev tl σ2 H3 (.ref a) → SqT K H3 a (L i) → (∀ y, wipe ((wipe σ2 vs1).set j (some y)) vs1 = wipe σ2 vs1 ∧ ((wipe σ2 vs1).set j (some y))[j]? = some (some y)) → Q σ2 H3) → g x (wipe σ vs) H2 Q) :
    EvL (tLc2 wi g tYes (iTup K tl) (gName j) tYes (tVar j) vs vs1) σ H xs := by
  subst hx
  intro H0 e Q q
  refine hi H0 e _ fun J G H1 e1 w hG => ?_
  intro D hD
  refine ⟨fun i m H' => m = n - i ∧ i ≤ n ∧ Ex H1 H' ∧ H' D = some (.lst ((List.range i).flatMap L)), ⟨n, by simp, Nat.zero_le _, Ex.new hD, upd_same⟩, ?_⟩
  rintro i m H' ⟨rfl, hi', p1, p2⟩
  by_cases hlt : i < n
  · refine .inr ⟨w.goes i H' hlt (hG H' p1), fun H'' => Ex H1 H'' ∧ H'' D = some (.lst ((List.range (i + 1)).flatMap L)), fun H'' p' => ⟨n - (i + 1), by omega, rfl, hlt, p'⟩, fun x H2 hy => ?_⟩
    refine turn i x H' H2 _ ((e.trans e1).trans p1) hlt (w.yields i H' x H2 hlt (hG H' p1) hy) fun σ2 H3 a e3 hw htl hL hset => ⟨hw, ?_⟩
    refine yes_do ?_
    refine htl H3 (Ex.refl H3) _ fun H4 e4 => ⟨a, rfl, ⟨_, ex_t e4 hL⟩, ?_⟩
    refine ⟨fun c m H5 => m = (L i).length - c ∧ c ≤ (L i).length ∧ SqT K H5 a (L i) ∧ Ex H1 H5 ∧ H5 D = some (.lst ((List.range i).flatMap L ++ (L i).take c)), ⟨_, rfl, Nat.zero_le _, ex_t e4 hL, (p1.trans e3).trans e4, by rw [List.take_zero, List.append_nil]; exact e4 _ _ (e3 _ _ p2)⟩, ?_⟩
    rintro c m H5 ⟨rfl, hc, g1, g2, g3⟩
    have hsum : (List.range (i + 1)).flatMap L = (List.range i).flatMap L ++ L i := by
      rw [List.range_succ, List.flatMap_append]
      simp
    by_cases hcl : c < (L i).length
    · refine .inr ⟨⟨_, _, g1, List.getElem?_eq_getElem hcl⟩, fun H6 => SqT K H6 a (L i) ∧ Ex H1 H6 ∧ H6 D = some (.lst ((List.range i).flatMap L ++ (L i).take (c + 1))), fun H6 ⟨r1, r2, r3⟩ => ⟨_, by omega, rfl, hcl, r1, r2, r3⟩, fun y H6 ⟨eH, hy2⟩ => ?_⟩
      subst eH
      have hy' : (L i)[c]? = some y := hy2 _ g1
      refine ⟨(hset y).1, ?_⟩
      refine yes_do ?_
      refine ⟨y, (hset y).2, _, g3, ?_, keep_t (KeepT.lst g3) g1, Ex.mut g2 hD, ?_⟩
      · refine sz_lt ?_
        have h1 := hn (i + 1) hlt
        rw [hsum, List.length_append] at h1
        rw [List.length_append, List.length_take]
        omega
      · rw [upd_same, List.append_assoc, List.take_add_one, hy']
        rfl
    · refine .inl ⟨⟨_, g1, by omega⟩, g2, ?_⟩
      rw [g3, hsum, List.take_of_length_le (by omega)]
  · have e' : i = n := by omega
    subst e'
    exact .inl ⟨w.stops H' (hG H' p1), q D H' (fresh_back e1 hD) (e1.trans p1) p2⟩
theorem str_beq (a b : Str) : (a == b) = decide (a = b) := by
  by_cases h : a = b
  · subst h
    simp
  · rw [decide_eq_false h]
    exact beq_eq_false_iff_ne.mpr h
theorem inV_str (c : Str) (hs : List Str) : inV (.str c) (hs.map V.str) = decide (c ∈ hs) := by
  induction hs with
  | nil => rfl
  | cons a r ih =>
    show (eqV (.str a) (.str c) || inV (.str c) (r.map V.str)) = _
    rw [ih]
    show ((a == c) || _) = _
    rw [str_beq]
    by_cases h : a = c
    · subst h
      simp
    · have h' : ¬ c = a := fun z => h z.symm
      simp [h, h']
theorem inV_int (c : Int) (hs : List Int) : inV (.int c) (hs.map V.int) = decide (c ∈ hs) := by
  induction hs with
  | nil => rfl
  | cons a r ih =>
    show (eqV (.int a) (.int c) || inV (.int c) (r.map V.int)) = _
    rw [ih]
    show ((a == c) || _) = _
    by_cases h : a = c
    · subst h
      simp
    · have h' : ¬ c = a := fun z => h z.symm
      simp [h, h']
theorem flat_strs (hs : List Str) : (hs.map V.str).all flatV = true := by
  rw [List.all_map]
  exact List.all_eq_true.mpr fun _ _ => rfl
abbrev vN (i : Nat) : V := .int (i : Int)
theorem flat_nats (hs : List Nat) : (hs.map vN).all flatV = true := by
  rw [List.all_map]
  exact List.all_eq_true.mpr fun _ _ => rfl
theorem inV_nat (c : Nat) (hs : List Nat) : inV (vN c) (hs.map vN) = decide (c ∈ hs) := by
  have e : hs.map vN = (hs.map fun (i : Nat) => (i : Int)).map V.int := by rw [List.map_map]; rfl
  rw [e]
  show inV (.int (c : Int)) _ = _
  rw [inV_int]
  congr 1
  rw [List.mem_map]
  apply propext
  constructor
  · rintro ⟨a, h1, h2⟩
    have : a = c := by omega
    subst this
    exact h1
  · exact fun h => ⟨c, h, rfl⟩
theorem rIx_seq {p : Addr} {xs : List V} {i : Int} (h : SqL K H p xs ∨ SqT K H p xs) (ha : atI xs i = some v) : RV (rIx K) (.ref p) (.int i) H v := fun H1 e Q q =>
  h.elim (fun h => .inl ⟨p, xs, i, v, rfl, rfl, ex_l e h, ha, q H1 (Ex.refl H1)⟩) (fun h => .inr (.inl ⟨p, xs, i, v, rfl, rfl, ex_t e h, ha, q H1 (Ex.refl H1)⟩))
theorem paired_get2 {α β : Type} {F : α → β → Prop} : ∀ {xs : List α} {ys : List β} {i : Nat} {y : β}, Paired F xs ys → ys[i]? = some y → ∃ x, xs[i]? = some x ∧ F x y
  | _, _, _, _, .nil, e => by simp at e
  | _, _, 0, _, .cons r _, e => by simp at e; subst e; exact ⟨_, rfl, r⟩
  | _, _, i + 1, x, .cons _ t, e => by
    obtain ⟨u, h1, h2⟩ := paired_get2 (i := i) (y := x) t (by simpa using e)
    exact ⟨u, by simpa using h1, h2⟩
theorem flatMap_range {α β : Type} (l : List α) (d : α) (g : α → List β) : (List.range l.length).flatMap (fun i => g (l.getD i d)) = l.flatMap g := by
  rw [List.flatMap_def, List.flatMap_def, range_map_get l d g]
theorem flatMap_take {α β : Type} (l : List α) (d : α) (g : α → List β) (i : Nat) (hi : i ≤ l.length) : (List.range i).flatMap (fun i => g (l.getD i d)) = (l.take i).flatMap g := by
  have h := flatMap_range (l.take i) d g
  rw [List.length_take, Nat.min_eq_left hi] at h
  rw [← h]
  rw [List.flatMap_def, List.flatMap_def]
  congr 1
  apply List.map_congr_left
  intro j hj
  have := List.mem_range.mp hj
  congr 1
  rw [List.getD_eq_getElem?_getD, List.getD_eq_getElem?_getD, List.getElem?_take_of_lt this]
theorem map_flatMap' {α β γ : Type} (l : List α) (f : β → γ) (g : α → List β) : l.flatMap (fun i => (g i).map f) = (l.flatMap g).map f := by
  induction l with
  | nil => rfl
  | cons a r ih => rw [List.flatMap_cons, List.flatMap_cons, List.map_append, ih]
def rTupOf (K : PySem.W.Frag) : List V → Hp → VK → Prop := fun xs H Q => ∃ p ys, xs = [.ref p] ∧ ((SqL K H p ys ∧ ∀ l, H l = none → Q (.ref l) (upd H l (.tup ys))) ∨ (SqT K H p ys ∧ Q (.ref p) H))
theorem call_tupOf {X : Cx} : CallR X (.type "tuple") (rTupOf X.K) := call_tuple_of
theorem eu_tupL {p : Addr} {xs : List V} (ha : Ev ta σ H (.ref p)) (h : SqL K H p xs) : EvU (tCB (rTupOf K) (tCons ta tNil)) σ H xs := fun H1 e Q q =>
  ha H1 e _ fun H2 e2 => ⟨p, xs, rfl, .inl ⟨ex_l (e.trans e2) h, fun l hl => q l _ (fresh_back e2 hl) (e2.trans (Ex.new hl)) upd_same⟩⟩
theorem eu_tupN {xs : List V} (ha : EvL ta σ H xs) : EvU (tCB (rTupOf K) (tCons ta tNil)) σ H xs := fun H1 e Q q =>
  ha H1 e _ fun p H2 _ e2 hp => ⟨p, xs, rfl, .inl ⟨sq_of hp, fun l hl => q l _ (fresh_back e2 hl) (e2.trans (Ex.new hl)) upd_same⟩⟩
theorem el_listT {p : Addr} {xs : List V} (ha : Ev ta σ H (.ref p)) (h : SqT K H p xs) : EvL (tCB (rListS K) (tCons ta tNil)) σ H xs := fun H1 e Q q =>
  ha H1 e _ fun H2 e2 => ⟨p, xs, rfl, Or.inr (ex_t (e.trans e2) h), fun l hl => q l _ (fresh_back e2 hl) (e2.trans (Ex.new hl)) upd_same⟩
theorem el_cat {l : Addr} {xs zs : List V} (ha : Ev ta σ H (.ref l)) (hl : H l = some (.lst xs)) (hb : EvL tb σ H zs) (hn : xs.length + zs.length ≤ 100000) : EvL (tOp rCat ta tb) σ H (xs ++ zs) := fun H1 e Q q =>
  ha H1 e _ fun H2 e2 => hb H2 (e.trans e2) _ fun b H3 _ e3 hb' => ⟨l, b, xs, zs, rfl, rfl, e3 _ _ (e2 _ _ (e _ _ hl)), hb', sz_of hn, fun p hp => q p _ (fresh_back (e2.trans e3) hp) ((e2.trans e3).trans (Ex.new hp)) upd_same⟩
theorem el_catN {xs zs : List V} (ha : EvL ta σ H xs) (hb : EvL tb σ H zs) (hn : xs.length + zs.length ≤ 100000) : EvL (tOp rCat ta tb) σ H (xs ++ zs) := fun H1 e Q q =>
  ha H1 e _ fun l H2 _ e2 hl => hb H2 (e.trans e2) _ fun b H3 _ e3 hb' => ⟨l, b, xs, zs, rfl, rfl, e3 _ _ hl, hb', sz_of hn, fun p hp => q p _ (fresh_back (e2.trans e3) hp) ((e2.trans e3).trans (Ex.new hp)) upd_same⟩
theorem et_truL {p : Addr} {xs : List V} (ha : Ev ta σ H (.ref p)) (h : SqL K H p xs) : EvT (fun σ H Q => ta σ H fun x H' => ∃ k, TruV K x H' k ∧ Q k H') σ H (!xs.isEmpty) := fun H1 e Q q =>
  ha H1 e _ fun H2 e2 => ⟨_, .inl ⟨xs, ex_l (e.trans e2) h, rfl⟩, q H2 e2⟩
theorem SpL.of {sp : Sp} {vs : List V} {H : Hp} {xs : List V} (h : ∀ H1, Ex H H1 → ∀ Q : VK, RetL xs H1 Q → ∀ E, sp vs H1 Q E) : SpL sp (vs ++ []) H xs := by
  rw [List.append_nil]
  exact fun H1 e Q q E => h H1 e Q q E
theorem filter_range_map {α β : Type} (l : List α) (d : α) (p : α → Bool) (g : α → β) : ((List.range l.length).filter (fun i => p (l.getD i d))).map (fun i => g (l.getD i d)) = (l.filter p).map g := by
  have e : (List.range l.length).map (fun i => l.getD i d) = l := by
    have := range_map_get l d id
    simpa using this
  conv => rhs; rw [← e, List.filter_map, List.map_map]
  rfl
theorem filter_both {α : Type} (l : List α) (p : α → Bool) : (l.filter p).length + (l.filter fun i => !p i).length = l.length := by
  induction l with
  | nil => rfl
  | cons a r ih =>
    cases h : p a with
    | true =>
      rw [List.filter_cons_of_pos h, List.filter_cons_of_neg (by rw [h]; decide), List.length_cons, List.length_cons]
      omega
    | false =>
      rw [List.filter_cons_of_neg (by rw [h]; decide), List.filter_cons_of_pos (by rw [h]; rfl), List.length_cons, List.length_cons]
      omega
/-- a list of tuples of box numbers -/
def TupsAt (K : PySem.W.Frag) (H : Hp) (ys : List V) (rs : List (List Nat)) : Prop := Paired (fun y r => ∃ a, y = .ref a ∧ SqT K H a (r.map vN)) ys rs
theorem TupsAt.keep {K : PySem.W.Frag} {H H' : Hp} {ys : List V} {rs : List (List Nat)} (e : KeepT H H') (h : TupsAt K H ys rs) : TupsAt K H' ys rs := paired_imp h fun _ _ ⟨a, h1, h2⟩ => ⟨a, h1, keep_t e h2⟩
def YTup (K : PySem.W.Frag) (rs : List (List Nat)) : Nat → Hp → V → Hp → Prop := fun i H x H' => H' = H ∧ ∃ a r, rs[i]? = some r ∧ x = .ref a ∧ SqT K H a (r.map vN)
/-- a new list of tuples of numbers -/
def EvR (K : PySem.W.Frag) (te : TE) (σ : L2.St) (H : Hp) (rs : List (List Nat)) : Prop := ∀ H1, Ex H H1 → ∀ Q : VK, (∀ p ys H2, H1 p = none → Ex H1 H2 → H2 p = some (.lst ys) → TupsAt K H2 ys rs → Q (.ref p) H2) → te σ H1 Q
theorem ew_tups {rs : List (List Nat)} (h : EvR K tl σ H rs) : EvW (iList K tl) σ H rs.length (YTup K rs) := fun H1 e R r => h H1 e _ fun p ys H2 hp e2 h2 hT => by
  refine ⟨p, rfl, ⟨ys, sq_of h2⟩, r _ (fun H => SqL K H p ys ∧ TupsAt K H ys rs) H2 e2 ?_ fun H3 e3 => ⟨sq_of (e3 _ _ h2), hT.keep (KeepT.ex e3)⟩⟩
  have w : Walk (Itl K p) ys.length (fun H => SqL K H p ys) (YAt ys) := walk_list
  rw [show ys.length = rs.length from paired_len hT] at w
  refine w.mono (fun H h => h.1) fun i H x H' hi hg hy => ?_
  obtain ⟨rfl, hx⟩ := hy
  obtain ⟨r, hr, a, rfl, ha⟩ := paired_get hg.2 hx
  exact ⟨rfl, a, r, hr, rfl, ha⟩
theorem flatten_take_le {α : Type} : ∀ (l : List (List α)) (i : Nat), (l.take i).flatten.length ≤ l.flatten.length
  | [], i => by simp
  | a :: r, 0 => by simp
  | a :: r, i + 1 => by
    have := flatten_take_le r i
    rw [List.take_succ_cons, List.flatten_cons, List.flatten_cons, List.length_append, List.length_append]
    omega
/-- a new tuple -/
def RetU (xs : List V) (H : Hp) (Q : VK) : Prop := ∀ p H2, H p = none → Ex H H2 → H2 p = some (.tup xs) → Q (.ref p) H2
def SpU (sp : Sp) (vs : List V) (H : Hp) (xs : List V) : Prop := ∀ H1, Ex H H1 → ∀ Q : VK, (∀ p H2, H1 p = none → Ex H1 H2 → H2 p = some (.tup xs) → Q (.ref p) H2) → ∀ E : XK, sp vs H1 Q E
theorem eu_call {σ : L2.St} {H : Hp} {sp : Sp} {vs xs : List V} {E : XK} {ta : TA} (h : EvA ta σ H vs) (hs : ∀ H1, Ex H H1 → ∀ Q : VK, RetU xs H1 Q → ∀ E, sp vs H1 Q E) : EvU (tCall sp [] E ta) σ H xs := fun H1 e Q q =>
  h H1 e _ fun H2 e2 => by
    rw [List.append_nil]
    exact hs H2 (e.trans e2) Q (fun p H3 hp e3 h3 => q p H3 (fresh_back e2 hp) (e2.trans e3) h3) E
theorem er_call {σ : L2.St} {H : Hp} {sp : Sp} {vs : List V} {rs : List (List Nat)} {E : XK} {ta : TA} (h : EvA ta σ H vs) (hs : ∀ H1, Ex H H1 → ∀ Q : VK, (∀ p ys H2, H1 p = none → Ex H1 H2 → H2 p = some (.lst ys) → TupsAt K H2 ys rs → Q (.ref p) H2) → ∀ E, sp vs H1 Q E) : EvR K (tCall sp [] E ta) σ H rs := fun H1 e Q q =>
  h H1 e _ fun H2 e2 => by
    rw [List.append_nil]
    exact hs H2 (e.trans e2) Q (fun p ys H3 hp e3 h3 hT => q p ys H3 (fresh_back e2 hp) (e2.trans e3) h3 hT) E
theorem rgV_nat (n : Nat) : rgV 0 (n : Int) = (List.range n).map vN := by
  unfold rgV
  rw [Int.sub_zero, Int.toNat_natCast]
  apply List.map_congr_left
  intro i _
  rw [Int.zero_add]
theorem el_listR {n : Nat} (ha : Ev ta σ H (.int n)) (hn : n ≤ 100000) : EvL (tLstRg (tRg1 ta)) σ H ((List.range n).map vN) := fun H1 e Q q =>
  ha H1 e _ fun H2 e2 => ⟨n, rfl, RgOk.of_le (by omega) (by omega) (by omega) (by omega), fun p hp => q p _ (fresh_back e2 hp) (e2.trans (Ex.new hp)) (by rw [rgV_nat]; exact upd_same)⟩
theorem paired_flip {α β γ : Type} {F : β → γ → Prop} {g : α → γ} : ∀ {xs : List α} {ys : List β}, Paired (fun i y => F y (g i)) xs ys → Paired F ys (xs.map g)
  | _, _, .nil => .nil
  | _, _, .cons r t => .cons r (paired_flip t)
theorem q_asgC {te : TE} {σ : L2.St} {H : Hp} {D : Ends} {tz : TS} {i n : Nat} {f : Nat → Bool} {Φ : Nat → V → Hp → Prop} (h : EvC te σ H n f Φ) (k : ∀ p ys H1, H p = none → Ex H H1 → H1 p = some (.lst ys) → Paired (fun i y => Φ i y H1) ((List.range n).filter f) ys → tz D (σ.set i (some (.ref p))) H1) :
    tSeq (tAsg te (gName i)) tz D σ H := h H (Ex.refl H) _ k
end
end Kw
set_option Elab.async false
set_option linter.all false
set_option maxRecDepth 100000
set_option maxHeartbeats 4000000
namespace Kw
open PySem PySem.Spec PyProof.Rows L2 Evl
def topS (i : Nat) : Stmt := PySem.Challenge.pw_keyswithin_k08_layings_and_their_rounds.main.body.getD i (.Pass ⟨0, 0, 0, 0⟩)
end Kw
set_option Elab.async false
set_option linter.all false
set_option maxRecDepth 100000
set_option maxHeartbeats 4000000
namespace Kw
open PySem PySem.Spec PyProof.Rows L2 Evl
section
variable {K : PySem.W.Frag} {σ : L2.St} {H H' : Hp} {ta tb tc te tl : TE} {t u : TT} {x y z v : V} {r r' : R2}
theorem ew_zipL {a b : Addr} {xs ys : List V} {n : Nat} (hn : n = min xs.length ys.length) (h : Ev ta σ H (.ref a)) (hb : Ev tb σ H (.ref b)) (hx : SqL K H a xs) (hy : SqL K H b ys) : EvW (iZip K (tCons ta (tCons tb tNil))) σ H n (YPair (fun i => xs[i]?) (fun i => ys[i]?)) := fun H1 e R r =>
  h H1 e _ fun H2 e2 => hb H2 (e.trans e2) _ fun H3 e3 => ⟨a, b, xs, ys, rfl, ex_l ((e.trans e2).trans e3) hx, ex_l ((e.trans e2).trans e3) hy, r _ _ H3 (e2.trans e3) (walk_zip hn) fun H4 e4 => ⟨ex_l (((e.trans e2).trans e3).trans e4) hx, ex_l (((e.trans e2).trans e3).trans e4) hy⟩⟩
theorem ew_enumL {a : Addr} {xs : List V} (h : Ev ta σ H (.ref a)) (hx : SqL K H a xs) : EvW (iEnum K (tCons ta tNil)) σ H xs.length (YPair (fun i => some (.int (i : Nat))) (fun i => xs[i]?)) := fun H1 e R r =>
  h H1 e _ fun H2 e2 => ⟨a, xs, rfl, ex_l (e.trans e2) hx, r _ _ H2 e2 walk_enum fun H3 e3 => ex_l ((e.trans e2).trans e3) hx⟩
/-- [x, *xs] -/
theorem el_star1 {p : Addr} {xs : List V} (ha : Ev ta σ H x) (hb : Ev tb σ H (.ref p)) (h : SqL K H p xs ∨ SqT K H p xs) (hn : xs.length < 100000) : EvL (tLst (tCons ta (StX.tStar K tb tNil))) σ H (x :: xs) := fun H1 e Q q =>
  ha H1 e _ fun H2 e2 => hb H2 (e.trans e2) _ fun H3 e3 => ⟨p, xs, rfl, h.elim (fun h => .inr (ex_l ((e.trans e2).trans e3) h)) (fun h => .inl (ex_t ((e.trans e2).trans e3) h)), by
    show (x :: (xs ++ [])).length ≤ sizeLine ∧ ∀ p, H3 p = none → Q (.ref p) (upd H3 p (.lst (x :: (xs ++ []))))
    rw [List.append_nil]
    exact ⟨sz_of (by rw [List.length_cons]; omega), fun l hl => q l _ (fresh_back (e2.trans e3) hl) ((e2.trans e3).trans (Ex.new hl)) upd_same⟩⟩
theorem ev_sum {ns : List Int} (ha : EvL ta σ H (ns.map V.int)) : Ev (tCB (rSum K) (tCons ta tNil)) σ H (.int ns.sum) := fun H1 e Q q =>
  ha H1 e _ fun p H2 _ e2 h2 => ⟨p, ns, rfl, sq_of h2, q H2 e2⟩
theorem ev_sumV {p : Addr} {ns : List Int} (ha : Ev ta σ H (.ref p)) (h : SqL K H p (ns.map V.int)) : Ev (tCB (rSum K) (tCons ta tNil)) σ H (.int ns.sum) := fun H1 e Q q =>
  ha H1 e _ fun H2 e2 => ⟨p, ns, rfl, ex_l (e.trans e2) h, q H2 e2⟩
theorem nats_int (ns : List Nat) : ns.map vN = (ns.map fun (i : Nat) => (i : Int)).map V.int := by rw [List.map_map]; rfl
theorem sum_nats (ns : List Nat) : (ns.map fun (i : Nat) => (i : Int)).sum = (ns.sum : Nat) := by
  induction ns with
  | nil => rfl
  | cons a r ih => rw [List.map_cons, List.sum_cons, List.sum_cons, ih, Int.natCast_add]
/-- xs[i] of a new list -/
theorem ev_ixN {xs : List V} {i : Int} (ha : EvL ta σ H xs) (hb : Ev tb σ H (.int i)) (hv : atI xs i = some v) : Ev (tOp (rIxL K) ta tb) σ H v :=
  ev_opL1 ha (fun H1 e1 => hb.mono e1) fun p H1 hp _ => rv_ixL (sq_of hp) hv
theorem ew_rng2 {ta : TA} {a n : Nat} (h : EvA ta σ H [.int a, .int (n + a : Nat)]) (hn : n + a ≤ 100000) : EvW (iRng2 ta) σ H n (YFn fun (i : Nat) => .int ((a + i : Nat) : Int)) := fun H1 e R r => h H1 e _ fun H2 e2 => ⟨a, (n + a : Nat), rfl, ⟨by omega, by omega, by omega, by omega⟩, r _ _ H2 e2 (by
  have e : (fun i : Nat => V.int (((a : Nat) : Int) + (i : Int))) = fun (i : Nat) => V.int ((a + i : Nat) : Int) := by
    funext i
    rw [Int.natCast_add]
  rw [← e, show (((n + a : Nat) : Int) - (a : Int)).toNat = n by omega]
  exact walk_range) fun _ _ => trivial⟩
end
theorem getD_eq {α : Type} {l : List α} {i : Nat} {d x : α} (h : l[i]? = some x) : l.getD i d = x := by
  rw [List.getD_eq_getElem?_getD, h]
  rfl
theorem get_map {α : Type} {l : List α} {f : α → V} {i : Nat} {x : V} (d : α) (h : (l.map f)[i]? = some x) : x = f (l.getD i d) ∧ i < l.length ∧ l[i]? = some (l.getD i d) := by
  rw [List.getElem?_map] at h
  cases e : l[i]? with
  | none => rw [e] at h; cases h
  | some a =>
    rw [e] at h
    have hl : i < l.length := (List.getElem?_eq_some_iff.mp e).1
    rw [getD_eq e]
    exact ⟨(Option.some.inj h).symm, hl, rfl⟩
end Kw
set_option Elab.async false
set_option linter.all false
set_option maxRecDepth 100000
set_option maxHeartbeats 4000000
namespace Kw
open PySem PySem.Spec PyProof.Rows L2 Evl
/-! ### enumerate of a tuple -/
def itO (l : Addr) : Obj := { cls := .type "tuple_iterator", data := .fields #[.ref l, .int 0 0] }
def enO (i : Addr) : Obj := { cls := .type "enumerate", data := .fields #[.none, .bool false, .ref i, rawInt 0, .none, .none] }
open AutoSeq1 (wpAny_loadPart') in
theorem meets_enT (l : Addr) (xs : Array Value) (n : Nat) (dd : Option Addr) (ss : Array (Option Value)) : Meets (Builtin.«enumerate.__new__» ⟨[.type "enumerate", .ref l], []⟩)
    (fun _ R s => s.heap.get? l = some { cls := .type "tuple", dict := dd, data := .seq xs n, slots := ss } ∧ R (.ok (.ret (.ref (s.heap.push (itO l)).objs.size))) { s with heap := (s.heap.push (itO l)).push (enO s.heap.objs.size) }) := by
  refine .of_wp fun prog w A R st hyp => ?_
  obtain ⟨h0, g0, d0, t0, o0⟩ := st
  obtain ⟨ho, hR⟩ := hyp
  have sb := sub_enumerate
  have hT : Heap.IsTuple (Shared.heap ⟨h0, g0, d0, t0, o0⟩) l xs := ⟨_, ho, rfl, n, rfl⟩
  wp_walk using wpAny_loadPart' ho
  refine wpAny_stack_any fun stk => (wpAny_pure ?_)
  split
  · rename_i cc _ _ _ _ _
    cases (cc == Value.type "enumerate") <;> (wp_walk using wpAny_loadPart' ho, wpAny_pyIter_tuple hT) <;> exact ⟨_, rfl, hR⟩
  · wp_walk using wpAny_loadPart' ho, wpAny_pyIter_tuple hT
    exact (⟨_, rfl, hR⟩)
theorem call_enumT {prog : Program} {w : World} {A : Around} {E : Value → Shared → Prop} {s : Shared} {l : Addr} {xs : Array Value} {Q : Value → Shared → Prop} (hT : s.heap.IsTuple l xs)
    (h : ∀ h', IsEnum h' (s.heap.objs.size + 1) s.heap.objs.size 0 .none → h'.IsTupleIter s.heap.objs.size l 0 → (∀ b o, s.heap.get? b = some o → h'.get? b = some o) → Q (.ref (s.heap.objs.size + 1)) { s with heap := h' }) :
    wpAny (model prog w) A (call (.type "enumerate") [.ref l]) Q E s := by
  obtain ⟨⟨c, dd, dt, ss⟩, ho, hc, n, hd⟩ := hT
  cases (show c = .type "tuple" from hc)
  cases (show dt = .seq xs n from hd)
  refine callType_new F.called_enumerate (by decide) (F.typeCall_enumerate_1 _) (F.newCall_enumerate_1 _) (fun ob => F.args_object_init_2 ob _) F.entry_enumerate_new (meets_enT l xs n dd ss) ⟨ho, ?_⟩
  have z1 : (s.heap.push (itO l)).objs.size = s.heap.objs.size + 1 := Heap.size_push ..
  have he : IsEnum ((s.heap.push (itO l)).push (enO s.heap.objs.size)) (s.heap.objs.size + 1) s.heap.objs.size 0 .none := by
    have q := Heap.get?_push_size (s.heap.push (itO l)) (o := enO s.heap.objs.size) rfl
    rw [z1] at q
    exact q
  show _ ∧ _
  rw [z1]
  exact ⟨⟨_, he, rfl⟩, h _ he ⟨_, Heap.get?_push_of_some _ (Heap.get?_push_size _ rfl), rfl, rfl⟩ fun b o x => Heap.get?_push_of_some _ (Heap.get?_push_of_some _ x)⟩
/-- the tuple at a, each item in a new pair with its number -/
def IteT (K : PySem.W.Frag) (a : Addr) : It where
  go := fun i H => ∃ (xs : List V) (x : V), SqT K H a xs ∧ xs[i]? = some x
  yld := fun i H v H' => ∃ T x, v = .ref T ∧ H T = none ∧ H' = upd H T (.tup [.int (i : Nat), x]) ∧ ∀ xs, SqT K H a xs → xs[i]? = some x
  stop := fun i H => ∃ xs : List V, SqT K H a xs ∧ xs.length = i
theorem turn_enT {P : Program} {w : World} {K : PySem.W.Frag} {es : List Expr} {kk : Nat} {tp : Pos} {a e it : Addr} (n1 : e ≠ it) (n2 : a ≠ it) (n3 : e ≠ a) :
    Turn P w K (.Tuple es kk tp) (IteT K a) [e, it] e (fun i h => (∃ old, IsEnum h e it ((i : Nat) : Int) old) ∧ h.IsTupleIter it a i) where
  mem := List.mem_cons_self ..
  obj := fun i h st b hb => by
    obtain ⟨⟨old, he⟩, ⟨o, ho, _, hd⟩⟩ := st
    rcases List.mem_cons.mp hb with rfl | hb
    · exact ⟨_, he, fun v q => nomatch q⟩
    · rw [List.mem_singleton.mp hb]
      exact ⟨o, ho, fun v q => by rw [hd] at q; cases q⟩
  keep := fun i h h' st k => by
    obtain ⟨⟨old, he⟩, hi⟩ := st
    exact ⟨⟨old, k e (by simp) _ he⟩, hi.at fun o q => k it (by simp) o q⟩
  item := by
    intro X hP hw hK hc i pins s σ H E I hf st hg
    cases hP
    cases hw
    cases hK
    obtain ⟨⟨old, he⟩, hit⟩ := st
    obtain ⟨xs, x, hq, hx⟩ := hg
    obtain ⟨us, rv, p, _⟩ := I.tuple hq
    obtain ⟨u, hu, ru⟩ := rv.get hx
    have le1 : e < s.heap.objs.size := Heap.lt_size he
    have le2 : it < s.heap.objs.size := by
      obtain ⟨_, z, _⟩ := hit
      exact Heap.lt_size z
    have hlt : i < us.toArray.size := by
      have := (List.getElem?_eq_some_iff.mp hu).1
      simpa using this
    refine wpAny_pyNext_enum_itemD (Draws.tuple (A := X.A.in1) (I.ok.hd hc) it a n2 us.toArray) he ⟨hit, p⟩ hlt n1 (by simp [n1, n3]) fun y h1 tk hy ho hs hT hz hk => ?_
    have ey : y = u := by
      have : us[i]? = some y := by simpa using hy
      rw [hu] at this
      exact (Option.some.inj this).symm
    subst ey
    refine ⟨_, rfl, wpAny_letOwnedTupleGo_enum (s := { s with heap := h1, toks := tk + 1 }) ho fun h2 he2 sb => ?_⟩
    have hT2 : h2.get? s.heap.objs.size = some { cls := .type "tuple", data := .seq #[.int i tk, y] } := (sb.2 _ (Nat.ne_of_gt le1)).trans hT
    have nw : ObjOk X.prog X.w (upd H s.heap.objs.size (.tup [.int (i : Nat), x])) h2 s.heap.objs.size (.tup [.int (i : Nat), x]) := ⟨by show 2 ≤ sizeLine; decide, [.int i tk, y], .cons ⟨_, rfl⟩ (.cons ru .nil), ⟨_, hT2, rfl, _, rfl⟩⟩
    have I1 : Inv X pins σ (upd H s.heap.objs.size (.tup [.int (i : Nat), x])) { s with heap := h2, toks := tk + 1 } :=
      I.turnedNew (ch := [e, it]) (fun b ob hb q => (sb.2 b (fun z => hb (by rw [z]; simp))).trans (hk b ob (fun z => hb (by rw [z]; simp)) (fun z => hb (by rw [z]; simp)) q)) hf (Nat.le_refl _) nw
    refine ⟨.ref s.heap.objs.size, _, I1, rfl, ⟨_, x, rfl, I.hok.fresh (Nat.le_refl _), rfl, fun zs hz => by rw [I.tuple_inj hz hq]; exact hx⟩, ⟨⟨y, ?_⟩, hs.1.at fun o q => (sb.2 it (Ne.symm n1)).trans q⟩, fun b hb => ?_⟩
    · rw [show ((i + 1 : Nat) : Int) = (i : Int) + 1 by omega]
      exact he2
    · have hb' : b < s.heap.objs.size := by
        rcases List.mem_cons.mp hb with rfl | hb
        · exact le1
        · rw [List.mem_singleton.mp hb]
          exact le2
      rw [upd_ne (Nat.ne_of_lt hb')]
      exact (hf b hb).1
  done := by
    intro X hP hw hK hc i pins s σ H E I hf st hg
    cases hP
    cases hw
    cases hK
    obtain ⟨⟨old, he⟩, hit⟩ := st
    obtain ⟨xs, hq, hx⟩ := hg
    obtain ⟨us, rv, p, _⟩ := I.tuple hq
    have hz : us.toArray.size = i := by
      rw [← hx, rv.length]
      simp
    obtain ⟨f0, f1, f2, f3, f4, f5⟩ := hf it (by simp)
    exact wpAny_pyNext_enum_endD (Draws.tuple (A := X.A.in1) (I.ok.hd hc) it a n2 us.toArray) he ⟨by rw [hz]; exact hit, p⟩ fun h1 eb => ⟨rfl, I.turned (t' := s.toks) (fun b o hb q => eb b o hb q) f0 f1 f3 f4 f5⟩
  self := fun A i s Q E st h => by
    obtain ⟨⟨_, he⟩, _⟩ := st
    exact wpAny_pyIter_enum he h
def iEnT (K : PySem.W.Frag) (ta : TA) : TI := fun σ H R => ta σ H fun vs H1 => ∃ a xs, vs = [.ref a] ∧ SqT K H1 a xs ∧ R (IteT K a) H1
theorem pi_enT {X : Cx} {e : Expr} {ta : TA} {p pos tp : Pos} {es : List Expr} {kk : Nat} (hg : Gl X "enumerate") (hm : X.mg "enumerate" = none) (ha : PA X [e] ta) (hs : starEach [e] X.env = [(false, eval e X.env)] := by rfl) :
    PI X (.Tuple es kk tp) (.Call (.Name "enumerate" p) [e] [] pos) (iEnT X.K ta) := by
  refine ⟨fun pins s σ H R I h => Call_ (ld_blt I hg hm PyProof.Rows.boot_enumerate (PyProof.Rows.callWith_type1 (thn (ha.run pos pins s σ H _ I h) fun us s1 ⟨vs, H1, I1, r1, q1⟩ => ?_) hs rfl))⟩
  obtain ⟨a, xs, rfl, hq, q⟩ := q1
  cases r1 with
  | cons r rr =>
    cases rr
    cases r
    obtain ⟨us, rv, pt, _⟩ := I1.tuple hq
    obtain ⟨oa, hoa, _⟩ := id pt
    have la : a < s1.heap.objs.size := Heap.lt_size hoa
    refine call_enumT pt fun h' he hit hk => wpAny_pyIter_enum he ⟨s1.heap.objs.size + 1, [s1.heap.objs.size + 1, s1.heap.objs.size], _, _, H1, rfl, I1.kept (t' := s1.toks) hk, turn_enT (Nat.succ_ne_self _) (Nat.ne_of_lt la) (Nat.ne_of_gt (Nat.lt_succ_of_lt la)), ⟨⟨.none, he⟩, hit⟩, fun b hb => ?_, q⟩
    have hle : s1.heap.objs.size ≤ b := by
      rcases List.mem_cons.mp hb with rfl | hb
      · exact Nat.le_succ _
      · rw [List.mem_singleton.mp hb]
        exact Nat.le_refl _
    exact I1.fpOk hle (I1.hok.fresh hle)
theorem walk_enT {K : PySem.W.Frag} {a : Addr} {xs : List V} : Walk (IteT K a) xs.length (fun H => SqT K H a xs) (YPair (fun i => some (.int (i : Nat))) (fun i => xs[i]?)) where
  goes := fun i _ hi q => ⟨xs, xs[i], q, List.getElem?_eq_getElem hi⟩
  stops := fun _ q => ⟨xs, q, rfl⟩
  yields := fun i H v H' _ q y => by
    obtain ⟨T, x, h1, h2, h3, h4⟩ := y
    exact ⟨T, _, x, h1, h2, h3, rfl, h4 xs q⟩
end Kw
set_option Elab.async false
set_option linter.all false
set_option maxRecDepth 100000
set_option maxHeartbeats 4000000
namespace Kw
open PySem PySem.Spec PyProof.Rows L2 Evl
/-! ### data compared -/
def dN (ns : List Nat) : List PyData := ns.map fun (i : Nat) => PyData.int (i : Int)
def dR (rs : List (List Nat)) : List PyData := rs.map fun r => PyData.tuple (dN r)
theorem lay_dN : ∀ ns : List Nat, PyData.canLayAll0 (dN ns) = true
  | [] => by simp [dN, PyData.canLayAll0]
  | a :: r => by
    have := lay_dN r
    simp only [dN, List.map_cons, PyData.canLayAll0, PyData.canLay0, Bool.true_and] at this ⊢
    exact this
theorem depth_dN : ∀ ns : List Nat, PyData.depthAll (dN ns) ≤ 1
  | [] => by simp [dN, PyData.depthAll]
  | a :: r => by
    have := depth_dN r
    simp only [dN, List.map_cons, PyData.depthAll, PyData.depth] at this ⊢
    omega
theorem lay_dR : ∀ rs : List (List Nat), PyData.canLayAll0 (dR rs) = true
  | [] => by simp [dR, PyData.canLayAll0]
  | a :: r => by
    have := lay_dR r
    have h2 := lay_dN a
    simp only [dR, List.map_cons, PyData.canLayAll0, PyData.canLay0, Bool.and_eq_true] at this ⊢
    exact ⟨h2, this⟩
theorem depth_dR : ∀ rs : List (List Nat), PyData.depthAll (dR rs) ≤ 2
  | [] => by simp [dR, PyData.depthAll]
  | a :: r => by
    have := depth_dR r
    have h2 := depth_dN a
    simp only [dR, List.map_cons, PyData.depthAll, PyData.depth] at this ⊢
    omega
theorem shaped_lN (ns : List Nat) : SeqAt.shaped (.list (dN ns)) = true := by
  have h1 := depth_dN ns
  refine Bool.and_eq_true_iff.mpr ⟨?_, decide_eq_true ?_⟩
  · rw [PyData.canLay0]
    exact lay_dN ns
  · rw [PyData.depth]
    omega
theorem shaped_tN (ns : List Nat) : SeqAt.shaped (.tuple (dN ns)) = true := by
  have h1 := depth_dN ns
  refine Bool.and_eq_true_iff.mpr ⟨?_, decide_eq_true ?_⟩
  · rw [PyData.canLay0]
    exact lay_dN ns
  · rw [PyData.depth]
    omega
theorem shaped_lR (rs : List (List Nat)) : SeqAt.shaped (.list (dR rs)) = true := by
  have h1 := depth_dR rs
  refine Bool.and_eq_true_iff.mpr ⟨?_, decide_eq_true ?_⟩
  · rw [PyData.canLay0]
    exact lay_dR rs
  · rw [PyData.depth]
    omega
theorem eqv_dN : ∀ a b : List Nat, PyData.eqvAll (dN a) (dN b) = decide (a = b)
  | [], [] => by simp [dN, PyData.eqvAll]
  | [], _ :: _ => by simp [dN, PyData.eqvAll]
  | _ :: _, [] => by simp [dN, PyData.eqvAll]
  | x :: r, y :: t => by
    have ih := eqv_dN r t
    simp only [dN, List.map_cons, PyData.eqvAll, PyData.eqv] at ih ⊢
    rw [ih]
    by_cases h1 : x = y
    · subst h1
      by_cases h2 : r = t
      · subst h2
        simp
      · simp [h2]
    · have : ((x : Int) == (y : Int)) = false := by
        apply beq_eq_false_iff_ne.mpr
        omega
      rw [this]
      simp [h1]
theorem eqv_dR : ∀ a b : List (List Nat), PyData.eqvAll (dR a) (dR b) = decide (a = b)
  | [], [] => by simp [dR, PyData.eqvAll]
  | [], _ :: _ => by simp [dR, PyData.eqvAll]
  | _ :: _, [] => by simp [dR, PyData.eqvAll]
  | x :: r, y :: t => by
    have ih := eqv_dR r t
    have e := eqv_dN x y
    simp only [dR, List.map_cons, PyData.eqvAll, PyData.eqv] at ih ⊢
    rw [ih, e]
    by_cases h1 : x = y
    · subst h1
      by_cases h2 : r = t
      · subst h2
        simp
      · simp [h2]
    · simp [h1]
section
variable {K : PySem.W.Frag} {H H' : Hp} {σ : L2.St} {ta tb : TE}
theorem dp_nats : ∀ ns : List Nat, DpAll K H (ns.map vN) (dN ns)
  | [] => .nil
  | a :: r => .cons (.int _) (dp_nats r)
theorem dp_tups : ∀ {ys : List V} {rs : List (List Nat)}, TupsAt K H ys rs → DpAll K H ys (dR rs)
  | _, _, .nil => .nil
  | _, _, .cons h t => by
    obtain ⟨a, rfl, ha⟩ := h
    exact .cons (.tup ha (dp_nats _)) (dp_tups t)
theorem rv_eqLN {p q : Addr} {a b : List Nat} (h1 : SqL K H p (a.map vN)) (h2 : SqL K H q (b.map vN)) : RV (rEqD K) (.ref p) (.ref q) H (.bl (decide (a = b))) := fun H1 e Q k =>
  ⟨_, _, .lst (ex_l e h1) (dp_nats a), .lst (ex_l e h2) (dp_nats b), shaped_lN a, shaped_lN b, by
    rw [show PyData.eqv (.list (dN a)) (.list (dN b)) = decide (a = b) by rw [PyData.eqv, eqv_dN]]
    exact k H1 (Ex.refl H1)⟩
theorem rv_neLN {p q : Addr} {a b : List Nat} (h1 : SqL K H p (a.map vN)) (h2 : SqL K H q (b.map vN)) : RV (rNeD K) (.ref p) (.ref q) H (.bl (!decide (a = b))) := fun H1 e Q k =>
  ⟨_, _, .lst (ex_l e h1) (dp_nats a), .lst (ex_l e h2) (dp_nats b), shaped_lN a, shaped_lN b, by
    rw [show PyData.eqv (.list (dN a)) (.list (dN b)) = decide (a = b) by rw [PyData.eqv, eqv_dN]]
    exact k H1 (Ex.refl H1)⟩
theorem rv_neTN {p q : Addr} {a b : List Nat} (h1 : SqT K H p (a.map vN)) (h2 : SqT K H q (b.map vN)) : RV (rNeD K) (.ref p) (.ref q) H (.bl (!decide (a = b))) := fun H1 e Q k =>
  ⟨_, _, .tup (ex_t e h1) (dp_nats a), .tup (ex_t e h2) (dp_nats b), shaped_tN a, shaped_tN b, by
    rw [show PyData.eqv (.tuple (dN a)) (.tuple (dN b)) = decide (a = b) by rw [PyData.eqv, eqv_dN]]
    exact k H1 (Ex.refl H1)⟩
theorem rv_eqTN {p q : Addr} {a b : List Nat} (h1 : SqT K H p (a.map vN)) (h2 : SqT K H q (b.map vN)) : RV (rEqD K) (.ref p) (.ref q) H (.bl (decide (a = b))) := fun H1 e Q k =>
  ⟨_, _, .tup (ex_t e h1) (dp_nats a), .tup (ex_t e h2) (dp_nats b), shaped_tN a, shaped_tN b, by
    rw [show PyData.eqv (.tuple (dN a)) (.tuple (dN b)) = decide (a = b) by rw [PyData.eqv, eqv_dN]]
    exact k H1 (Ex.refl H1)⟩
theorem rv_neLR {p q : Addr} {ys zs : List V} {a b : List (List Nat)} (h1 : SqL K H p ys) (t1 : TupsAt K H ys a) (h2 : SqL K H q zs) (t2 : TupsAt K H zs b) : RV (rNeD K) (.ref p) (.ref q) H (.bl (!decide (a = b))) := fun H1 e Q k =>
  ⟨_, _, .lst (ex_l e h1) (dp_tups (t1.keep (KeepT.ex e))), .lst (ex_l e h2) (dp_tups (t2.keep (KeepT.ex e))), shaped_lR a, shaped_lR b, by
    rw [show PyData.eqv (.list (dR a)) (.list (dR b)) = decide (a = b) by rw [PyData.eqv, eqv_dR]]
    exact k H1 (Ex.refl H1)⟩
end
end Kw
set_option Elab.async false
set_option linter.all false
set_option maxRecDepth 100000
set_option maxHeartbeats 4000000
namespace Kw
open PySem PySem.Spec PyProof.Rows L2 Evl
/-! ### data: what stays -/
section
variable {K : PySem.W.Frag} {H H' : Hp}
mutual
theorem dp_ex (e : Ex H H') : ∀ (d : PyData) (v : V), Dp K H v d → Dp K H' v d
  | .none, _, h => by cases h; exact .non
  | .bool b, _, h => by cases h; exact .bl b
  | .int i, _, h => by cases h; exact .int i
  | .str x, _, h => by cases h; exact .str x
  | .list ds, _, h => by
    cases h with
    | lst h a => exact .lst (ex_l e h) (dpA_ex e ds _ a)
  | .tuple ds, _, h => by
    cases h with
    | tup h a => exact .tup (ex_t e h) (dpA_ex e ds _ a)
  | .dict _, _, h => by cases h
theorem dpA_ex (e : Ex H H') : ∀ (ds : List PyData) (vs : List V), DpAll K H vs ds → DpAll K H' vs ds
  | [], _, h => by cases h; exact .nil
  | d :: ds, _, h => by
    cases h with
    | cons a b => exact .cons (dp_ex e d _ a) (dpA_ex e ds _ b)
end
mutual
/-- no list within -/
def Fz : PyData → Bool
  | .none => true
  | .bool _ => true
  | .int _ => true
  | .str _ => true
  | .tuple ds => FzA ds
  | .list _ => false
  | .dict _ => false
def FzA : List PyData → Bool
  | [] => true
  | d :: ds => Fz d && FzA ds
end
mutual
theorem dp_keep (e : KeepT H H') : ∀ (d : PyData) (v : V), Fz d = true → Dp K H v d → Dp K H' v d
  | .none, _, _, h => by cases h; exact .non
  | .bool b, _, _, h => by cases h; exact .bl b
  | .int i, _, _, h => by cases h; exact .int i
  | .str x, _, _, h => by cases h; exact .str x
  | .list ds, _, f, h => by simp [Fz] at f
  | .tuple ds, _, f, h => by
    cases h with
    | tup h a => exact .tup (keep_t e h) (dpA_keep e ds _ (by simpa [Fz] using f) a)
  | .dict _, _, _, h => by cases h
theorem dpA_keep (e : KeepT H H') : ∀ (ds : List PyData) (vs : List V), FzA ds = true → DpAll K H vs ds → DpAll K H' vs ds
  | [], _, _, h => by cases h; exact .nil
  | d :: ds, _, f, h => by
    cases h with
    | cons a b =>
      simp only [FzA, Bool.and_eq_true] at f
      exact .cons (dp_keep e d _ f.1 a) (dpA_keep e ds _ f.2 b)
end
theorem dpA_paired : ∀ {vs : List V} {ds : List PyData}, DpAll K H vs ds → Paired (Dp K H) vs ds
  | _, [], h => by cases h; exact .nil
  | _, d :: ds, h => by
    cases h with
    | cons a b => exact .cons a (dpA_paired b)
theorem dpA_of : ∀ {vs : List V} {ds : List PyData}, Paired (Dp K H) vs ds → DpAll K H vs ds
  | _, _, .nil => .nil
  | _, _, .cons a b => .cons a (dpA_of b)
theorem dpA_len {vs : List V} {ds : List PyData} (h : DpAll K H vs ds) : vs.length = ds.length := paired_len (dpA_paired h)
theorem dpA_get {vs : List V} {ds : List PyData} {i : Nat} {v : V} (h : DpAll K H vs ds) (hv : vs[i]? = some v) : ∃ d, ds[i]? = some d ∧ Dp K H v d := paired_get (dpA_paired h) hv
theorem dpA_get2 {vs : List V} {ds : List PyData} {i : Nat} {d : PyData} (h : DpAll K H vs ds) (hd : ds[i]? = some d) : ∃ v, vs[i]? = some v ∧ Dp K H v d := paired_get2 (dpA_paired h) hd
theorem dpA_strs : ∀ zs : List Str, DpAll K H (zs.map V.str) (zs.map PyData.str)
  | [] => .nil
  | z :: r => .cons (.str z) (dpA_strs r)
theorem dpA_strs_inv : ∀ {vs : List V} {zs : List Str}, DpAll K H vs (zs.map PyData.str) → vs = zs.map V.str
  | _, [], h => by cases h; rfl
  | _, z :: r, h => by
    cases h with
    | cons a b =>
      cases a
      rw [dpA_strs_inv b]
      rfl
theorem dpA_nats : ∀ ns : List Nat, DpAll K H (ns.map vN) (ns.map fun (i : Nat) => PyData.int (i : Int))
  | [] => .nil
  | n :: r => .cons (.int _) (dpA_nats r)
theorem dpA_nats_inv : ∀ {vs : List V} {ns : List Nat}, DpAll K H vs (ns.map fun (i : Nat) => PyData.int (i : Int)) → vs = ns.map vN
  | _, [], h => by cases h; rfl
  | _, z :: r, h => by
    cases h with
    | cons a b =>
      cases a
      rw [dpA_nats_inv b]
      rfl
theorem dp_tup_inv {v : V} {ds : List PyData} (h : Dp K H v (.tuple ds)) : ∃ a xs, v = .ref a ∧ SqT K H a xs ∧ DpAll K H xs ds := by
  cases h with
  | tup h a => exact ⟨_, _, rfl, h, a⟩
theorem dp_lst_inv {v : V} {ds : List PyData} (h : Dp K H v (.list ds)) : ∃ a xs, v = .ref a ∧ SqL K H a xs ∧ DpAll K H xs ds := by
  cases h with
  | lst h a => exact ⟨_, _, rfl, h, a⟩
end
/-! ### its kind -/
def tyOf : PyData → String
  | .none => "NoneType"
  | .bool _ => "bool"
  | .int _ => "int"
  | .str _ => "str"
  | .list _ => "list"
  | .tuple _ => "tuple"
  | .dict _ => "dict"
section
variable {K : PySem.W.Frag} {σ : L2.St} {H H' : Hp} {ta tb tc te tl : TE} {t u : TT} {x y z v : V} {r r' : R2} {d : PyData}
theorem ty_lst {a : Addr} {xs : List V} (h : SqL K H a xs) : TyX K H (.ref a) (.type "list") := by
  rcases h with (h | ⟨o, h⟩) | ⟨o, its, n, h1, h2, _⟩
  · exact .base (.lst h)
  · exact .base (.frz h)
  · exact .kList h1 h2
theorem ty_dp (h : Dp K H v d) : TyX K H v (.type (tyOf d)) := by
  cases h with
  | non => exact .base .non
  | bl b => exact .base (.bl b)
  | int i => exact .base (.int i)
  | str x => exact .base (.str x)
  | lst h a => exact ty_lst h
  | tup h a => exact ty_tup h
theorem ev_isiD {U : String} {b : Bool} (ha : Ev ta σ H v) (hb : Ev tb σ H (.ty U)) (hd : Dp K H v d) (hk : kitB (tyOf d) U = some b) : Ev (tCB (rIsi K) (tCons ta (tCons tb tNil))) σ H (.bl b) := ev_isi ha hb (fun H1 e => ty_dp (dp_ex e _ _ hd)) hk
def isTupD : PyData → Bool
  | .tuple _ => true
  | _ => false
def isStrD : PyData → Bool
  | .str _ => true
  | _ => false
def isLstD : PyData → Bool
  | .list _ => true
  | _ => false
def isIntD : PyData → Bool
  | .int _ => true
  | _ => false
def isBolD : PyData → Bool
  | .bool _ => true
  | _ => false
theorem kit_tup (h : Dp K H v d) : kitB (tyOf d) "tuple" = some (isTupD d) := by
  cases h <;> first | exact (by decide +kernel : kitB "NoneType" "tuple" = some false) | exact (by decide +kernel : kitB "bool" "tuple" = some false) | exact (by decide +kernel : kitB "int" "tuple" = some false) | exact (by decide +kernel : kitB "str" "tuple" = some false) | exact (by decide +kernel : kitB "list" "tuple" = some false) | exact (by decide +kernel : kitB "tuple" "tuple" = some true)
theorem kit_str (h : Dp K H v d) : kitB (tyOf d) "str" = some (isStrD d) := by
  cases h <;> first | exact (by decide +kernel : kitB "NoneType" "str" = some false) | exact (by decide +kernel : kitB "bool" "str" = some false) | exact (by decide +kernel : kitB "int" "str" = some false) | exact (by decide +kernel : kitB "str" "str" = some true) | exact (by decide +kernel : kitB "list" "str" = some false) | exact (by decide +kernel : kitB "tuple" "str" = some false)
theorem kit_int (h : Dp K H v d) : kitB (tyOf d) "int" = some (isIntD d || isBolD d) := by
  cases h <;> first | exact (by decide +kernel : kitB "NoneType" "int" = some false) | exact (by decide +kernel : kitB "bool" "int" = some true) | exact (by decide +kernel : kitB "int" "int" = some true) | exact (by decide +kernel : kitB "str" "int" = some false) | exact (by decide +kernel : kitB "list" "int" = some false) | exact (by decide +kernel : kitB "tuple" "int" = some false)
theorem kit_bol (h : Dp K H v d) : kitB (tyOf d) "bool" = some (isBolD d) := by
  cases h <;> first | exact (by decide +kernel : kitB "NoneType" "bool" = some false) | exact (by decide +kernel : kitB "bool" "bool" = some true) | exact (by decide +kernel : kitB "int" "bool" = some false) | exact (by decide +kernel : kitB "str" "bool" = some false) | exact (by decide +kernel : kitB "list" "bool" = some false) | exact (by decide +kernel : kitB "tuple" "bool" = some false)
theorem kit_lst (h : Dp K H v d) : kitB (tyOf d) "list" = some (isLstD d) := by
  cases h <;> first | exact (by decide +kernel : kitB "NoneType" "list" = some false) | exact (by decide +kernel : kitB "bool" "list" = some false) | exact (by decide +kernel : kitB "int" "list" = some false) | exact (by decide +kernel : kitB "str" "list" = some false) | exact (by decide +kernel : kitB "list" "list" = some true) | exact (by decide +kernel : kitB "tuple" "list" = some false)
end
end Kw
set_option Elab.async false
set_option linter.all false
set_option maxRecDepth 100000
set_option maxHeartbeats 4000000
namespace Kw
open PySem PySem.Spec PyProof.Rows L2 Evl
/-! ### what is left of a text without its letters -/
def low (c : Nat) : Bool := decide (97 ≤ c) && decide (c ≤ 122)
def lowB (z : Str) : Bool := z.cps.toList.all low
theorem str_ext {a b : Str} (h : a.cps.toList = b.cps.toList) : a = b := by
  cases a; cases b
  congr 1
  exact Array.toList_inj.mp h
theorem str_nil (a : Str) : a = ("" : Str) ↔ a.cps.toList = [] := by
  constructor
  · rintro rfl
    rfl
  · intro h
    exact str_ext h
theorem strip_nil (goes : Nat → Bool) (x : Str) : Txt.stripBy goes true true x = ("" : Str) ↔ x.cps.toList.all goes = true := by
  have hx : x.length = x.cps.toList.length := rfl
  generalize hl : x.cps.toList = l at hx
  constructor
  · intro h
    rcases hall : l.all goes with _ | _
    · exfalso
      have htw := List.takeWhile_append_dropWhile (p := goes) (l := l)
      cases hd : l.dropWhile goes with
      | nil =>
        rw [hd, List.append_nil] at htw
        have : l.all goes = true := by
          rw [← htw]
          exact List.all_takeWhile
        rw [this] at hall
        cases hall
      | cons c r =>
        have hc : goes c = false := by
          have := List.head_dropWhile_not goes (l := l) (by rw [hd]; exact List.cons_ne_nil _ _)
          simpa [hd] using this
        have hdrop : l.drop (l.takeWhile goes).length = c :: r := by
          rw [hd] at htw
          have h3 := List.drop_left (l₁ := l.takeWhile goes) (l₂ := c :: r)
          rw [htw] at h3
          exact h3
        have hlen : l.length = (l.takeWhile goes).length + (r.length + 1) := by
          conv => lhs; rw [← htw, hd]
          rw [List.length_append, List.length_cons]
        have hrev : (((c :: r).reverse).takeWhile goes).length ≤ r.length := by
          rw [List.reverse_cons]
          rw [List.takeWhile_append]
          split
          · rw [List.takeWhile_cons_of_neg (by rw [hc]; decide), List.append_nil, List.length_reverse]
            exact Nat.le_refl _
          · have := (List.takeWhile_prefix (p := goes) (l := r.reverse)).length_le
            rw [List.length_reverse] at this
            exact this
        unfold Txt.stripBy at h
        split at h
        · rw [str_nil, hl] at h
          rw [h] at hlen
          simp at hlen
        · unfold PySem.stripped at h
          rw [str_nil] at h
          unfold PySem.Builtin.Str.strSub at h
          have h2 := congrArg List.length h
          simp only [PySem.stripLo, PySem.stripHi, if_true, hl, Array.length_toList, Array.size_extract, List.length_nil, hdrop] at h2
          rw [show x.cps.size = l.length by rw [← hl]; rfl, hx] at h2
          omega
    · rfl
  · intro hall
    have htw : l.takeWhile goes = l := by
      have h2 := List.all_eq_true.mp hall
      clear hall hl hx
      induction l with
      | nil => rfl
      | cons a r ih =>
        rw [List.takeWhile_cons_of_pos (h2 a (List.mem_cons_self ..)), ih fun b hb => h2 b (List.mem_cons_of_mem _ hb)]
    unfold Txt.stripBy
    split
    · next hs =>
      unfold PySem.stripSame PySem.stripLo at hs
      rw [hl, htw] at hs
      simp at hs
      rw [str_nil, hl]
      exact hs.1
    · rw [str_nil]
      unfold PySem.stripped PySem.Builtin.Str.strSub PySem.stripLo
      simp only [if_true, hl, htw]
      apply List.eq_nil_of_length_eq_zero
      rw [Array.length_toList, Array.size_extract]
      unfold PySem.stripHi
      rw [show x.cps.size = l.length by rw [← hl]; rfl]
      omega
theorem goes_low (c : Nat) : (Str.ofString "abcdefghijklmnopqrstuvwxyz").cps.contains c = low c := by
  have e : (Str.ofString "abcdefghijklmnopqrstuvwxyz").cps = ((List.range 26).map (97 + ·)).toArray := by decide +kernel
  rw [e]
  have h : ((List.range 26).map (97 + ·)).toArray.contains c = true ↔ low c = true := by
    rw [Array.contains_iff_mem, List.mem_toArray, List.mem_map]
    unfold low
    rw [Bool.and_eq_true, decide_eq_true_eq, decide_eq_true_eq]
    constructor
    · rintro ⟨i, hi, rfl⟩
      have := List.mem_range.mp hi
      omega
    · rintro ⟨h1, h2⟩
      exact ⟨c - 97, List.mem_range.mpr (by omega), by omega⟩
  cases h1 : ((List.range 26).map (97 + ·)).toArray.contains c <;> cases h2 : low c
  · rfl
  · rw [h.mpr h2] at h1; cases h1
  · rw [h.mp h1] at h2; cases h2
  · rfl
theorem strip_low (x : Str) : decide (V.str (Txt.stripChars x (Str.ofString "abcdefghijklmnopqrstuvwxyz")) = V.str ("" : Str)) = lowB x := by
  have h := strip_nil (Str.ofString "abcdefghijklmnopqrstuvwxyz").cps.contains x
  have e : x.cps.toList.all (Str.ofString "abcdefghijklmnopqrstuvwxyz").cps.contains = lowB x := by
    unfold lowB
    congr 1
    funext c
    exact goes_low c
  rw [e] at h
  cases hb : lowB x with
  | true => exact decide_eq_true (congrArg V.str (h.mpr hb))
  | false =>
    refine decide_eq_false fun z => ?_
    have := h.mp (V.str.inj z)
    rw [this] at hb
    cases hb
theorem joinL_nil : ∀ l : List (List Nat), TL.joinL [] l = l.flatten
  | [] => rfl
  | [p] => by simp [TL.joinL]
  | p :: q :: r => by
    show p ++ ([] ++ TL.joinL [] (q :: r)) = _
    rw [joinL_nil (q :: r)]
    rfl
theorem join_low (zs : List Str) : lowB (Txt.join ("" : Str) zs) = zs.all lowB := by
  unfold lowB
  rw [show (Txt.join ("" : Str) zs).cps.toList = (zs.map fun z => z.cps.toList).flatten from ?_]
  · rw [List.all_flatten, List.all_map]
    rfl
  · rw [TL.join_eq]
    exact (TL.tl_join ("" : Str) zs).trans (joinL_nil _)
end Kw
set_option Elab.async false
set_option linter.all false
set_option maxRecDepth 100000
set_option maxHeartbeats 4000000
namespace Kw
open PySem PySem.Spec PyProof.Rows L2 Evl
section
variable {K : PySem.W.Frag} {σ : L2.St} {H H' : Hp} {ta tb tc te tl : TE} {t u : TT} {x y z v : V} {r r' : R2} {d e : PyData}
theorem rv_eqDp (h1 : Dp K H x d) (h2 : Dp K H y e) (s1 : SeqAt.shaped d = true) (s2 : SeqAt.shaped e = true) : RV (rEqD K) x y H (.bl (PyData.eqv d e)) := fun H1 e1 Q q => ⟨d, e, dp_ex e1 _ _ h1, dp_ex e1 _ _ h2, s1, s2, q H1 (Ex.refl H1)⟩
theorem rv_neDp (h1 : Dp K H x d) (h2 : Dp K H y e) (s1 : SeqAt.shaped d = true) (s2 : SeqAt.shaped e = true) : RV (rNeD K) x y H (.bl (!PyData.eqv d e)) := fun H1 e1 Q q => ⟨d, e, dp_ex e1 _ _ h1, dp_ex e1 _ _ h2, s1, s2, q H1 (Ex.refl H1)⟩
theorem lay_strs : ∀ cs : List Str, (∀ c ∈ cs, PyData.strOk c = true) → PyData.canLayAll0 (cs.map PyData.str) = true
  | [], _ => by simp [PyData.canLayAll0]
  | a :: r, h => by
    have h1 := lay_strs r fun c hc => h c (List.mem_cons_of_mem _ hc)
    have h2 := h a (List.mem_cons_self ..)
    simp only [List.map_cons, PyData.canLayAll0, PyData.canLay0, h1, h2, Bool.and_true]
theorem depth_strs : ∀ cs : List Str, PyData.depthAll (cs.map PyData.str) ≤ 1
  | [] => by simp [PyData.depthAll]
  | a :: r => by
    have := depth_strs r
    simp only [List.map_cons, PyData.depthAll, PyData.depth]
    omega
theorem shaped_lS {cs : List Str} (h : ∀ c ∈ cs, PyData.strOk c = true) : SeqAt.shaped (.list (cs.map PyData.str)) = true := by
  have := depth_strs cs
  unfold SeqAt.shaped
  rw [Bool.and_eq_true, decide_eq_true_eq]
  exact ⟨by simp only [PyData.canLay0]; exact lay_strs cs h, by simp only [PyData.depth]; omega⟩
theorem shaped_tS {cs : List Str} (h : ∀ c ∈ cs, PyData.strOk c = true) : SeqAt.shaped (.tuple (cs.map PyData.str)) = true := by
  have := depth_strs cs
  unfold SeqAt.shaped
  rw [Bool.and_eq_true, decide_eq_true_eq]
  exact ⟨by simp only [PyData.canLay0]; exact lay_strs cs h, by simp only [PyData.depth]; omega⟩
theorem strOk_low {z : Str} (h : lowB z = true) : PyData.strOk z = true := by
  unfold PyData.strOk
  rw [Array.all_eq_true_iff_forall_mem]
  intro c hc
  have := List.all_eq_true.mp h c (by simpa using hc)
  unfold low at this
  rw [Bool.and_eq_true, decide_eq_true_eq, decide_eq_true_eq] at this
  exact decide_eq_true (by omega)
theorem eqv_nilL (ds : List PyData) : PyData.eqv (.list ds) (.list []) = decide (ds = []) := by
  cases ds <;> simp [PyData.eqv, PyData.eqvAll]
theorem eqv_nilT (ds : List PyData) : PyData.eqv (.tuple ds) (.tuple []) = decide (ds = []) := by
  cases ds <;> simp [PyData.eqv, PyData.eqvAll]
theorem shaped_nilL : SeqAt.shaped (.list []) = true := by decide +kernel
theorem shaped_nilT : SeqAt.shaped (.tuple []) = true := by decide +kernel
/-- a tuple of what is asked, new or old -/
theorem ep_catA {a : Addr} {xs ys : List V} (ha : Ev ta σ H (.ref a)) (hx : SqT K H a xs) (hb : EvU tb σ H ys) (hn : xs.length + ys.length ≤ 100000) : EvP (tOp (rCatA K) ta tb) σ H (IsT K (xs ++ ys)) := fun H1 e Q q =>
  ha H1 e _ fun H2 e2 => hb H2 (e.trans e2) _ fun b H3 nb e3 hb3 => by
    have hx3 := ex_t ((e.trans e2).trans e3) hx
    refine ⟨a, b, xs, ys, rfl, rfl, hx3, st_of hb3, sz_of hn, fun h => ?_, fun h h' => ?_, fun h h' p hp => ?_⟩
    · subst h
      exact q _ H3 (e2.trans e3) ⟨b, rfl, st_of hb3⟩
    · subst h'
      exact q _ H3 (e2.trans e3) ⟨a, rfl, by rw [List.append_nil]; exact hx3⟩
    · exact q _ _ ((e2.trans e3).trans (Ex.new hp)) ⟨p, rfl, st_of upd_same⟩
end
end Kw
set_option Elab.async false
set_option linter.all false
set_option maxRecDepth 100000
set_option maxHeartbeats 4000000
namespace Kw
open PySem PySem.Spec PyProof.Rows L2 Evl
abbrev sWho : Stmt := topS 19
theorem scWho : FnScope ["thing"] ["thing"] (defScope sWho) := ⟨rfl, rfl, rfl, by decide +kernel, rfl, by decide +kernel, by decide +kernel⟩
section
variable {P : Program} {w : World} {K : PySem.W.Frag} {mg : Str → Option Value} {base : Heap}
def spWho (K : PySem.W.Frag) : Sp := fun vs H Q _ => ∃ (x : V) (T : String) (b1 b2 : Bool), vs = [x] ∧ (∀ H1, Ex H H1 → TyX K H1 x (.type T)) ∧ kitB T "int" = some b1 ∧ kitB T "bool" = some b2 ∧ RetV (.bl (b1 && !b2)) H Q
theorem ok_who {f  : Addr} {fd  : FuncData} {k : Nat} (F : Fun K "is_whole" "is_whole" sWho f fd) (B : Bu mg) : FnOk P w K mg base CX0 (k + 1) f fd ["thing"] (spWho K) := by
  refine F.ok scWho (fun vs H Q E h => ?_) (fun cdv A outer s H vs Q E hr h => ?_)
  · obtain ⟨x, T, b1, b2, rfl, _⟩ := h
    rfl
  · obtain ⟨x, T, b1, b2, rfl, hT, h1, h2, q⟩ := h
    refine ⟨_, (pss_one (ps_ret (pe_and (pe_callB call_isi (by rfl) B.isi boot_isinstance (pa_cons (pv 0) (pa_cons (pe_bltn (v := .ty "int") (by rfl) B.int boot_int rfl) pa_nil))) (pe_one (pe_not (pe_callB call_isi (by rfl) B.isi boot_isinstance (pa_cons (pv 0) (pa_cons (pe_bltn (v := .ty "bool") (by rfl) B.bool (by decide +kernel) rfl) pa_nil)))))))), ?_⟩
    exact s_ret (v := .bl (b1 && !b2)) (ev_andV (ev_isi (K := K) (ev_var (v := x) rfl) ev_c hT h1) fun _ => ev_notV (ev_isi (K := K) (ev_var (v := x) rfl) ev_c hT h2)) (fun H1 e1 => q H1 e1)
theorem who_int {H : Hp} {i : Int} {Q : VK} {E : XK} (q : RetV (.bl true) H Q) : spWho K [.int i] H Q E := ⟨.int i, "int", true, false, rfl, fun H1 _ => .base (.int i), by decide +kernel, by decide +kernel, q⟩
theorem who_dp {H : Hp} {v : V} {d : PyData} {Q : VK} {E : XK} (h : Dp K H v d) (q : RetV (.bl (isIntD d)) H Q) : spWho K [v] H Q E := by
  refine ⟨v, tyOf d, _, _, rfl, fun H1 e => ty_dp (dp_ex e _ _ h), kit_int h, kit_bol h, ?_⟩
  have e : ((isIntD d || isBolD d) && !isBolD d) = isIntD d := by cases d <;> rfl
  rw [e]
  exact q
end
end Kw
set_option Elab.async false
set_option linter.all false
set_option maxRecDepth 100000
set_option maxHeartbeats 4000000
/-! sorted of tuples of ints of any length, and of pairs of an int and such a tuple -/
namespace SoX
open PySem PySem.Spec PyProof.Rows SrtO
theorem lex_asym : ∀ (x y : List Int), HT.lexLt x y = true → HT.lexLt y x = false
  | [], [], h => by cases h
  | [], _ :: _, _ => rfl
  | _ :: _, [], h => by cases h
  | a :: x, b :: y, h => by
    rw [HT.lexLt_cons] at h ⊢
    by_cases e : a = b
    · subst e
      rw [if_pos rfl] at h ⊢
      exact lex_asym x y h
    · rw [if_neg e] at h
      rw [if_neg (fun z => e z.symm)]
      have := of_decide_eq_true h
      exact decide_eq_false (by omega)
theorem lex_tr : ∀ (x y z : List Int), HT.lexLt y x = false → HT.lexLt z y = false → HT.lexLt z x = false
  | [], [], [], _, _ => rfl
  | [], [], _ :: _, _, _ => rfl
  | [], _ :: _, [], h1, h2 => by cases h2
  | [], _ :: _, _ :: _, _, _ => rfl
  | _ :: _, [], [], h, _ => by cases h
  | _ :: _, [], _ :: _, h, _ => by cases h
  | _ :: _, _ :: _, [], _, h => by cases h
  | a :: x, b :: y, c :: z, h1, h2 => by
    rw [HT.lexLt_cons] at h1 h2 ⊢
    by_cases e1 : b = a
    · rw [if_pos e1] at h1
      by_cases e2 : c = b
      · rw [if_pos e2] at h2
        rw [if_pos (e2.trans e1)]
        exact lex_tr x y z h1 h2
      · rw [if_neg e2] at h2
        rw [if_neg (fun z => e2 (z.trans e1.symm)), ← e1]
        exact h2
    · rw [if_neg e1] at h1
      have h1 := of_decide_eq_false h1
      by_cases e2 : c = b
      · rw [if_neg (fun z => e1 (e2.symm.trans z))]
        exact decide_eq_false (by omega)
      · rw [if_neg e2] at h2
        have h2 := of_decide_eq_false h2
        rw [if_neg (by omega)]
        exact decide_eq_false (by omega)
theorem swo_lexL {α : Type} (k : α → List Int) : Swo fun v u => HT.lexLt (k v) (k u) := ⟨fun x y h => lex_asym _ _ h, fun x y z h1 h2 => lex_tr _ _ _ h1 h2⟩
theorem lex_refl : ∀ x : List Int, HT.lexLt x x = false := fun x => by
  cases h : HT.lexLt x x with
  | false => rfl
  | true => rw [lex_asym x x h] at h; cases h
/-- a tuple of ints -/
def TupI (h : Heap) (v : Value) (ns : List Int) : Prop := ∃ a its, v = .ref a ∧ IsTup h a its ∧ IntsAre its.toList ns
theorem TupI.keeps {h h' : Heap} {v : Value} {ns : List Int} (p : TupI h v ns) (k : ∀ b o, h.get? b = some o → o.cls = .type "tuple" → h'.get? b = some o) : TupI h' v ns := by
  obtain ⟨a, its, e, ⟨o, ho, hc, hd⟩, hi⟩ := p
  exact ⟨a, its, e, ⟨o, k _ _ ho hc, hc, hd⟩, hi⟩
theorem readsAll_ints {h : Heap} : ∀ {vs : List Value} {ns : List Int}, IntsAre vs ns → ReadsAll h vs (ns.map PyData.int) []
  | _, _, .nil => .nil
  | _, _, .cons n t r => ReadsAll.cons (as := []) (bs := []) (.int n t) (readsAll_ints r)
theorem TupI.reads {h : Heap} {v : Value} {ns : List Int} (p : TupI h v ns) : Reads h v (.tuple (ns.map PyData.int)) [] := by
  obtain ⟨a, its, rfl, ⟨o, ho, hc, n, hd⟩, hi⟩ := p
  exact .tuple ho hc hd (readsAll_ints hi)
theorem lay_ints : ∀ ns : List Int, PyData.canLayAll0 (ns.map PyData.int) = true
  | [] => by simp [PyData.canLayAll0]
  | a :: r => by
    have := lay_ints r
    simp only [List.map_cons, PyData.canLayAll0, PyData.canLay0, Bool.true_and]
    exact this
theorem depth_ints : ∀ ns : List Int, PyData.depthAll (ns.map PyData.int) ≤ 1
  | [] => by simp [PyData.depthAll]
  | a :: r => by
    have := depth_ints r
    simp only [List.map_cons, PyData.depthAll, PyData.depth]
    omega
theorem eqv_ints : ∀ a b : List Int, PyData.eqvAll (a.map PyData.int) (b.map PyData.int) = decide (a = b)
  | [], [] => by simp [PyData.eqvAll]
  | [], _ :: _ => by simp [PyData.eqvAll]
  | _ :: _, [] => by simp [PyData.eqvAll]
  | x :: a, y :: b => by
    have := eqv_ints a b
    simp only [List.map_cons, PyData.eqvAll, PyData.eqv, this]
    by_cases h : x = y
    · subst h
      simp
    · simp [h]
theorem depth_tup (ns : List Int) : PyData.depth (.tuple (ns.map PyData.int)) ≤ 2 := by
  have := depth_ints ns
  simp only [PyData.depth]
  omega
section
variable {prog : Program} {w : World} {A : Around} {E : Value → Shared → Prop} {s : Shared}
/-- pairs of an int and a tuple of ints -/
def PrT (h : Heap) (v : Value) (l : List Int) : Prop := ∃ a x ns t u, v = .ref a ∧ IsTup h a #[.int x t, u] ∧ TupI h u ns ∧ l = x :: ns
theorem PrT.keeps {h h' : Heap} {v : Value} {l : List Int} (p : PrT h v l) (k : ∀ b o, h.get? b = some o → o.cls = .type "tuple" → h'.get? b = some o) : PrT h' v l := by
  obtain ⟨a, x, ns, t, u, e, ⟨o, ho, hc, hd⟩, hu, hl⟩ := p
  exact ⟨a, x, ns, t, u, e, ⟨o, k _ _ ho hc, hc, hd⟩, hu.keeps k, hl⟩
theorem prt_cmp {vs : List Value} {k : Value → List Int} (hu : A.units + 4 < cLine) (hp : ∀ v ∈ vs, PrT s.heap v (k v)) : Cmp prog w A s (tuples' true) (fun p => p.1 ∈ vs) (lt2 fun v u => HT.lexLt (k v) (k u)) := by
  intro p q hm hm'
  have h1 := hp _ hm
  have h2 := hp _ hm'
  show wpAny (model prog w) A (keyLt' (tuples' true) p.1 q.1) (fun r s' => s' = s ∧ r = HT.lexLt (k p.1) (k q.1)) (fun _ _ => False) s
  obtain ⟨a, x, ns, t, u, e, ⟨o, ho, hc, n, hd⟩, hu1, hk⟩ := h1
  obtain ⟨a', x', ns', t', u', e', ⟨o', ho', hc', n', hd'⟩, hu2, hk'⟩ := h2
  rw [e, e', ← e, ← e', hk, hk', e, e', HT.lexLt_cons]
  refine PySem.W.kat_lt ho hd ho' hd' ?_
  show PySem.W.KatLex prog w A true (decide (2 < 2)) _ [(.int x t, .int x' t'), (u, u')] 0 s
  refine PySem.W.kat_cons (SeqAt.EqAt.int_int x t x' t' prog w _ _ ?_)
  refine PySem.W.kat_go (fun e1 => ?_) (fun e1 => ?_)
  · have ex : x = x' := by simpa using e1
    rw [if_pos ex]
    refine PySem.W.kat_yes (PySem.W.kat_cons (SeqAt.eqBoolOverData prog w A _ s u u' _ _ _ _ _ hu1.reads hu2.reads (by simpa [PyData.canLay0] using lay_ints ns) (by simpa [PyData.canLay0] using lay_ints ns') (by have := depth_tup ns; omega) ?_))
    refine PySem.W.kat_go (fun e2 => ?_) (fun e2 => ?_)
    · have ey : ns = ns' := by
        simp only [PyData.eqv, eqv_ints] at e2
        exact of_decide_eq_true e2
      subst ey
      exact PySem.W.kat_yes (PySem.W.kat_nil ⟨rfl, (lex_refl ns).symm⟩)
    · obtain ⟨b, its, rfl, hb, hi⟩ := hu1
      obtain ⟨b', its', rfl, hb', hi'⟩ := hu2
      exact PySem.W.kat_no (PySem.W.kat_one _ _ (HT.lt_tupInts hb hb' hi hi' (by omega) ⟨rfl, rfl⟩))
  · have ex : ¬ x = x' := by simpa using e1
    rw [if_neg ex]
    exact PySem.W.kat_no (oneLt_int ⟨rfl, rfl⟩)
theorem prt_firsts {h : Heap} {k : Value → List Int} : ∀ {vs : List Value}, (∀ v ∈ vs, PrT h v (k v)) → ∃ fs : List Value, PySem.W.KatTups h vs fs ∧ fs.length = vs.length ∧ ∀ f ∈ fs, ∃ x t, f = Value.int x t
  | [], _ => ⟨[], PySem.W.KatTups.nil, rfl, fun _ hm => by simp at hm⟩
  | v :: vs, hp => by
    obtain ⟨fs, h1, h2, h3⟩ := prt_firsts (vs := vs) fun v' hm => hp v' (List.mem_cons_of_mem _ hm)
    obtain ⟨a, x, ns, t, u, e, ⟨o, ho, hc, n, hd⟩, hu1, hk⟩ := hp v (List.mem_cons_self ..)
    subst e
    refine ⟨.int x t :: fs, PySem.W.KatTups.cons ho hc hd rfl h1, by rw [List.length_cons, List.length_cons, h2], fun f hm => ?_⟩
    rcases List.mem_cons.mp hm with rfl | hm
    · exact ⟨x, t, rfl⟩
    · exact h3 f hm
theorem prt_sortable {a : Addr} {vs : List Value} {k : Value → List Int} (hu : A.units + 4 < cLine) (h0 : 0 < vs.length) (hp : ∀ v ∈ vs, PrT s.heap v (k v)) (ha : ∀ o, s.heap.get? a = some o → o.cls ≠ .type "tuple") : SortableO prog w A s a vs fun v u => HT.lexLt (k v) (k u) := by
  intro h' keep
  have hp' : ∀ v ∈ vs, PrT h' v (k v) := fun v hm => (hp v hm).keeps fun b o e c => keep b o (fun z => by subst z; exact ha o e c) e
  obtain ⟨fs, h1, h2, h3⟩ := prt_firsts hp'
  refine ⟨tuples' true, fun Q E hq => ?_, prt_cmp hu hp'⟩
  refine PySem.W.kat_kind (T := .type "int") h1 (by omega) (fun f hm => ?_) (by rfl) ?_
  · obtain ⟨x, t, rfl⟩ := h3 f hm
    exact PySem.W.Looks.now
  · have e : (Value.type "int" != Value.type "tuple") = true := by first | decide +kernel | rfl | decide
    rw [e]
    exact hq
theorem sorted_prt {l : Addr} {vs : List Value} {k : Value → List Int} {Q : Value → Shared → Prop} (hu : A.units + 6 < cLine) (hl : s.heap.IsList l vs.toArray) (hz : vs.length ≤ sizeLine) (hp : ∀ v ∈ vs, PrT s.heap v (k v))
    (h : ∀ (h' : Heap) (d : Addr) (out : List Value), Srtd (fun v u => HT.lexLt (k v) (k u)) out → Stb (fun v u => HT.lexLt (k v) (k u)) out vs → (∀ b o, s.heap.get? b = some o → h'.get? b = some o) → s.heap.objs.size ≤ d → (∃ n, h'.get? d = some (seqObj "list" out.toArray n)) → Q (.ref d) { s with heap := h' }) :
    wpAny (model prog w) A (call (.builtin "sorted") [.ref l]) Q E s := by
  refine sorted_ord (swo_lexL k) hl hz (fun h2 h₁ a ha kk => ?_) fun out hs hb => ?_
  · refine prt_sortable (s := { s with heap := h₁ }) (by rw [Around.in1_units, Around.in1_units]; omega) (by omega) (fun v hm => (hp v hm).keeps fun b o e _ => (kk b o e).2) fun o e => ?_
    have e' : some o = some (seqObj "list" vs.toArray 0) := e.symm.trans ha
    cases e'
    intro c
    exact absurd (Value.type.inj c) (by decide)
  · exact h _ _ out hs hb (fun b o e => sortedAll_old e) (Nat.le_succ _) (sortedAll_at s.heap vs out.toArray)
/-! tuples of ints, not empty -/
theorem kat_ints {fin : Bool} : ∀ {vs us : List Value} {ns ms : List Int} {i : Nat}, IntsAre vs ns → IntsAre us ms → fin = decide (ns.length < ms.length) → PySem.W.KatLex prog w A true fin (fun r s' => s' = s ∧ r = HT.lexLt ns ms) (vs.zip us) i s
  | _, _, _, _, _, .nil, .nil, hf => by
    subst hf
    exact PySem.W.kat_nil ⟨rfl, rfl⟩
  | _, _, _, _, _, .nil, .cons m t r, hf => by
    subst hf
    refine PySem.W.kat_nil ⟨rfl, ?_⟩
    rw [List.length_nil, List.length_cons]
    exact decide_eq_true (by omega)
  | _, _, _, _, _, .cons m t r, .nil, hf => by
    subst hf
    refine PySem.W.kat_nil ⟨rfl, ?_⟩
    rw [List.length_nil, List.length_cons]
    exact decide_eq_false (by omega)
  | _, _, _, _, i, .cons x t r, .cons y u q, hf => by
    rw [List.zip_cons_cons]
    refine PySem.W.kat_cons (SeqAt.EqAt.int_int x t y u prog w _ _ ?_)
    refine PySem.W.kat_go (fun e1 => ?_) (fun e1 => ?_)
    · have ex : x = y := by simpa using e1
      rw [HT.lexLt_cons, if_pos ex]
      exact PySem.W.kat_yes (kat_ints r q (by rw [hf, List.length_cons, List.length_cons]; exact decide_eq_decide.mpr (by omega)))
    · have ex : ¬ x = y := by simpa using e1
      rw [HT.lexLt_cons, if_neg ex]
      exact PySem.W.kat_no (TS.oneLt_ints _ ⟨rfl, rfl⟩)
theorem IntsAre.len {vs : List Value} {ns : List Int} (h : IntsAre vs ns) : vs.length = ns.length := by
  induction h with
  | nil => rfl
  | cons n t _ ih => rw [List.length_cons, List.length_cons, ih]
theorem tup_cmp {vs : List Value} {k : Value → List Int} (hp : ∀ v ∈ vs, TupI s.heap v (k v)) : Cmp prog w A s (tuples' true) (fun p => p.1 ∈ vs) (lt2 fun v u => HT.lexLt (k v) (k u)) := by
  intro p q hm hm'
  obtain ⟨a, its, e, ⟨o, ho, hc, n, hd⟩, hi⟩ := hp _ hm
  obtain ⟨a', its', e', ⟨o', ho', hc', n', hd'⟩, hi'⟩ := hp _ hm'
  show wpAny (model prog w) A (keyLt' (tuples' true) p.1 q.1) (fun r s' => s' = s ∧ r = HT.lexLt (k p.1) (k q.1)) (fun _ _ => False) s
  generalize k p.1 = l1 at hi ⊢
  generalize k q.1 = l2 at hi' ⊢
  rw [e, e']
  refine PySem.W.kat_lt ho hd ho' hd' (kat_ints hi hi' ?_)
  have h1 := IntsAre.len hi
  have h2 := IntsAre.len hi'
  rw [Array.length_toList] at h1 h2
  rw [h1, h2]
theorem tup_firsts {h : Heap} {k : Value → List Int} : ∀ {vs : List Value}, (∀ v ∈ vs, TupI h v (k v) ∧ k v ≠ []) → ∃ fs : List Value, PySem.W.KatTups h vs fs ∧ fs.length = vs.length ∧ ∀ f ∈ fs, ∃ x t, f = Value.int x t
  | [], _ => ⟨[], PySem.W.KatTups.nil, rfl, fun _ hm => by simp at hm⟩
  | v :: vs, hp => by
    obtain ⟨fs, h1, h2, h3⟩ := tup_firsts (vs := vs) fun v' hm => hp v' (List.mem_cons_of_mem _ hm)
    obtain ⟨⟨a, its, e, ⟨o, ho, hc, n, hd⟩, hi⟩, hne⟩ := hp v (List.mem_cons_self ..)
    subst e
    generalize k (.ref a) = l at hi hne
    cases q : its.toList with
    | nil =>
      rw [q] at hi
      cases hi
      exact absurd rfl hne
    | cons y r =>
      rw [q] at hi
      cases hi with
      | cons x t r' =>
        refine ⟨.int x t :: fs, PySem.W.KatTups.cons ho hc hd (by rw [← Array.getElem?_toList, q]; rfl) h1, by rw [List.length_cons, List.length_cons, h2], fun f hm => ?_⟩
        rcases List.mem_cons.mp hm with rfl | hm
        · exact ⟨x, t, rfl⟩
        · exact h3 f hm
theorem tup_sortable {a : Addr} {vs : List Value} {k : Value → List Int} (h0 : 0 < vs.length) (hp : ∀ v ∈ vs, TupI s.heap v (k v) ∧ k v ≠ []) (ha : ∀ o, s.heap.get? a = some o → o.cls ≠ .type "tuple") : SortableO prog w A s a vs fun v u => HT.lexLt (k v) (k u) := by
  intro h' keep
  have hp' : ∀ v ∈ vs, TupI h' v (k v) ∧ k v ≠ [] := fun v hm => ⟨(hp v hm).1.keeps fun b o e c => keep b o (fun z => by subst z; exact ha o e c) e, (hp v hm).2⟩
  obtain ⟨fs, h1, h2, h3⟩ := tup_firsts hp'
  refine ⟨tuples' true, fun Q E hq => ?_, tup_cmp fun v hm => (hp' v hm).1⟩
  refine PySem.W.kat_kind (T := .type "int") h1 (by omega) (fun f hm => ?_) (by rfl) ?_
  · obtain ⟨x, t, rfl⟩ := h3 f hm
    exact PySem.W.Looks.now
  · have e : (Value.type "int" != Value.type "tuple") = true := by first | decide +kernel | rfl | decide
    rw [e]
    exact hq
theorem sorted_tup {l : Addr} {vs : List Value} {k : Value → List Int} {Q : Value → Shared → Prop} (hl : s.heap.IsList l vs.toArray) (hz : vs.length ≤ sizeLine) (hp : ∀ v ∈ vs, TupI s.heap v (k v) ∧ k v ≠ [])
    (h : ∀ (h' : Heap) (d : Addr) (out : List Value), Srtd (fun v u => HT.lexLt (k v) (k u)) out → Stb (fun v u => HT.lexLt (k v) (k u)) out vs → (∀ b o, s.heap.get? b = some o → h'.get? b = some o) → s.heap.objs.size ≤ d → (∃ n, h'.get? d = some (seqObj "list" out.toArray n)) → Q (.ref d) { s with heap := h' }) :
    wpAny (model prog w) A (call (.builtin "sorted") [.ref l]) Q E s := by
  refine sorted_ord (swo_lexL k) hl hz (fun h2 h₁ a ha kk => ?_) fun out hs hb => ?_
  · refine tup_sortable (s := { s with heap := h₁ }) (by omega) (fun v hm => ⟨(hp v hm).1.keeps fun b o e _ => (kk b o e).2, (hp v hm).2⟩) fun o e => ?_
    have e' : some o = some (seqObj "list" vs.toArray 0) := e.symm.trans ha
    cases e'
    intro c
    exact absurd (Value.type.inj c) (by decide)
  · exact h _ _ out hs hb (fun b o e => sortedAll_old e) (Nat.le_succ _) (sortedAll_at s.heap vs out.toArray)
end
end SoX
namespace Kw
open PySem PySem.Spec PyProof.Rows L2 Evl SoX
theorem ints_are {xs : List Int} : ∀ {us : List Value}, Vals (xs.map V.int) us → IntsAre us xs := by
  induction xs with
  | nil => intro us h; cases h; exact .nil
  | cons x r ih =>
    intro us h
    cases h with
    | cons a b =>
      obtain ⟨t, rfl⟩ := a
      exact .cons x t (ih b)
section
variable {X : Cx} {pins : List (Addr × Obj)} {σ : L2.St} {H : Hp} {s : Shared}
theorem tupI_of (I : Inv X pins σ H s) {a : Addr} {ns : List Int} (h : SqT X.K H a (ns.map V.int)) : TupI s.heap (.ref a) ns := by
  obtain ⟨its, r, p, _⟩ := I.tuple h
  exact ⟨a, its.toArray, rfl, p, ints_are r⟩
abbrev ltL (k : V → List Int) (x y : V) : Bool := HT.lexLt (k x) (k y)
/-- a pair of an int and a tuple of ints; a tuple of ints that is not empty -/
def PrAt (K : PySem.W.Frag) (H : Hp) (x : V) (l : List Int) : Prop := ∃ t u n ns, x = V.ref t ∧ SqT K H t [.int n, .ref u] ∧ SqT K H u (ns.map V.int) ∧ l = n :: ns
def TpAt (K : PySem.W.Frag) (H : Hp) (x : V) (l : List Int) : Prop := ∃ t, x = V.ref t ∧ SqT K H t (l.map V.int) ∧ l ≠ []
/-- a not behind b -/
abbrev NotB (a b : List Int) : Prop := HT.lexLt b a = false
def rSortBy (K : PySem.W.Frag) (F : PySem.W.Frag → Hp → V → List Int → Prop) : List V → Hp → VK → Prop := fun vs H Q => ∃ (a : Addr) (xs : List V) (ks : List (List Int)), vs = [V.ref a] ∧ SqL K H a xs ∧ Paired (F K H) xs ks ∧
  ∀ ys ls p, Paired (F K H) ys ls → ls.Perm ks → ls.Pairwise NotB → H p = none → Q (.ref p) (upd H p (.lst ys))
/-- sorted(xs), xs a list of pairs of an int and a tuple of ints -/
abbrev rSortPT (K : PySem.W.Frag) := rSortBy K PrAt
/-- sorted(xs), xs a list of tuples of ints, none empty -/
abbrev rSortTT (K : PySem.W.Frag) := rSortBy K TpAt
theorem ltL_swo (k : V → List Int) : SrtO.Swo (ltL k) := swo_lexL k
theorem map_inj {α β : Type} {f : α → β} (hf : ∀ x y, f x = f y → x = y) : ∀ {a b : List α}, a.map f = b.map f → a = b
  | [], [], _ => rfl
  | [], _ :: _, h => by cases h
  | _ :: _, [], h => by cases h
  | x :: a, y :: b, h => by
    have e := List.cons.inj h
    rw [hf x y e.1, map_inj hf e.2]
theorem ints_inj {a b : List Int} (h : a.map V.int = b.map V.int) : a = b := map_inj (fun x y e => V.int.inj e) h
theorem PrAt.inj (I : Inv X pins σ H s) {x : V} {l m : List Int} (h1 : PrAt X.K H x l) (h2 : PrAt X.K H x m) : l = m := by
  obtain ⟨t, u, n, ns, rfl, a1, a2, rfl⟩ := h1
  obtain ⟨t', u', n', ns', e, b1, b2, rfl⟩ := h2
  cases e
  have e1 := I.tuple_inj a1 b1
  have e2 := List.cons.inj e1
  have e3 := V.int.inj e2.1
  have e4 := V.ref.inj (List.cons.inj e2.2).1
  subst e3
  subst e4
  rw [ints_inj (I.tuple_inj a2 b2)]
theorem TpAt.inj (I : Inv X pins σ H s) {x : V} {l m : List Int} (h1 : TpAt X.K H x l) (h2 : TpAt X.K H x m) : l = m := by
  obtain ⟨t, rfl, a1, _⟩ := h1
  obtain ⟨t', e, b1, _⟩ := h2
  cases e
  exact ints_inj (I.tuple_inj a1 b1)
open Classical in
noncomputable def keyBy (F : V → List Int → Prop) (x : V) : List Int := if h : ∃ l, F x l then h.choose else []
theorem keyBy_is {F : V → List Int → Prop} (inj : ∀ x l m, F x l → F x m → l = m) {x : V} {l : List Int} (h : F x l) : keyBy F x = l := by
  unfold keyBy
  have hx : ∃ l, F x l := ⟨l, h⟩
  rw [dif_pos hx]
  exact inj _ _ _ hx.choose_spec h
theorem keys_map {F : V → List Int → Prop} (inj : ∀ x l m, F x l → F x m → l = m) : ∀ {xs : List V} {ks : List (List Int)}, Paired F xs ks → ks = xs.map (keyBy F)
  | _, _, .nil => rfl
  | _, _, .cons r t => by rw [List.map_cons, keyBy_is inj r, ← keys_map inj t]
theorem paired_mem {α β : Type} {F : α → β → Prop} : ∀ {xs : List α} {ys : List β} {x : α}, Paired F xs ys → x ∈ xs → ∃ y, F x y
  | _, _, _, .nil, h => by cases h
  | _, _, _, .cons r t, h => by
    rcases List.mem_cons.mp h with rfl | h
    · exact ⟨_, r⟩
    · exact paired_mem t h
theorem paired_keys {F : V → List Int → Prop} (inj : ∀ x l m, F x l → F x m → l = m) : ∀ {ys : List V}, (∀ y ∈ ys, ∃ l, F y l) → Paired F ys (ys.map (keyBy F))
  | [], _ => .nil
  | y :: r, h => by
    obtain ⟨l, hl⟩ := h y (List.mem_cons_self ..)
    rw [List.map_cons, keyBy_is inj hl]
    exact .cons hl (paired_keys inj fun z hz => h z (List.mem_cons_of_mem _ hz))
theorem sort_end {F : V → List Int → Prop} (inj : ∀ x l m, F x l → F x m → l = m) {xs ys : List V} {ks : List (List Int)} (h : Paired F xs ks) (h1 : SrtO.Srtd (ltL (keyBy F)) ys) (h2 : SrtO.Stb (ltL (keyBy F)) ys xs) :
    Paired F ys (ys.map (keyBy F)) ∧ (ys.map (keyBy F)).Perm ks ∧ (ys.map (keyBy F)).Pairwise NotB := by
  refine ⟨paired_keys inj fun y hy => paired_mem h (h2.perm.mem_iff.mp hy), ?_, List.pairwise_map.mpr h1⟩
  rw [keys_map inj h]
  exact h2.perm.map _
theorem cr_sortPT (hu : X.A.units + 64 < cLine) : CallR X (.builtin "sorted") (rSortPT X.K) := by
  intro pins s σ H vs us Q I r h
  obtain ⟨a, xs, ks, rfl, hs, hx, q⟩ := h
  obtain ⟨its, rv, hl, hz⟩ := I.list hs
  obtain ⟨u, rfl, ru⟩ := vals1 r
  obtain rfl : u = Value.ref a := ru
  have inj : ∀ x l m, PrAt X.K H x l → PrAt X.K H x m → l = m := fun x l m h1 h2 => PrAt.inj I h1 h2
  obtain ⟨e1, e2⟩ := refs_back rv fun x m => by
    obtain ⟨l, t, _, _, _, e, _⟩ := paired_mem hx m
    exact ⟨t, e⟩
  refine sorted_prt (k := fun u => keyBy (PrAt X.K H) (backV u)) (by omega) hl.isList (by rw [← rv.length]; exact hz) (fun v hv => ?_) fun h' d out h1 h2 kp hd hn => ?_
  · obtain ⟨t, rfl⟩ := e2 v hv
    have hm : V.ref t ∈ xs := by rw [e1]; exact List.mem_map.mpr ⟨_, hv, rfl⟩
    obtain ⟨l, hl⟩ := paired_mem hx hm
    have hk : keyBy (PrAt X.K H) (backV (.ref t)) = l := keyBy_is inj hl
    obtain ⟨t', u, n, ns, e, ht, hu2, rfl⟩ := hl
    cases e
    obtain ⟨its2, r2, p2, _⟩ := I.tuple ht
    obtain ⟨u1, u2, rfl, ri, rj⟩ := vals2 r2
    obtain ⟨t1, rfl⟩ := ri
    obtain rfl : u2 = Value.ref u := rj
    exact ⟨t, n, ns, t1, .ref u, rfl, p2, tupI_of I hu2, hk⟩
  · have h3 : ∀ u ∈ out, ∃ a, u = Value.ref a := fun u hu => e2 u (h2.perm.mem_iff.mp hu)
    obtain ⟨n, hn⟩ := hn
    have hb : SrtO.Stb (ltL (keyBy (PrAt X.K H))) (out.map backV) xs := by
      rw [e1]
      exact SrtO.Stb.map (ltL_swo _) backV h2
    obtain ⟨g1, g2, g3⟩ := sort_end inj hx (SrtO.srtd_map h1) hb
    refine ⟨.ref d, upd H d (.lst (out.map backV)), I.laid (t' := s.toks) kp hd ⟨?_, out, n, vals_back h3, hn⟩, rfl, q _ _ d g1 g2 g3 (I.hok.fresh hd)⟩
    rw [hb.len]
    exact hz
theorem cr_sortTT : CallR X (.builtin "sorted") (rSortTT X.K) := by
  intro pins s σ H vs us Q I r h
  obtain ⟨a, xs, ks, rfl, hs, hx, q⟩ := h
  obtain ⟨its, rv, hl, hz⟩ := I.list hs
  obtain ⟨u, rfl, ru⟩ := vals1 r
  obtain rfl : u = Value.ref a := ru
  have inj : ∀ x l m, TpAt X.K H x l → TpAt X.K H x m → l = m := fun x l m h1 h2 => TpAt.inj I h1 h2
  obtain ⟨e1, e2⟩ := refs_back rv fun x m => by
    obtain ⟨l, t, e, _⟩ := paired_mem hx m
    exact ⟨t, e⟩
  refine sorted_tup (k := fun u => keyBy (TpAt X.K H) (backV u)) hl.isList (by rw [← rv.length]; exact hz) (fun v hv => ?_) fun h' d out h1 h2 kp hd hn => ?_
  · obtain ⟨t, rfl⟩ := e2 v hv
    have hm : V.ref t ∈ xs := by rw [e1]; exact List.mem_map.mpr ⟨_, hv, rfl⟩
    obtain ⟨l, hl⟩ := paired_mem hx hm
    have hk : keyBy (TpAt X.K H) (backV (.ref t)) = l := keyBy_is inj hl
    obtain ⟨t', e, ht, hne⟩ := hl
    cases e
    rw [hk]
    exact ⟨tupI_of I ht, hne⟩
  · have h3 : ∀ u ∈ out, ∃ a, u = Value.ref a := fun u hu => e2 u (h2.perm.mem_iff.mp hu)
    obtain ⟨n, hn⟩ := hn
    have hb : SrtO.Stb (ltL (keyBy (TpAt X.K H))) (out.map backV) xs := by
      rw [e1]
      exact SrtO.Stb.map (ltL_swo _) backV h2
    obtain ⟨g1, g2, g3⟩ := sort_end inj hx (SrtO.srtd_map h1) hb
    refine ⟨.ref d, upd H d (.lst (out.map backV)), I.laid (t' := s.toks) kp hd ⟨?_, out, n, vals_back h3, hn⟩, rfl, q _ _ d g1 g2 g3 (I.hok.fresh hd)⟩
    rw [hb.len]
    exact hz
end
end Kw
set_option Elab.async false
set_option linter.all false
set_option maxRecDepth 100000
set_option maxHeartbeats 4000000
namespace KwS
open PySem PySem.Spec PyProof.Rows L2
/-! ### sets of keys of any kind, by the list of what was put in -/
theorem prd_perm {α β : Type} {F : α → β → Prop} {es es' : List α} (p : es'.Perm es) : ∀ {js : List β}, Paired F es js → ∃ js' : List β, js'.Perm js ∧ Paired F es' js' := by
  induction p with
  | nil => exact fun h => ⟨_, List.Perm.refl _, h⟩
  | cons x _ ih =>
    intro js h
    cases h with
    | cons r t =>
      obtain ⟨j, h1, h2⟩ := ih t
      exact ⟨_ :: j, h1.cons _, .cons r h2⟩
  | swap x y l =>
    intro js h
    cases h with
    | cons r t =>
      cases t with
      | cons r2 t2 => exact ⟨_, List.Perm.swap _ _ _, .cons r2 (.cons r t2)⟩
  | trans _ _ ih1 ih2 =>
    intro js h
    obtain ⟨j1, a1, b1⟩ := ih2 h
    obtain ⟨j2, a2, b2⟩ := ih1 b1
    exact ⟨j2, a2.trans a1, b2⟩
theorem prd_mem {α β : Type} {F : α → β → Prop} {x : α} : ∀ {es : List α} {js : List β}, Paired F es js → x ∈ es → ∃ j ∈ js, F x j
  | _, _, .cons r t, h => by
    rcases List.mem_cons.mp h with rfl | h
    · exact ⟨_, List.mem_cons_self, r⟩
    · obtain ⟨j, h1, h2⟩ := prd_mem t h
      exact ⟨j, List.mem_cons_of_mem _ h1, h2⟩
theorem prd_mem2 {α β : Type} {F : α → β → Prop} {j : β} : ∀ {es : List α} {js : List β}, Paired F es js → j ∈ js → ∃ x ∈ es, F x j
  | _, _, .cons r t, h => by
    rcases List.mem_cons.mp h with rfl | h
    · exact ⟨_, List.mem_cons_self, r⟩
    · obtain ⟨x, h1, h2⟩ := prd_mem2 t h
      exact ⟨x, List.mem_cons_of_mem _ h1, h2⟩
section
variable {P : Program} {w : World} {κ : Type} [DecidableEq κ] (kd : PySem.KeyKind P w κ)
def Ent (e : Int × Value) (k : κ) : Prop := kd.is k e.2 = true ∧ e.1 = kd.hash k ∧ e.2.scannable = true
/-- the set at a: its keys are those of ks -/
def GS (h : Heap) (a : Addr) (ks : List κ) : Prop := ∃ (ob : Obj) (es : Array (Int × Value)) (ep : Nat) (tb : SetTable) (js : List κ), h.get? a = some ob ∧ ob.ExactSet ∧ ob.data = .set es ep tb ∧ Paired (Ent kd) es.toList js ∧ js.Nodup ∧ (∀ k, k ∈ js ↔ k ∈ ks) ∧
  es.size ≤ ks.length ∧ tb.fits es.size = true ∧ Ris tb.place.toList ∧ (w.params.followText "set-order" = true ∨ tb.led = true)
variable {kd}
theorem GS.at {h h' : Heap} {a : Addr} {ks : List κ} (g : GS kd h a ks) (k : ∀ o, h.get? a = some o → h'.get? a = some o) : GS kd h' a ks := by
  obtain ⟨ob, es, ep, tb, js, h1, r⟩ := g
  exact ⟨ob, es, ep, tb, js, k _ h1, r⟩
theorem elems {l : List (Int × Value)} {js : List κ} (p : Paired (Ent kd) l js) : ElemsOf kd l := fun e he => by
  obtain ⟨k, _, h1, h2, h3⟩ := prd_mem p he
  exact ⟨⟨k, h1, h2⟩, h3⟩
section
variable {A : Around} {E : Value → Shared → Prop} {s : Shared} {a : Addr} {ks : List κ}
theorem put_at {h : Heap} {ob : Obj} {es es2 : Array (Int × Value)} {ep : Nat} {tb tb2 : SetTable} (h1 : h.get? a = some ob) (h2 : ob.data = .set es ep tb) : (h.update a (Obj.putSet es2 tb2)).get? a = some { ob with data := .set es2 (ep + 1) tb2 } := by
  have z := putSet_of es2 tb2 h2
  have y := Heap.get?_update_self (Obj.putSet es2 tb2) h1 (by rw [z]; rfl)
  rwa [z] at y
theorem gs_tail {gw : Bool → Sem Unit} (hgw : ∀ (b : Bool) (s1 : Shared) (Q' : Unit → Shared → Prop), Q' () s1 → wpAny (model P w) A (gw b) Q' E s1) {ob : Obj} {es es1 : Array (Int × Value)} {ep : Nat} {tb t2 : SetTable} (h1 : s.heap.get? a = some ob) (hx : ob.ExactSet) (h2 : ob.data = .set es ep tb)
    {js : List κ} (hp : Paired (Ent kd) es1.toList js) (nd : js.Nodup) (hm : ∀ k, k ∈ js ↔ k ∈ ks) (hsz : es1.size ≤ ks.length) (hb : ks.length < scanBound) (hf : t2.fits es1.size = true) (hr : Ris t2.place.toList) (hl : w.params.followText "set-order" = true ∨ t2.led = true) {wd : Bool} {R : Option Bool → Shared → Prop}
    (hR : ∀ h', Heap.SameBut a s.heap h' → GS kd h' a ks → R (some true) { s with heap := h' }) :
    wpAny (model P w) A (do
        storeSet a es1 t2
        if (!wd && t2.tooFull) = true then do
            gw (relayAll t2 es1 (SetTable.grown es1.size)).2.2
            storeSet a (relayAll t2 es1 (SetTable.grown es1.size)).1 (relayAll t2 es1 (SetTable.grown es1.size)).2.1
            pure (some true)
          else pure (some true)) R E s := by
  refine wpAny_bind (wpAny_storeSet_of h1 h2 ?_ (fits_of_scanBound (Nat.lt_of_le_of_lt hsz hb)))
  have i1 := put_at (es2 := es1) (tb2 := t2) h1 h2
  have b1 := Heap.SameBut.update s.heap a (Obj.putSet es1 t2)
  split
  · have q1 := relayAll_perm t2 es1 (SetTable.grown es1.size)
    have q2 := relayAll_fits t2 es1 (SetTable.grown es1.size)
    have q3 := relayAll_ris t2 es1 (SetTable.grown es1.size)
    have q4 := relayAll_led t2 es1 (SetTable.grown es1.size)
    generalize relayAll t2 es1 (SetTable.grown es1.size) = Zs at q1 q2 q3 q4 ⊢
    obtain ⟨es3, t3, gv⟩ := Zs
    dsimp only at q1 q2 q3 q4 ⊢
    have e3 : es3.size = es1.size := by
      have := q1.length_eq
      simpa using this
    obtain ⟨js2, j1, j2⟩ := prd_perm q1 hp
    refine wpAny_bind (hgw _ _ _ (wpAny_bind (wpAny_storeSet_of i1 rfl ?_ (fits_of_scanBound (by rw [e3]; exact Nat.lt_of_le_of_lt hsz hb)))))
    have i2 := put_at (es2 := es3) (tb2 := t3) i1 rfl
    exact wpAny_pure (hR _ (b1.trans (Heap.SameBut.update _ a _)) ⟨_, es3, _, t3, js2, i2, hx, rfl, j2, j1.nodup_iff.mpr nd, fun k => j1.mem_iff.trans (hm k), by rw [e3]; exact hsz, q2, q3, hl.imp id fun z => by rw [q4]; exact z⟩)
  · exact wpAny_pure (hR _ b1 ⟨_, es1, _, t2, js, i1, hx, rfl, hp, nd, hm, hsz, hf, hr, hl⟩)
theorem gs_add {k : κ} {x : Value} (hk : kd.is k x = true) (hx : x.scannable = true) (g : GS kd s.heap a ks) (room : ks.length + 1 < scanBound) {Q : Bool → Shared → Prop}
    (hQ : ∀ b h', Heap.SameBut a s.heap h' → GS kd h' a (ks ++ [k]) → Q b { s with heap := h' }) : wpAny (model P w) A (setAddHashed a x (kd.hash k)) Q E s := by
  obtain ⟨ob, es, ep, tb, js, o1, o2, o3, hp, nd, hm, hsz, hf, hr, hl⟩ := g
  have hel := elems hp
  have hlen : es.size < scanBound := Nat.lt_of_le_of_lt hsz (Nat.lt_of_succ_lt room)
  unfold setAddHashed setAddHashedIn
  refine wpAny_holding (wpAny_bind (wpAny_setState_of o1 o3 hf ?_))
  dsimp only
  rw [byScan_of hx hlen hel]
  simp only [↓reduceIte]
  unfold setAddByScan
  refine wpAny_bind (wpAny_bind (wpAny_rule (wpAny_bind (wpAny_setScan_of hk o1 o3 hf hel ?_))))
  cases hfi : List.findIdx? (fun e => kd.is k e.2) es.toList with
  | some j =>
    dsimp only
    obtain ⟨hj, pj, _⟩ := List.findIdx?_eq_some_iff_getElem.mp hfi
    obtain ⟨k0, hk0, hi0, _⟩ := prd_mem hp (List.getElem_mem hj)
    have ek : k0 = k := kd.inj _ _ _ hi0 pj
    refine wpAny_pure (wpAny_pure (hQ false s.heap (Heap.SameBut.refl a s.heap) ⟨ob, es, ep, tb, js, o1, o2, o3, hp, nd, fun i => ?_, by rw [List.length_append]; omega, hf, hr, hl⟩))
    rw [hm i, List.mem_append, List.mem_singleton]
    exact ⟨Or.inl, fun z => z.elim id fun e => by rw [e, ← ek]; exact (hm k0).mp hk0⟩
  | none =>
    dsimp only
    have hnk : k ∉ js := fun z => by
      obtain ⟨e, he, q, _⟩ := prd_mem2 hp z
      have c := List.findIdx?_eq_none_iff.mp hfi e he
      rw [q] at c
      cases c
    have gw : ∀ (b : Bool) {s1 : Shared} {Q' : Unit → Shared → Prop}, Q' () s1 → wpAny (model P w) A (match b with | true => rule "set.scan.the-table-gave-way" | false => pure ()) Q' E s1 := fun b s1 Q' q => by
      cases b
      · exact wpAny_pure q
      · exact wpAny_rule q
    have q1 := layNew_perm tb es (kd.hash k) x
    have q2 := layNew_fits tb es (kd.hash k) x
    have q3 := layNew_ris tb es (kd.hash k) x hr
    have q4 := layNew_led tb es (kd.hash k) x
    generalize layNew tb es (kd.hash k) x = Zs at q1 q2 q3 q4 ⊢
    obtain ⟨es1, t1, wd, gv⟩ := Zs
    dsimp only at q1 q2 q3 q4 ⊢
    rw [Array.toList_push] at q1
    have q5 : es1.toList.Perm ((kd.hash k, x) :: es.toList) := q1.trans (List.perm_append_singleton _ _)
    obtain ⟨js1, j1, j2⟩ := prd_perm q5 (.cons ⟨hk, rfl, hx⟩ hp : Paired (Ent kd) ((kd.hash k, x) :: es.toList) (k :: js))
    have nd1 : js1.Nodup := j1.nodup_iff.mpr (List.nodup_cons.mpr ⟨hnk, nd⟩)
    have m1 : ∀ i, i ∈ js1 ↔ i ∈ ks ++ [k] := fun i => by
      rw [j1.mem_iff, List.mem_cons, hm i, List.mem_append, List.mem_singleton]
      exact Or.comm
    have sz1 : es1.size ≤ (ks ++ [k]).length := by
      have := q5.length_eq
      simp at this
      rw [List.length_append, List.length_singleton]
      omega
    have rm : (ks ++ [k]).length < scanBound := by
      rw [List.length_append, List.length_singleton]
      exact room
    have led1 : w.params.followText "set-order" = true ∨ t1.led = true := hl.imp id fun z => by rw [q4]; exact z
    refine wpAny_bind (gw _ ?_)
    split
    · refine wpAny_bind ?_
      rw [hashByValue_scannable 8 hx]
      refine wpAny_pure ?_
      refine gs_tail ?_ o1 o2 o3 j2 nd1 m1 sz1 rm ?_ ?_ ?_ ?_
      · intro b s1 Q' q
        exact gw b q
      · split
        · exact q2
        · exact SetTable.fits_plain_off q2
      · split <;> exact q3
      · split <;> exact led1
      · intro h' sb r
        exact wpAny_pure (hQ true h' sb r)
    · refine wpAny_bind (wpAny_pure ?_)
      simp only [↓reduceIte]
      refine gs_tail ?_ o1 o2 o3 j2 nd1 m1 sz1 rm q2 q3 led1 ?_
      · intro b s1 Q' q
        exact gw b q
      · intro h' sb r
        exact wpAny_pure (hQ true h' sb r)
end
end
end KwS
set_option Elab.async false
set_option linter.all false
set_option maxRecDepth 100000
set_option maxHeartbeats 4000000
namespace KwS
open PySem PySem.Spec PyProof.Rows L2
/-- a set just made -/
def fresh0 (w : World) : Obj := { cls := .type "set", dict := none, data := .set #[] 0 (.fresh 0 0 (!w.params.followText "set-order")) }
section
variable {P : Program} {w : World} {κ : Type} [DecidableEq κ] {kd : PySem.KeyKind P w κ} {A : Around} {E : Value → Shared → Prop} {s : Shared}
theorem gs_fresh {h : Heap} {a : Addr} (ho : h.get? a = some (fresh0 w)) : GS kd h a [] := by
  refine ⟨_, #[], 0, _, [], ho, ⟨rfl, rfl, rfl⟩, rfl, .nil, List.nodup_nil, fun _ => Iff.rfl, Nat.le_refl _, rfl, List.Pairwise.nil, ?_⟩
  show _ ∨ (!w.params.followText "set-order") = true
  cases w.params.followText "set-order" with
  | true => exact .inl rfl
  | false => exact .inr rfl
theorem gs_update {I : Addr} {fp wr : List Addr} {G : Array GenState → Array GenState → Prop} {n : Nat} {Pv : Nat → Value → Prop} {St : Nat → Shared → Prop} {R : Result → Shared → Prop} (W : WalksS P w A.in1 I fp wr G n Pv St) (S : Addr) (hS : S ∉ fp) (ks : List κ) (hn : n = ks.length)
    (hb : ks.length + 1 < scanBound) (hval : ∀ i v, Pv i v → ∃ k, ks[i]? = some k ∧ kd.is k v = true ∧ v.scannable = true) : ∀ (m i : Nat) (s : Shared), n - i = m → i ≤ n → St i s → GS kd s.heap S (ks.take i) →
      (∀ s', Moved (S :: wr) G s s' → GS kd s'.heap S ks → R (.ok (.ret .none)) s') → codeAny (model P w) A (.builtin "set.update.loop" ⟨[.ref S, .ref I], []⟩) R s := by
  have nw : S ∉ wr := fun z => hS (W.sub _ z)
  have up : ∀ b ∈ wr, b ∈ S :: wr := fun b z => List.mem_cons_of_mem _ z
  intro m
  induction m with
  | zero =>
    intro i s hm hi st g hR
    have e : i = n := Nat.le_antisymm hi (Nat.sub_eq_zero_iff_le.mp hm)
    subst e
    refine codeAny_builtin F.entry_set_update_loop ?_
    rw [Around.under_plainId F.plain_set_update_loop _]
    refine wpAny_bind (W.done s _ _ st fun s1 mv => wpAny_pure (hR s1 (mv.mono up) ?_))
    rw [List.take_of_length_le (by omega)] at g
    exact g.at fun o q => mv.heap S o nw q
  | succ m ih =>
    intro i s hm hi st g hR
    have lt : i < n := by omega
    refine codeAny_builtin F.entry_set_update_loop ?_
    rw [Around.under_plainId F.plain_set_update_loop _]
    refine wpAny_bind (W.item i s _ _ lt st fun v s1 hP st1 mv => ?_)
    obtain ⟨k, hk, his, hsc⟩ := hval i v hP
    have g1 : GS kd s1.heap S (ks.take i) := g.at fun o q => mv.heap S o nw q
    refine wpAny_bind (wpAny_holding ?_)
    unfold setAdd
    refine wpAny_holding (wpAny_bind (kd.pyHash his ?_))
    refine gs_add (s := { s1 with toks := s1.toks + 1 }) his hsc g1 (by rw [List.length_take]; omega) fun bb h2 sb g2 => ?_
    have g3 : GS kd h2 S (ks.take (i + 1)) := by
      rw [List.take_add_one, hk]
      exact g2
    refine wpAny_pure ⟨plainId_quiet F.plain_set_update_loop _, ih (i + 1) _ (by omega) lt (W.frame _ s1 _ _ st1 (Nat.le_succ _) fun b z o q => ?_) g3 fun s2 mv2 g4 => ?_⟩
    · have nb : b ≠ S := fun y => hS (y ▸ z)
      rw [sb.2 b nb]
      exact q
    · refine hR s2 (Moved.trans W.gtrans ((mv.mono up).then_heap (Nat.le_succ _) fun b o z q => ?_) mv2) g4
      have nb : b ≠ S := fun y => z (y ▸ List.mem_cons_self)
      rw [sb.2 b nb]
      exact q
theorem set_made (a : Value) {Q1 : Value → Shared → Prop} (h : Q1 (.ref s.heap.objs.size) { s with heap := s.heap.push (fresh0 w) }) : codeAny (model P w) A (.call (.builtin "set.__new__") ⟨[.type "set", a], []⟩) (wants Q1 E) s := code_set_led1 a h
set_option maxHeartbeats 8000000 in
/-- set(t), t a tuple -/
theorem call_setT {l : Addr} {its : Array Value} (ks : List κ) {Q : Value → Shared → Prop} (hh : A.handled = none) (hl : s.heap.IsTuple l its) (hz : its.size = ks.length) (hit : ∀ (i : Nat) (v : Value), its[i]? = some v → ∃ k, ks[i]? = some k ∧ kd.is k v = true ∧ v.scannable = true) (hb : ks.length + 1 < scanBound)
    (h : ∀ (h' : Heap) (tk : Nat), GS kd h' s.heap.objs.size ks → (∀ b o, s.heap.get? b = some o → h'.get? b = some o) → Q (.ref s.heap.objs.size) { s with heap := h', toks := tk }) : wpAny (model P w) A (call (.type "set") [.ref l]) Q E s := by
  obtain ⟨c0, tl0, m0⟩ := F.called_set.mro
  have m1 := F.called_set.made
  have m2 := F.called_set.sub
  have m3 := F.called_set.notType
  have m4 := F.called_set.canCreate
  have m5 := F.typeCall_set_1 (.ref l)
  refine wpAny_call (codeAny_of_tree ?_)
  refine wpAny_pure ⟨Code.quiet_builtin _ (by decide +kernel), codeAny_builtin F.entry_type_call ?_⟩
  rw [Around.under_plain (weight_type_call_type "set" [.ref l] []) rfl]
  repeat (any_goals (first | assumption | wp_step))
  refine codeAny_mono (set_made (.ref l) (E := E) (Q1 := fun v s1 => v = .ref s.heap.objs.size ∧ s1 = { s with heap := s.heap.push (fresh0 w) }) ⟨rfl, rfl⟩) fun r s1 hr => ?_
  cases r with
  | error e => exact hr
  | ok fl =>
    cases fl with
    | ret v =>
      obtain ⟨rfl, rfl⟩ := hr
      have hS : (s.heap.push (fresh0 w)).get? s.heap.objs.size = some (fresh0 w) := Heap.get?_push_size _ rfl
      have hT : Shared.TypeIs { s with heap := s.heap.push (fresh0 w) } (.ref s.heap.objs.size) "set" := ⟨_, hS, rfl⟩
      have n1 := F.called_set.init.lookup
      have n2 := F.called_set.init.bind (.ref s.heap.objs.size)
      repeat (any_goals (first | assumption | wp_step))
      refine codeAny_mono (codeAny_call_builtin (R := wants (fun r s2 => r = .none ∧ ∃ h' tk, s2 = { s with heap := h', toks := tk } ∧ GS kd h' s.heap.objs.size ks ∧ (∀ b o, s.heap.get? b = some o → h'.get? b = some o)) E) F.called_set.init.plain F.entry_set_init (check_set_init_1 hT ?_)) fun r2 s2 hr2 => ?_
      · obtain ⟨⟨oc, od, oo, os⟩, hol, hc, nl, hd⟩ := hl
        cases (show oc = .type "tuple" from hc)
        cases (show oo = .seq its nl from hd)
        have hol2 : (s.heap.push (fresh0 w)).get? l = some { cls := .type "tuple", dict := od, data := .seq its nl, slots := os } := Heap.get?_push_of_some _ hol
        have t1 := F.sub_tuple_set
        have t2 := F.sub_tuple_frozenset
        have t3 : (Value.type "tuple" == Value.type "dict") = false := by decide
        have hl1 : (s.heap.push (fresh0 w)).IsTuple l its := ⟨_, hol2, rfl, nl, rfl⟩
        unfold Builtin.«set.__init__» noKeywords Builtin.Frozenset.updateFrom
        generalize hPI : pyIter = PI
        wp_walk
        subst hPI
        refine wpAny_pyIter_tuple hl1 (wpAny_bind (wpAny_runValue ?_))
        have ls : l < s.heap.objs.size := Heap.lt_size hol
        have h3 : A.in1.in1.in1.handled = none := by simp [hh]
        have z1 : (s.heap.push (fresh0 w)).objs.size = s.heap.objs.size + 1 := Heap.size_push ..
        have nI : l ≠ (s.heap.push (fresh0 w)).objs.size := by
          rw [z1]
          exact Nat.ne_of_lt (Nat.lt_succ_of_lt ls)
        have nS : s.heap.objs.size ∉ [(s.heap.push (fresh0 w)).objs.size, l] := by
          rw [z1]
          intro z
          rcases List.mem_cons.mp z with z | z
          · exact Nat.succ_ne_self _ z.symm
          · exact Nat.ne_of_gt ls (List.mem_singleton.mp z)
        refine gs_update ((Walks.tuple h3 _ l nI its).toS) s.heap.objs.size nS ks hz hb hit (its.size - 0) 0 _ rfl (Nat.zero_le _) ⟨⟨_, Heap.get?_push_size _ rfl, rfl, rfl⟩, hl1.push _⟩ (gs_fresh (Heap.get?_push_of_some _ hS)) fun s3 mv g3 => ?_
        obtain ⟨h3', gg, dd, tk, oo⟩ := s3
        have e1 : gg = s.gens := mv.gens
        have e2 : dd = s.drawn := mv.drawn
        have e3 : oo = s.os := mv.os
        subst e1
        subst e2
        subst e3
        refine wpAny_pure ?_
        show wpAny _ _ (ret Value.none) _ _ _
        refine wpAny_pure ⟨rfl, h3', tk, rfl, g3, fun b o e => ?_⟩
        have hb0 : b < s.heap.objs.size := Heap.lt_size e
        refine mv.heap b o (fun z => ?_) (Heap.get?_push_of_some _ (Heap.get?_push_of_some _ e))
        rcases List.mem_cons.mp z with z | z
        · exact Nat.ne_of_lt hb0 z
        · have y := List.mem_singleton.mp z
          rw [z1] at y
          exact Nat.ne_of_lt (Nat.lt_succ_of_lt hb0) y
      · cases r2 with
        | error e => exact hr2
        | ok f2 =>
          cases f2 with
          | ret r =>
            obtain ⟨rfl, h', tk, rfl, g3, hk⟩ := hr2
            repeat (any_goals (first | assumption | wp_step))
            exact h _ _ g3 hk
          | _ => exact hr2.elim
    | _ => exact hr.elim
end
end KwS
set_option Elab.async false
set_option linter.all false
set_option maxRecDepth 100000
set_option maxHeartbeats 4000000
namespace KwS
open PySem PySem.Spec PyProof.Rows L2
/-- the set of the texts zs, at a -/
def TxS (P : Program) (w : World) (a : Addr) (zs : List Str) : HO := .ext fun h => GS (PySem.strKind P w) h a zs
section
variable {X : Cx}
theorem txs_new {P : Program} {w : World} {H : Hp} {h : Heap} {a : Addr} {zs : List Str} (g : GS (PySem.strKind P w) h a zs) : ObjOk P w H h a (TxS P w a zs) := by
  have ⟨o, _, _, _, _, ho, _⟩ := g
  exact ⟨g, ⟨o, ho⟩, fun h1 h2 p k => GS.at p k⟩
def rSetTx (K : PySem.W.Frag) (P : Program) (w : World) : List V → Hp → VK → Prop := fun xs H Q => ∃ (l : Addr) (zs : List Str), xs = [V.ref l] ∧ SqT K H l (zs.map V.str) ∧ zs.length ≤ 50 ∧ ∀ p, H p = none → Q (.ref p) (upd H p (TxS P w p zs))
theorem vals_get {xs : List V} {us : List Value} {i : Nat} {v : Value} (r : Vals xs us) (h : us[i]? = some v) : ∃ x, xs[i]? = some x ∧ RelV x v := by
  have hi := (List.getElem?_eq_some_iff.mp h).1
  have hj : i < xs.length := by
    rw [r.length]
    exact hi
  obtain ⟨u, h1, h2⟩ := r.get (List.getElem?_eq_getElem hj)
  rw [h] at h1
  cases h1
  exact ⟨_, List.getElem?_eq_getElem hj, h2⟩
theorem cr_setTx (hc : X.calm = true) : CallR X (.type "set") (rSetTx X.K X.prog X.w) := by
  intro pins s σ H xs us Q I r h
  obtain ⟨l, zs, rfl, hl, hn, q⟩ := h
  rw [Vals.ref1 r]
  obtain ⟨its, rv, pt, _⟩ := I.tuple hl
  have hlen : its.length = zs.length := by
    rw [← rv.length, List.length_map]
  refine call_setT (kd := PySem.strKind X.prog X.w) zs (I.ok.hd hc) pt (by simpa using hlen) (fun i v hv => ?_) (Nat.lt_of_le_of_lt (Nat.succ_le_succ hn) (by decide)) fun h' tk g hk => ?_
  · have hv' : its[i]? = some v := by simpa using hv
    obtain ⟨x, hx, rx⟩ := vals_get rv hv'
    rw [List.getElem?_map] at hx
    cases ez : zs[i]? with
    | none =>
      rw [ez] at hx
      cases hx
    | some z =>
      rw [ez] at hx
      cases hx
      obtain ⟨t, rfl⟩ := rx
      exact ⟨z, rfl, keyIs_str z t, rfl⟩
  · exact ⟨.ref _, upd H s.heap.objs.size (TxS X.prog X.w s.heap.objs.size zs), I.laid (t' := tk) hk (Nat.le_refl _) (txs_new g), rfl, q _ (I.hok.fresh (Nat.le_refl _))⟩
theorem strs_of : ∀ {vs : List Value} {zs : List Str}, Paired (fun v z => Value.isStrOf z v = true) vs zs → StrsAre vs zs
  | _, _, .nil => .nil
  | _, _, .cons h t => by
    obtain ⟨tk, rfl⟩ := Value.isStrOf_shape h
    exact .cons _ tk (strs_of t)
theorem prd_map {α β γ : Type} {F : β → γ → Prop} {f : α → β} : ∀ {es : List α} {js : List γ}, Paired (fun e j => F (f e) j) es js → Paired F (es.map f) js
  | _, _, .nil => .nil
  | _, _, .cons r t => .cons r (prd_map t)
def rSortTx (P : Program) (w : World) : List V → Hp → VK → Prop := fun vs H Q => ∃ (a : Addr) (zs : List Str), vs = [V.ref a] ∧ H a = some (TxS P w a zs) ∧ zs.length ≤ 50 ∧
  ∀ (ys : List Str) (p : Addr), ys.Nodup → (∀ z, z ∈ ys ↔ z ∈ zs) → sortedS ys = true → H p = none → Q (.ref p) (upd H p (.lst (ys.map V.str)))
theorem cr_sortTx (hc : X.calm = true) : CallR X (.builtin "sorted") (rSortTx X.prog X.w) := by
  intro pins s σ H vs us Q I r h
  obtain ⟨a, zs, rfl, ha, hn, q⟩ := h
  rw [Vals.ref1 r]
  obtain ⟨ob, es, ep, tb, js, o1, o2, o3, hp, nd, hm, hsz, hf, hr, hl⟩ := (I.hok a _ ha).1
  have h50 : es.size ≤ 50 := Nat.le_trans hsz hn
  refine Calls.call_function_entry kind_sorted plain_sorted entry_sorted (args_sorted1 _) ?_
  unfold Builtin.«sorted»
  refine wpAny_bind (m := checkCount "sorted" 1 1 _) (wpAny_pure (wpAny_bind (collect_set (A := X.A.in1) (I.ok.hd hc) ⟨ob, o1, o2.1, o3⟩ hf (Nat.lt_of_le_of_lt h50 (by decide)) hr hl fun s1 out k1 hz g1 os1 pm => ?_)))
  obtain ⟨js1, j1, j2⟩ := prd_perm pm (prd_map (f := Prod.snd) (F := fun v z => Value.isStrOf z v = true) (Paired.mapP hp fun e z x => x.1))
  have hS := strs_of j2
  have hol : out.length ≤ 50 := by
    rw [pm.length_eq, List.length_map, Array.length_toList]
    exact h50
  refine wpAny_bind (wpAny_newList ?_ (Nat.le_trans hol (by decide)))
  have hoL : (s1.heap.push (seqObj "list" out.toArray 0)).get? s1.heap.objs.size = some (seqObj "list" out.toArray 0) := Heap.get?_push_size _ rfl
  refine wpAny_bind (wpAny_holding (wpAny_call_entry slot_list_sort ⟨_, hoL, rfl⟩ entry_list_sort (list_sort_treeK PyProof.Rows.strKind_oneLt hoL hS.keysOf (fun v1 v2 rest e => keyKind_strs (by rw [← e]; exact hS)) (by omega) fun st hp2 hs2 => ⟨_, rfl, ?_⟩) (args_list_sort _)))
  obtain ⟨ys, y1, y2, y3⟩ := sorted_out_str hS hp2 hs2
  obtain ⟨e9, he9⟩ := sortedHeap_at (vs := out) (out := (arrOf st).map (·.2)) hoL
  have hlen : (ys.map V.str).length ≤ sizeLine := by
    rw [List.length_map, y2.length_eq, ← Paired.length j2]
    exact Nat.le_trans hol (by decide)
  have kp : ∀ b o, s.heap.get? b = some o → (sortedHeap (s1.heap.push (seqObj "list" out.toArray 0)) s1.heap.objs.size out ((arrOf st).map (·.2))).get? b = some o := fun b o e => by
    have z := k1 b o e
    have lt := Heap.lt_size z
    rw [sortedHeap_old (Nat.ne_of_lt lt) (by rw [size_push']; exact Nat.lt_succ_of_lt lt)]
    exact Heap.get?_push_of_some _ z
  have hno : H s1.heap.objs.size = none := I.hok.fresh hz
  have hob : ObjOk X.prog X.w (upd H s1.heap.objs.size (.lst (ys.map V.str))) (sortedHeap (s1.heap.push (seqObj "list" out.toArray 0)) s1.heap.objs.size out ((arrOf st).map (·.2))) s1.heap.objs.size (.lst (ys.map V.str)) := ⟨hlen, ((arrOf st).map (·.2)).toList, e9, vals_of_strs y1, by rw [Array.toArray_toList]; exact he9⟩
  generalize hG : sortedHeap (s1.heap.push (seqObj "list" out.toArray 0)) s1.heap.objs.size out ((arrOf st).map (·.2)) = G at kp hob
  have J : Inv X pins σ (upd H s1.heap.objs.size (.lst (ys.map V.str))) { s with heap := G, gens := s1.gens, drawn := s1.drawn, toks := s1.toks } := I.call (ch := []) (Un.laid kp hz hno) (I.hok.laid kp hz hob) (by rw [g1]; exact I.bare) (fun _ z => nomatch z)
  have e1 : ({ s1 with heap := G } : Shared) = { s with heap := G, gens := s1.gens, drawn := s1.drawn, toks := s1.toks } := by
    obtain ⟨a1, a2, a3, a4, a5⟩ := s1
    obtain ⟨b1, b2, b3, b4, b5⟩ := s
    cases (show a5 = b5 from os1)
    rfl
  refine wpAny_pure ⟨_, rfl, ?_⟩
  show EP X pins σ Q _ ({ s1 with heap := G } : Shared)
  rw [e1]
  exact ⟨.ref s1.heap.objs.size, _, J, rfl, q ys _ (y2.nodup_iff.mpr (j1.nodup_iff.mpr nd)) (fun z => (y2.mem_iff.trans j1.mem_iff).trans (hm z)) y3 hno⟩
end
end KwS
set_option Elab.async false
set_option linter.all false
set_option maxRecDepth 100000
set_option maxHeartbeats 4000000
namespace Kw
/-! ### layings: the mathematics -/
theorem len_le_of_sub {α : Type} [DecidableEq α] : ∀ {l m : List α}, l.Nodup → (∀ x ∈ l, x ∈ m) → l.length ≤ m.length
  | [], _, _, _ => Nat.zero_le _
  | a :: r, m, nd, h => by
    have ha := h a (List.mem_cons_self ..)
    have nd' := List.nodup_cons.mp nd
    have h1 : ∀ x ∈ r, x ∈ m.erase a := fun x hx => (List.mem_erase_of_ne (by rintro rfl; exact nd'.1 hx)).mpr (h x (List.mem_cons_of_mem _ hx))
    have h2 := len_le_of_sub nd'.2 h1
    rw [List.length_erase_of_mem ha] at h2
    have := List.length_pos_of_mem ha
    rw [List.length_cons]
    omega
theorem mem_of_full {α : Type} [DecidableEq α] {l m : List α} (nd : l.Nodup) (h : ∀ x ∈ l, x ∈ m) (hl : m.length ≤ l.length) : ∀ x ∈ m, x ∈ l := fun x hx => by
  by_cases z : x ∈ l
  · exact z
  · exfalso
    have := len_le_of_sub (l := x :: l) (m := m) (List.nodup_cons.mpr ⟨z, nd⟩) fun y hy => by
      rcases List.mem_cons.mp hy with rfl | hy
      · exact hx
      · exact h y hy
    rw [List.length_cons] at this
    omega
theorem perm_of_full {α : Type} [DecidableEq α] {l m : List α} (nd : l.Nodup) (nm : m.Nodup) (h : ∀ x ∈ l, x ∈ m) (hl : m.length ≤ l.length) : l.Perm m :=
  (List.perm_ext_iff_of_nodup nd nm).mpr fun a => ⟨h a, mem_of_full nd h hl a⟩
theorem nodup_of_count {α : Type} [DecidableEq α] : ∀ {m l : List α}, m.Nodup → (∀ x ∈ m, x ∈ l) → l.length ≤ m.length → l.Nodup
  | [], l, _, _, hl => by
    have : l = [] := List.eq_nil_of_length_eq_zero (by simpa using hl)
    subst this
    exact List.nodup_nil
  | a :: r, l, nd, h, hl => by
    have nd' := List.nodup_cons.mp nd
    have ha := h a (List.mem_cons_self ..)
    have h1 : ∀ x ∈ r, x ∈ l.erase a := fun x hx => (List.mem_erase_of_ne (by rintro rfl; exact nd'.1 hx)).mpr (h x (List.mem_cons_of_mem _ hx))
    have h2 : (l.erase a).length ≤ r.length := by
      rw [List.length_erase_of_mem ha]
      rw [List.length_cons] at hl
      omega
    refine (List.perm_cons_erase ha).nodup_iff.mpr (List.nodup_cons.mpr ⟨fun z => ?_, nodup_of_count nd'.2 h1 h2⟩)
    have := len_le_of_sub (m := l.erase a) nd fun x hx => by
      rcases List.mem_cons.mp hx with rfl | hx
      · exact z
      · exact h1 x hx
    rw [List.length_cons] at this
    omega
abbrev IsLay (lay : List Nat) : Prop := lay.Perm (List.range lay.length)
def nx (lay : List Nat) (i : Nat) : Nat := lay.getD i 0
def it (lay : List Nat) : Nat → Nat → Nat
  | 0, i => i
  | k + 1, i => nx lay (it lay k i)
section
variable {lay : List Nat} {i j k m n : Nat}
theorem nx_get (h : i < lay.length) : lay[i]? = some (nx lay i) := by
  unfold nx
  rw [List.getD_eq_getElem?_getD, List.getElem?_eq_getElem h]
  rfl
theorem IsLay.nodup (h : IsLay lay) : lay.Nodup := h.nodup_iff.mpr List.nodup_range
theorem IsLay.lt (h : IsLay lay) (hi : i < lay.length) : nx lay i < lay.length := List.mem_range.mp (h.mem_iff.mp (List.mem_of_getElem? (nx_get hi)))
theorem IsLay.inj (h : IsLay lay) (hi : i < lay.length) (hj : j < lay.length) (e : nx lay i = nx lay j) : i = j := by
  have h1 := nx_get hi
  rw [e] at h1
  exact (List.getElem?_inj hi h.nodup).mp (h1.trans (nx_get hj).symm)
theorem IsLay.it_lt (h : IsLay lay) (hi : i < lay.length) : ∀ k, it lay k i < lay.length
  | 0 => hi
  | k + 1 => h.lt (h.it_lt hi k)
theorem it_add (lay : List Nat) (k m i : Nat) : it lay (k + m) i = it lay k (it lay m i) := by
  induction k with
  | zero => rw [Nat.zero_add]; rfl
  | succ k ih => rw [Nat.succ_add]; show nx lay _ = nx lay _; rw [ih]
theorem IsLay.it_inj (h : IsLay lay) (hi : i < lay.length) (hj : j < lay.length) : ∀ k, it lay k i = it lay k j → i = j
  | 0, e => e
  | k + 1, e => h.it_inj hi hj k (h.inj (h.it_lt hi k) (h.it_lt hj k) e)
/-- it comes back -/
theorem nodup_map_range {f : Nat → Nat} : ∀ {n : Nat}, (∀ a b, a < b → b < n → f a ≠ f b) → ((List.range n).map f).Nodup := fun {n} h => by
  rw [List.nodup_iff_pairwise_ne, List.pairwise_map]
  refine List.Pairwise.imp_of_mem ?_ (List.pairwise_lt_range (n := n))
  intro a b _ hb hab
  exact h a b hab (List.mem_range.mp hb)
theorem IsLay.back (h : IsLay lay) (hi : i < lay.length) : ∃ k, k < lay.length ∧ it lay (k + 1) i = i := by
  by_cases z : ∃ k, k < lay.length ∧ it lay (k + 1) i = i
  · exact z
  · exfalso
    have nd : ((List.range (lay.length + 1)).map fun k => it lay k i).Nodup := nodup_map_range fun a b hab hb e => by
      obtain ⟨c, rfl⟩ := Nat.exists_eq_add_of_lt hab
      have e2 : it lay a (it lay (c + 1) i) = it lay a i := by
        rw [← it_add, ← Nat.add_assoc]
        exact e.symm
      exact z ⟨c, by omega, h.it_inj (h.it_lt hi _) hi a e2⟩
    have := len_le_of_sub (m := List.range lay.length) nd fun x hx => by
      obtain ⟨k, _, rfl⟩ := List.mem_map.mp hx
      exact List.mem_range.mpr (h.it_lt hi k)
    rw [List.length_map, List.length_range, List.length_range] at this
    omega
def per (lay : List Nat) (i : Nat) : Nat := ((List.range lay.length).find? fun k => decide (it lay (k + 1) i = i)).getD 0 + 1
theorem find_range {p : Nat → Bool} : ∀ {n : Nat}, (∃ k, k < n ∧ p k = true) → ∃ k, (List.range n).find? p = some k ∧ k < n ∧ p k = true ∧ ∀ j, j < k → p j = false := fun {n} => by
  induction n with
  | zero => rintro ⟨k, h, _⟩; exact absurd h (Nat.not_lt_zero _)
  | succ n ih =>
    rintro ⟨k, h1, h2⟩
    rw [List.range_succ, List.find?_append]
    by_cases z : ∃ k, k < n ∧ p k = true
    · obtain ⟨k, a, b, c, d⟩ := ih z
      exact ⟨k, by rw [a]; rfl, by omega, c, d⟩
    · have hn : (List.range n).find? p = none := List.find?_eq_none.mpr fun x hx hp => z ⟨x, List.mem_range.mp hx, hp⟩
      have hk : k = n := by
        by_cases y : k < n
        · exact absurd ⟨k, y, h2⟩ z
        · omega
      subst hk
      refine ⟨k, by rw [hn]; simp [h2], by omega, h2, fun j hj => ?_⟩
      cases hp : p j with
      | false => rfl
      | true => exact absurd ⟨j, hj, hp⟩ z
theorem IsLay.per (h : IsLay lay) (hi : i < lay.length) : 1 ≤ per lay i ∧ per lay i ≤ lay.length ∧ it lay (per lay i) i = i ∧ ∀ q, 1 ≤ q → q < per lay i → it lay q i ≠ i := by
  obtain ⟨k, h1, h2, h3, h4⟩ := find_range (p := fun k => decide (it lay (k + 1) i = i)) (n := lay.length) (by
    obtain ⟨k, a, b⟩ := h.back hi
    exact ⟨k, a, decide_eq_true b⟩)
  have e : Kw.per lay i = k + 1 := by
    unfold Kw.per
    rw [h1]
    rfl
  rw [e]
  refine ⟨by omega, by omega, of_decide_eq_true h3, fun q q1 q2 => ?_⟩
  have := of_decide_eq_false (h4 (q - 1) (by omega))
  rwa [show q - 1 + 1 = q by omega] at this
def orb (lay : List Nat) (i : Nat) : List Nat := (List.range (per lay i)).map fun k => it lay k i
theorem IsLay.it_ne (h : IsLay lay) (hi : i < lay.length) {a b : Nat} (hab : a < b) (hb : b < Kw.per lay i) : it lay a i ≠ it lay b i := fun e => by
  obtain ⟨c, rfl⟩ := Nat.exists_eq_add_of_lt hab
  have e2 : it lay a (it lay (c + 1) i) = it lay a i := by
    rw [← it_add, ← Nat.add_assoc]
    exact e.symm
  exact (h.per hi).2.2.2 (c + 1) (by omega) (by omega) (h.it_inj (h.it_lt hi _) hi a e2)
theorem IsLay.orb_nodup (h : IsLay lay) (hi : i < lay.length) : (orb lay i).Nodup := nodup_map_range fun _ _ hab hb => h.it_ne hi hab hb
theorem IsLay.it_mod (h : IsLay lay) (hi : i < lay.length) : ∀ k, it lay (k + Kw.per lay i) i = it lay k i := fun k => by rw [it_add, (h.per hi).2.2.1]
theorem IsLay.it_mul (h : IsLay lay) (hi : i < lay.length) : ∀ m k, it lay (k + m * Kw.per lay i) i = it lay k i
  | 0, k => by rw [Nat.zero_mul, Nat.add_zero]
  | m + 1, k => by rw [Nat.succ_mul, ← Nat.add_assoc, h.it_mod hi, h.it_mul hi m]
theorem IsLay.mem_orb (h : IsLay lay) (hi : i < lay.length) {y : Nat} : y ∈ orb lay i ↔ ∃ k, y = it lay k i := by
  constructor
  · intro hy
    obtain ⟨k, _, rfl⟩ := List.mem_map.mp hy
    exact ⟨k, rfl⟩
  · rintro ⟨k, rfl⟩
    have p1 := (h.per hi).1
    refine List.mem_map.mpr ⟨k % Kw.per lay i, List.mem_range.mpr (Nat.mod_lt _ (by omega)), ?_⟩
    show it lay (k % Kw.per lay i) i = it lay k i
    conv => rhs; rw [← Nat.mod_add_div k (Kw.per lay i), Nat.mul_comm, h.it_mul hi]
theorem IsLay.orb_self (h : IsLay lay) (hi : i < lay.length) : i ∈ orb lay i := (h.mem_orb hi).mpr ⟨0, rfl⟩
theorem IsLay.orb_lt (h : IsLay lay) (hi : i < lay.length) {y : Nat} (hy : y ∈ orb lay i) : y < lay.length := by
  obtain ⟨k, rfl⟩ := (h.mem_orb hi).mp hy
  exact h.it_lt hi k
/-- from any of it one comes back -/
theorem IsLay.orb_back (h : IsLay lay) (hi : i < lay.length) (k : Nat) : ∃ t, it lay t (it lay k i) = i := by
  have p1 := (h.per hi).1
  refine ⟨k * Kw.per lay i - k, ?_⟩
  rw [← it_add]
  have : k ≤ k * Kw.per lay i := Nat.le_mul_of_pos_right k (by omega)
  rw [show k * Kw.per lay i - k + k = 0 + k * Kw.per lay i by omega, h.it_mul hi]
  rfl
theorem IsLay.orb_symm (h : IsLay lay) (hi : i < lay.length) (hj : j < lay.length) (hm : j ∈ orb lay i) : i ∈ orb lay j := by
  obtain ⟨k, rfl⟩ := (h.mem_orb hi).mp hm
  obtain ⟨t, ht⟩ := h.orb_back hi k
  exact (h.mem_orb hj).mpr ⟨t, ht.symm⟩
theorem IsLay.orb_trans (h : IsLay lay) (hi : i < lay.length) (hj : j < lay.length) (hm : j ∈ orb lay i) {y : Nat} (hy : y ∈ orb lay j) : y ∈ orb lay i := by
  obtain ⟨k, rfl⟩ := (h.mem_orb hi).mp hm
  obtain ⟨t, rfl⟩ := (h.mem_orb hj).mp hy
  exact (h.mem_orb hi).mpr ⟨t + k, (it_add ..).symm⟩
/-- the least of its round -/
def inB (lay : List Nat) (n y : Nat) : Bool := (List.range n).any fun j => decide (y ∈ orb lay j)
def cycs (lay : List Nat) (n : Nat) : List (List Nat) := ((List.range n).filter fun i => !inB lay i i).map (orb lay)
def cycles (lay : List Nat) : List (List Nat) := cycs lay lay.length
theorem inB_succ (lay : List Nat) (n y : Nat) : inB lay (n + 1) y = (inB lay n y || decide (y ∈ orb lay n)) := by
  unfold inB
  rw [List.range_succ, List.any_append]
  simp
theorem inB_iff {lay : List Nat} {n y : Nat} : inB lay n y = true ↔ ∃ j, j < n ∧ y ∈ orb lay j := by
  unfold inB
  rw [List.any_eq_true]
  exact ⟨fun ⟨j, h1, h2⟩ => ⟨j, List.mem_range.mp h1, of_decide_eq_true h2⟩, fun ⟨j, h1, h2⟩ => ⟨j, List.mem_range.mpr h1, decide_eq_true h2⟩⟩
theorem cycs_succ (lay : List Nat) (n : Nat) : cycs lay (n + 1) = if inB lay n n then cycs lay n else cycs lay n ++ [orb lay n] := by
  unfold cycs
  rw [List.range_succ, List.filter_append, List.map_append]
  cases h : inB lay n n <;> simp [h]
/-- a box that was come to brings nothing new -/
theorem IsLay.old (h : IsLay lay) (hn : n < lay.length) (hb : inB lay n n = true) (y : Nat) : inB lay (n + 1) y = inB lay n y := by
  rw [inB_succ]
  cases hy : inB lay n y with
  | true => rfl
  | false =>
    rw [Bool.false_or]
    refine decide_eq_false fun z => ?_
    obtain ⟨j, h1, h2⟩ := inB_iff.mp hb
    have : inB lay n y = true := inB_iff.mpr ⟨j, h1, h.orb_trans (by omega) hn h2 z⟩
    rw [hy] at this
    cases this
/-- a new one's round is new whole -/
theorem IsLay.new (h : IsLay lay) (hn : n < lay.length) (hb : inB lay n n = false) (k : Nat) : inB lay n (it lay k n) = false := by
  cases hy : inB lay n (it lay k n) with
  | false => rfl
  | true =>
    obtain ⟨j, h1, h2⟩ := inB_iff.mp hy
    obtain ⟨t, ht⟩ := h.orb_back hn k
    have hj : j < lay.length := by omega
    have : n ∈ orb lay j := h.orb_trans hj (h.it_lt hn k) h2 ((h.mem_orb (h.it_lt hn k)).mpr ⟨t, ht.symm⟩)
    have : inB lay n n = true := inB_iff.mpr ⟨j, h1, this⟩
    rw [hb] at this
    cases this
end
end Kw
set_option Elab.async false
set_option linter.all false
set_option maxRecDepth 100000
set_option maxHeartbeats 4000000
namespace KwZ
open PySem PySem.Spec PyProof.Rows L2 KwS
/-! ### sorted(t), t a tuple of ints -/
def grown (h : Heap) (us : List Value) : Heap := (h.push (seqObj "list" #[] 0)).update h.objs.size (Obj.mapSeq (· ++ us.toArray))
section
variable {prog : Program} {w : World} {A : Around} {E : Value → Shared → Prop} {s : Shared}
theorem coll_tup {t : Addr} {us : List Value} {Q : List Value → Shared → Prop} (ht : s.heap.IsTuple t us.toArray) (hn : us.length ≤ sizeLine) (q : Q us { s with heap := grown s.heap us }) : wpAny (model prog w) A (collect (.ref t)) Q E s := by
  obtain ⟨ob, g1, g2, ep, g3⟩ := ht
  have f1 : (s.heap.push (seqObj "list" #[] 0)).get? t = some ob := Heap.get?_push_of_some _ g1
  have f2 : (s.heap.push (seqObj "list" #[] 0)).get? s.heap.objs.size = some (seqObj "list" #[] 0) := Heap.get?_push_size _ rfl
  have k1 : (Value.type "tuple" == Value.type "tuple") = true := by rfl
  unfold collect
  refine wpAny_bind (wpAny_runValue (codeAny_builtin entry_proto_collect' ?_))
  show wpAny _ _ (do
    let l ← newList []
    again (.builtin "list.__iadd__" ⟨[l, .ref t], []⟩)) _ _ s
  refine wpAny_bind (wpAny_newList (wpAny_pure ⟨Code.quiet_builtin _ (by decide +kernel), codeAny_builtin entry_list_iadd' ?_⟩))
  show wpAny _ _ (Builtin.List.listExtendWith (.ref s.heap.objs.size) (.ref t) (.ref s.heap.objs.size)) _ _ { s with heap := s.heap.push (seqObj "list" #[] 0) }
  unfold Builtin.List.listExtendWith
  refine wpAny_bind (wpAny_typeOf (T := "tuple") ⟨ob, f1, g2⟩ ?_)
  rw [if_pos (by rw [k1, Bool.or_true])]
  refine wpAny_bind (listItems_at f1 g3 (wpAny_bind (listItems_at (xs := #[]) (n := 0) f2 rfl ?_)))
  rw [if_neg (by simp)]
  refine wpAny_bind (listUpdate_at (xs := #[]) (n := 0) f2 rfl (wpAny_pure ?_) (Nat.zero_le _) (by
    show (#[] ++ us.toArray).size ≤ sizeLine + 1
    rw [Array.size_append, List.size_toArray]
    show 0 + us.length ≤ sizeLine + 1
    omega))
  have e0 : ((#[] : Array Value) ++ us.toArray).toList = us := by simp
  show wpAny (model prog w) A (do
    let ob ← load s.heap.objs.size
    match ob.data with
    | .seq xs _ => pure xs.toList
    | _ => unsupported "internal:collect") Q E { s with heap := grown s.heap us }
  refine wpAny_bind (wpAny_load (get?_update_seq f2 _) ?_)
  show wpAny _ _ (pure ((#[] : Array Value) ++ us.toArray).toList) Q E _
  rw [e0]
  exact wpAny_pure q
end
section
variable {X : Cx}
def rSortIT (K : PySem.W.Frag) : List V → Hp → VK → Prop := fun vs H Q => ∃ (a : Addr) (ns : List Int), vs = [V.ref a] ∧ SqT K H a (ns.map V.int) ∧ ∀ (ms : List Int) (p : Addr), ms.Perm ns → ms.Pairwise (· ≤ ·) → H p = none → Q (.ref p) (upd H p (.lst (ms.map V.int)))
theorem cr_sortIT : CallR X (.builtin "sorted") (rSortIT X.K) := by
  intro pins s σ H vs us Q I r h
  obtain ⟨a, ns, rfl, hs, q⟩ := h
  obtain ⟨its, rv, pt, hz⟩ := I.tuple hs
  rw [Vals.ref1 r]
  have hi := rv.ints
  have hzl : its.length ≤ sizeLine := by rw [← rv.length]; exact hz
  have z1 : (grown s.heap its).objs.size = s.heap.objs.size + 1 := by
    unfold grown
    rw [Heap.size_update, size_push']
  have hoL : ((grown s.heap its).push (seqObj "list" its.toArray 0)).get? (grown s.heap its).objs.size = some (seqObj "list" its.toArray 0) := Heap.get?_push_size _ rfl
  refine Calls.call_function_entry kind_sorted plain_sorted entry_sorted (args_sorted1 _) ?_
  unfold Builtin.«sorted»
  refine wpAny_bind (m := checkCount "sorted" 1 1 _) (wpAny_pure (wpAny_bind (coll_tup pt hzl (wpAny_bind (wpAny_newList ?_ hzl)))))
  refine wpAny_bind (wpAny_holding (wpAny_call_entry slot_list_sort ⟨_, hoL, rfl⟩ entry_list_sort (SrtO.list_sort_ord SrtO.swo_int hoL hzl (fun h2 => SrtO.ints_sortable hi h2) fun out h1 h2 => ⟨_, rfl, ?_⟩) (args_list_sort _)))
  obtain ⟨k1, k2, k3⟩ := SrtO.ints_out hi h1 h2
  obtain ⟨e9, he9⟩ := sortedHeap_at (vs := its) (out := out.toArray) hoL
  have kp : ∀ b o, s.heap.get? b = some o → (sortedHeap ((grown s.heap its).push (seqObj "list" its.toArray 0)) (grown s.heap its).objs.size its out.toArray).get? b = some o := fun b o e => by
    have lt := Heap.lt_size e
    rw [sortedHeap_old (by rw [z1]; exact Nat.ne_of_lt (Nat.lt_succ_of_lt lt)) (by rw [size_push', z1]; exact Nat.lt_succ_of_lt (Nat.lt_succ_of_lt lt))]
    refine Heap.get?_push_of_some _ ?_
    unfold grown
    rw [Heap.get?_update_ne _ _ _ _ (Nat.ne_of_lt lt)]
    exact Heap.get?_push_of_some _ e
  have hlen : ((out.map SrtO.iv).map V.int).length ≤ sizeLine := by
    have y := hz
    rw [List.length_map] at y ⊢
    rw [k2.length_eq]
    exact y
  have hge : s.heap.objs.size ≤ (grown s.heap its).objs.size := by rw [z1]; exact Nat.le_succ _
  exact wpAny_pure ⟨_, rfl, .ref _, upd H (grown s.heap its).objs.size (.lst ((out.map SrtO.iv).map V.int)), I.laid (t' := s.toks) kp hge ⟨hlen, out, e9, vals_of_ints k1, he9⟩, rfl, q _ _ k2 k3 (I.hok.fresh hge)⟩
/-! ### len(set(t)), t a tuple of ints -/
def InS (P : Program) (w : World) (a : Addr) (zs : List Int) : HO := .ext fun h => GS (PySem.intKind P w) h a zs
theorem ins_new {P : Program} {w : World} {H : Hp} {h : Heap} {a : Addr} {zs : List Int} (g : GS (PySem.intKind P w) h a zs) : ObjOk P w H h a (InS P w a zs) := by
  have ⟨o, _, _, _, _, ho, _⟩ := g
  exact ⟨g, ⟨o, ho⟩, fun h1 h2 p k => GS.at p k⟩
def rSetIT (K : PySem.W.Frag) (P : Program) (w : World) : List V → Hp → VK → Prop := fun xs H Q => ∃ (l : Addr) (zs : List Int), xs = [V.ref l] ∧ SqT K H l (zs.map V.int) ∧ zs.length ≤ 50 ∧ ∀ p, H p = none → Q (.ref p) (upd H p (InS P w p zs))
theorem cr_setIT (hc : X.calm = true) : CallR X (.type "set") (rSetIT X.K X.prog X.w) := by
  intro pins s σ H xs us Q I r h
  obtain ⟨l, zs, rfl, hl, hn, q⟩ := h
  rw [Vals.ref1 r]
  obtain ⟨its, rv, pt, _⟩ := I.tuple hl
  have hlen : its.length = zs.length := by
    rw [← rv.length, List.length_map]
  refine call_setT (kd := PySem.intKind X.prog X.w) zs (I.ok.hd hc) pt (by simpa using hlen) (fun i v hv => ?_) (Nat.lt_of_le_of_lt (Nat.succ_le_succ hn) (by decide)) fun h' tk g hk => ?_
  · have hv' : its[i]? = some v := by simpa using hv
    obtain ⟨x, hx, rx⟩ := vals_get rv hv'
    rw [List.getElem?_map] at hx
    cases ez : zs[i]? with
    | none =>
      rw [ez] at hx
      cases hx
    | some z =>
      rw [ez] at hx
      cases hx
      obtain ⟨t, rfl⟩ := rx
      exact ⟨z, rfl, intKind_is _ _ _ _, rfl⟩
  · exact ⟨.ref _, upd H s.heap.objs.size (InS X.prog X.w s.heap.objs.size zs), I.laid (t' := tk) hk (Nat.le_refl _) (ins_new g), rfl, q _ (I.hok.fresh (Nat.le_refl _))⟩
def rLenSI (P : Program) (w : World) : List V → Hp → VK → Prop := fun xs H Q => ∃ (a : Addr) (zs : List Int), xs = [V.ref a] ∧ H a = some (InS P w a zs) ∧ zs.length ≤ 50 ∧ ∀ js : List Int, js.Nodup → (∀ k, k ∈ js ↔ k ∈ zs) → Q (.int (js.length : Nat)) H
theorem cr_lenSI : CallR X (.builtin "len") (rLenSI X.prog X.w) := by
  intro pins s σ H vs us Q I r h
  obtain ⟨a, zs, rfl, ha, hn, q⟩ := h
  rw [Vals.ref1 r]
  obtain ⟨ob, es, ep, tb, js, o1, o2, o3, hp, nd, hm, hsz, hf, hr, hl⟩ := (I.hok a _ ha).1
  have e : es.size = js.length := by
    have := Paired.length hp
    rw [Array.length_toList] at this
    exact this
  refine call_len_set o1 o2 o3 hf (by omega) ⟨.int (js.length : Nat), H, I.tok _, ⟨_, by rw [e]⟩, q js nd hm⟩
end
end KwZ
set_option Elab.async false
set_option linter.all false
set_option maxRecDepth 100000
set_option maxHeartbeats 4000000
namespace Kw
open PySem PySem.Spec PyProof.Rows L2 Evl
abbrev sIsL : Stmt := topS 22
theorem scIsL : FnScope ["thing", "part"] ["thing"] (defScope sIsL) := ⟨rfl, rfl, rfl, by decide +kernel, rfl, by decide +kernel, by decide +kernel⟩
abbrev sChL : Stmt := topS 23
theorem scChL : FnScope ["laying"] ["laying"] (defScope sChL) := ⟨rfl, rfl, rfl, by decide +kernel, rfl, by decide +kernel, by decide +kernel⟩
abbrev sRdF : Stmt := topS 24
theorem scRdF : FnScope ["laying", "box", "told", "after"] ["laying", "box"] (defScope sRdF) := ⟨rfl, rfl, rfl, by decide +kernel, rfl, by decide +kernel, by decide +kernel⟩
abbrev sRdO : Stmt := topS 25
theorem scRdO : FnScope ["laying", "told", "seen", "box", "other"] ["laying"] (defScope sRdO) := ⟨rfl, rfl, rfl, by decide +kernel, rfl, by decide +kernel, by decide +kernel⟩
theorem decLe (a b : Nat) : decide ((a : Int) ≤ ((b : Nat) : Int)) = decide (a ≤ b) := by
  by_cases h : a ≤ b
  · rw [decide_eq_true h, decide_eq_true (by omega)]
  · rw [decide_eq_false h, decide_eq_false (by omega)]
theorem nb1 {c : Bool} (h : (!true || !c) = true) : c = false := by
  cases c
  · rfl
  · cases h
theorem nb0 {c : Bool} (h : (!true || !c) = false) : c = true := by
  cases c
  · cases h
  · rfl
theorem rtt_to {te : TE} {D : Ends} {σ : L2.St} {H : Hp} (h : te σ H D.rt) : tRet te D σ H := h
theorem at_last (ys : List V) (v : V) : atI (ys ++ [v]) (-1) = some v := by
  unfold atI ixN
  rw [List.length_append, List.length_singleton]
  rw [if_neg (by decide), if_pos (by omega)]
  rw [show ((-1 : Int) + ((ys.length + 1 : Nat) : Int)).toNat = ys.length by omega]
  simp
/-! ### layings as data -/
def intOf : PyData → Int
  | .int i => i
  | _ => 0
def rgI (n : Nat) : List Int := (List.range n).map fun (i : Nat) => (i : Int)
def layI (ns : List Int) : Bool := ns.isPerm (rgI ns.length)
def layD : PyData → Bool
  | .tuple ds => (decide (1 ≤ ds.length) && decide (ds.length ≤ 30)) && (ds.all isIntD && layI (ds.map intOf))
  | _ => false
theorem layD_not {d : PyData} (h : isTupD d = false) : layD d = false := by
  cases d <;> first | rfl | cases h
theorem layI_iff {ns : List Int} : layI ns = true ↔ ns.Perm (rgI ns.length) := List.isPerm_iff
theorem rgI_sorted (n : Nat) : (rgI n).Pairwise (· ≤ ·) := by
  unfold rgI
  rw [List.pairwise_map]
  exact List.Pairwise.imp (fun {a b} h => by omega) (List.pairwise_lt_range (n := n))
theorem rgI_nodup (n : Nat) : (rgI n).Nodup := by
  unfold rgI
  rw [List.nodup_iff_pairwise_ne, List.pairwise_map]
  exact List.Pairwise.imp (fun {a b} h => by omega) (List.pairwise_lt_range (n := n))
theorem mem_rgI {n : Nat} {i : Int} : i ∈ rgI n ↔ 0 ≤ i ∧ i < n := by
  unfold rgI
  rw [List.mem_map]
  constructor
  · rintro ⟨k, h, rfl⟩
    have := List.mem_range.mp h
    omega
  · rintro ⟨h1, h2⟩
    exact ⟨i.toNat, List.mem_range.mpr (by omega), by omega⟩
theorem rgI_len (n : Nat) : (rgI n).length = n := by
  unfold rgI
  rw [List.length_map, List.length_range]
theorem sort_lay {ms ns : List Int} (hp : ms.Perm ns) (hs : ms.Pairwise (· ≤ ·)) : decide (ms = rgI ns.length) = layI ns := by
  by_cases h : ms = rgI ns.length
  · rw [decide_eq_true h]
    exact (layI_iff.mpr (h ▸ hp.symm)).symm
  · rw [decide_eq_false h]
    cases hl : layI ns with
    | false => rfl
    | true =>
      refine absurd ?_ h
      exact List.Perm.eq_of_pairwise (le := (· ≤ ·)) (fun a b _ _ h1 h2 => Int.le_antisymm h1 h2) hs (rgI_sorted _) (hp.trans (layI_iff.mp hl))
/-- by the numbers and how many unlike ones there are -/
theorem set_lay {js ns : List Int} (nd : js.Nodup) (hm : ∀ k, k ∈ js ↔ k ∈ ns) (hr : ∀ i ∈ ns, 0 ≤ i ∧ i < ns.length) : decide (js.length = ns.length) = layI ns := by
  by_cases h : js.length = ns.length
  · rw [decide_eq_true h]
    have h1 : js.Perm (rgI ns.length) := perm_of_full nd (rgI_nodup _) (fun x hx => mem_rgI.mpr (hr x ((hm x).mp hx))) (by rw [rgI_len]; omega)
    have h2 : ∀ x ∈ rgI ns.length, x ∈ ns := fun x hx => (hm x).mp (h1.mem_iff.mpr hx)
    have nn : ns.Nodup := nodup_of_count nd (fun x hx => (hm x).mp hx) (by omega)
    exact (layI_iff.mpr (perm_of_full nn (rgI_nodup _) (fun x hx => mem_rgI.mpr (hr x hx)) (by rw [rgI_len]; omega))).symm
  · rw [decide_eq_false h]
    cases hl : layI ns with
    | false => rfl
    | true =>
      refine absurd ?_ h
      have hp := layI_iff.mp hl
      have nn : ns.Nodup := hp.nodup_iff.mpr (rgI_nodup _)
      exact ((List.perm_ext_iff_of_nodup nd nn).mpr hm).length_eq
section
variable {P : Program} {w : World} {K : PySem.W.Frag} {mg : Str → Option Value} {base : Heap} {H : Hp} {σ : L2.St}
theorem dpA_ints : ∀ {xs : List V} {ds : List PyData}, DpAll K H xs ds → ds.all isIntD = true → xs = (ds.map intOf).map V.int
  | _, [], h, _ => by cases h; rfl
  | _, d :: ds, h, ha => by
    cases h with
    | cons a b =>
      rw [List.all_cons, Bool.and_eq_true] at ha
      cases d <;> first | cases ha.1 | skip
      cases a
      rw [dpA_ints b ha.2]
      rfl
theorem dp_ints : ∀ ns : List Int, DpAll K H (ns.map V.int) (ns.map PyData.int)
  | [] => .nil
  | a :: r => .cons (.int _) (dp_ints r)
theorem shaped_lI (ns : List Int) : SeqAt.shaped (.list (ns.map PyData.int)) = true := by
  have h1 := SoX.depth_ints ns
  refine Bool.and_eq_true_iff.mpr ⟨?_, decide_eq_true ?_⟩
  · rw [PyData.canLay0]
    exact SoX.lay_ints ns
  · rw [PyData.depth]
    omega
theorem rv_eqLI {p q : Addr} {a b : List Int} (h1 : SqL K H p (a.map V.int)) (h2 : SqL K H q (b.map V.int)) : RV (rEqD K) (.ref p) (.ref q) H (.bl (decide (a = b))) := fun H1 e Q k =>
  ⟨_, _, .lst (ex_l e h1) (dp_ints a), .lst (ex_l e h2) (dp_ints b), shaped_lI a, shaped_lI b, by
    rw [show PyData.eqv (.list (a.map PyData.int)) (.list (b.map PyData.int)) = decide (a = b) by rw [PyData.eqv, SoX.eqv_ints]]
    exact k H1 (Ex.refl H1)⟩
theorem rg_vN (n : Nat) : (List.range n).map vN = (rgI n).map V.int := by
  unfold rgI
  rw [List.map_map]
  rfl
theorem dN_all : ∀ ns : List Nat, (dN ns).all isIntD = true
  | [] => rfl
  | a :: r => by show (true && (dN r).all isIntD) = true; rw [dN_all r]; rfl
theorem dN_intOf (ns : List Nat) : (dN ns).map intOf = ns.map fun (i : Nat) => (i : Int) := by
  unfold dN
  rw [List.map_map]
  rfl
theorem dN_len (ns : List Nat) : (dN ns).length = ns.length := List.length_map ..
theorem layD_ok {lay : List Nat} (h : IsLay lay) (h1 : 1 ≤ lay.length) (h2 : lay.length ≤ 30) : layD (.tuple (dN lay)) = true := by
  show ((decide (1 ≤ (dN lay).length) && decide ((dN lay).length ≤ 30)) && ((dN lay).all isIntD && layI ((dN lay).map intOf))) = true
  rw [dN_all, dN_intOf, dN_len, decide_eq_true h1, decide_eq_true h2, layI_iff.mpr]
  · rfl
  · rw [List.length_map]
    exact h.map _
/-! ### is_laying -/
def spIsL (K : PySem.W.Frag) : Sp := fun vs H Q _ => ∃ (v : V) (d : PyData), vs = [v] ∧ Dp K H v d ∧ RetV (.bl (layD d)) H Q
theorem ok_isL {f fWho : Addr} {fd fdWho : FuncData} {k : Nat} (F : Fun K "is_laying" "is_laying" sIsL f fd) (DWho : Df K mg "is_whole" sWho ["thing"] fWho fdWho) (GWho : FnOk P w K mg base CX0 (k + 1) fWho fdWho ["thing"] (spWho K)) (B : Bu mg) {t30 : Tok} (m_MOST_BOXES : mg "MOST_BOXES" = some (.int 30 t30)) : FnOk P w K mg base CX0 (k + 2) f fd ["thing"] (spIsL K) := by
  refine F.ok scIsL (fun vs H Q E h => ?_) (fun cdv A outer s H vs Q E hr h => ?_)
  · obtain ⟨v, d, rfl, _⟩ := h
    rfl
  · obtain ⟨v, d, rfl, hd, q⟩ := h
    have hu64 := hr.units
    refine ⟨_, (pss_cons (ps_if (PW.pt (pw_or (pt_not (pt_val (pe_callB call_isi (by rfl) B.isi boot_isinstance (pa_cons (pv 0) (pa_cons (pe_bltn (v := .ty "tuple") (by rfl) B.tup boot_tuple rfl) pa_nil))))) (pw_or1 (pt_not (pt_chain op_le op_le pe_int (pe_callB call_len_seq (by rfl) B.len PySem.boot_len (pa_cons (pv 0) pa_nil)) (pe_glob (v := .int 30) (by rfl) m_MOST_BOXES ⟨_, rfl⟩)))))) (pss_one (ps_ret pe_bl)) pss_nil)
      (pss_one (ps_ret (pe_and (pe_callB (cr_all rfl) (by rfl) B.all boot_all (pa_cons (pe_lc (own := [("part", 1)]) (g := (gName 1)) (tt := tYes) (te := (tCall (spWho K) [] E0 (tCons (tVar 1) tNil))) rfl scIsL.nd (pi_tup (pv 0)) (blkOk_by (N := ["thing", "part"]) (sc := defScope sIsL) (by decide +kernel)) (fun _ _ _ _ _ => (pg_name (i := 1) scIsL.nd rfl (.inl rfl))) (fun _ _ _ _ _ => pts_nil) (fun _ _ _ _ _ => (pcall DWho GWho (hr.mono (by omega)) (pa_cons (pv 1) pa_nil)))) pa_nil)) (pe_one (pe_cmpR (op_eqD hu64) (pe_callB KwZ.cr_sortIT (by rfl) B.srt PyProof.Rows.boot_sorted (pa_cons (pv 0) pa_nil)) (pe_listRg rfl (by rfl) B.lst (prg_1 (by rfl) B.rng (pe_callB call_len_seq (by rfl) B.len PySem.boot_len (pa_cons (pv 0) pa_nil)))) (nomark _))))))), ?_⟩
    cases ht : isTupD d with
    | false =>
      rw [layD_not ht] at q
      exact q_when (b := true) (et_is (et_or (b := true) (et_not (et_B (ev_isiD (K := K) (ev_var (v := v) rfl) ev_c hd (kit_tup hd)))) fun h => absurd h (by rw [ht]; decide)) (by rw [ht]; rfl)) (fun _ H1 e1 => q H1 e1) (fun hb => absurd hb (by decide))
    | true =>
      cases d <;> first | cases ht | skip
      rename_i ds
      obtain ⟨a, xs, rfl, hS, hA⟩ := dp_tup_inv hd
      have hlen := dpA_len hA
      have hl : layD (.tuple ds) = ((decide (1 ≤ ds.length) && decide (ds.length ≤ 30)) && (ds.all isIntD && layI (ds.map intOf))) := rfl
      refine q_when (b := !true || !(decide (1 ≤ ds.length) && decide (ds.length ≤ 30))) (et_or (et_is (et_not (et_B (ev_isiD (K := K) (ev_var (v := .ref a) rfl) ev_c hd (kit_tup hd)))) rfl) fun _ => et_is (et_not (et_test (ev_chain ev_c (ev_lenT (K := K) (ev_var (v := .ref a) rfl) hS) ev_c rv_le rv_le))) ?_) (fun hb H1 e1 => ?_) (fun hb H1 e1 => ?_)
      · rw [hlen]
        show (!(decide (((1 : Nat) : Int) ≤ ((ds.length : Nat) : Int)) && decide (((ds.length : Nat) : Int) ≤ ((30 : Nat) : Int)))) = _
        rw [decLe, decLe]
      · have : (decide (1 ≤ ds.length) && decide (ds.length ≤ 30)) = false := nb1 hb
        rw [hl, this] at q
        exact q H1 e1
      · have h30 : (decide (1 ≤ ds.length) && decide (ds.length ≤ 30)) = true := nb0 hb
        rw [hl, h30, Bool.true_and] at q
        have hle : ds.length ≤ 30 := by
          rw [Bool.and_eq_true, decide_eq_true_eq, decide_eq_true_eq] at h30
          exact h30.2
        refine s_ret (v := .bl (ds.all isIntD && layI (ds.map intOf))) (ev_andV (ev_is (ev_all (K := K) (bs := ds.map isIntD) (el_lc (ew_tup (ev_var (v := .ref a) rfl) (ex_t e1 hS)) (by omega) (fun _ => true) (fun i => V.bl (isIntD (ds.getD i .none))) ?_ (fun i x H2 H3 Q e2 hi hy k => ?_))) (by rw [List.all_map]; rfl)) fun hall => ?_) (fun H2 e2 => q H2 (e1.trans e2))
        · have := filter_range_map ds .none (fun _ => true) (fun d => V.bl (isIntD d))
          rw [hlen, this, List.filter_eq_self.mpr (fun _ _ => rfl), List.map_map]
          rfl
        · obtain ⟨rfl, hx⟩ := hy
          obtain ⟨dx, hdx, hDx⟩ := dpA_get hA hx
          rw [getD_eq hdx] at k
          exact k _ _ (Ex.refl _) rfl et_yes fun _ => ev_call (ea_cons (ev_var (v := x) rfl) ea_nil) (SpV.of fun H4 e4 Q q E => who_dp (dp_ex ((e1.trans e2).trans e4) _ _ hDx) q)
        · have hxs := dpA_ints hA hall
          rw [hxs] at hS
          intro H2 e2 Q' q'
          refine ⟨.ref a, rfl, a, ds.map intOf, rfl, ex_t (e1.trans e2) hS, fun ms p hp hs np => ?_⟩
          have e3 := Ex.new (o := .lst (ms.map V.int)) np
          have hln : (ds.map intOf).length = ds.length := List.length_map ..
          refine el_listR (n := ds.length) (ev_is (ev_lenT (K := K) (ev_var (v := .ref a) rfl) (ex_t ((e1.trans e2).trans e3) hS)) (by rw [List.length_map, hln])) (by omega) _ (Ex.refl _) _ fun p2 H4 np2 e4 h4 => ?_
          rw [rg_vN] at h4
          refine rv_eqLI (K := K) (sq_of (e4 _ _ upd_same)) (sq_of h4) H4 (Ex.refl H4) _ fun H5 e5 => ?_
          have := sort_lay hp hs
          rw [hln] at this
          rw [this]
          exact q' H5 ((e3.trans e4).trans e5)
/-! ### check_laying -/
def spChL (K : PySem.W.Frag) : Sp := fun vs H Q _ => ∃ (v : V) (d : PyData), vs = [v] ∧ Dp K H v d ∧ layD d = true ∧ RetV .non H Q
theorem ok_chL {f fIsL : Addr} {fd fdIsL : FuncData} {k : Nat} (F : Fun K "check_laying" "check_laying" sChL f fd) (DIsL : Df K mg "is_laying" sIsL ["thing"] fIsL fdIsL) (GIsL : FnOk P w K mg base CX0 (k + 2) fIsL fdIsL ["thing"] (spIsL K)) : FnOk P w K mg base CX0 (k + 3) f fd ["laying"] (spChL K) := by
  refine F.ok scChL (fun vs H Q E h => ?_) (fun cdv A outer s H vs Q E hr h => ?_)
  · obtain ⟨v, d, rfl, _⟩ := h
    rfl
  · obtain ⟨v, d, rfl, hd, hl, q⟩ := h
    refine ⟨_, (pss_one (ps_if (pt_not (pt_val (pcall DIsL GIsL (hr.mono (by omega)) (pa_cons (pv 0) pa_nil)))) pss_never pss_nil)), ?_⟩
    exact s_when (b := false) (et_is (et_not (et_B (ev_call (z := .bl true) (ea_cons (ev_var (v := v) rfl) ea_nil) (SpV.of fun H2 e2 Q q E => ⟨v, d, rfl, dp_ex e2 _ _ hd, by rw [hl]; exact q⟩)))) rfl) (fun hb => absurd hb (by decide)) (fun _ H1 e1 => q H1 e1)
/-! ### round_from -/
def spRdF (K : PySem.W.Frag) : Sp := fun vs H Q _ => ∃ (a : Addr) (lay : List Nat) (i : Nat), vs = [.ref a, vN i] ∧ SqT K H a (lay.map vN) ∧ IsLay lay ∧ lay.length ≤ 30 ∧ i < lay.length ∧ RetU ((orb lay i).map vN) H Q
theorem at_lay {lay : List Nat} {i : Nat} (h : i < lay.length) : atI (lay.map vN) (i : Int) = some (vN (nx lay i)) := atI_nat (by rw [List.getElem?_map, nx_get h]; rfl)
theorem ok_rdF {f  : Addr} {fd  : FuncData} {k : Nat} (F : Fun K "round_from" "round_from" sRdF f fd) (B : Bu mg) : FnOk P w K mg base CX0 (k + 1) f fd ["laying", "box"] (spRdF K) := by
  refine F.ok scRdF (fun vs H Q E h => ?_) (fun cdv A outer s H vs Q E hr h => ?_)
  · obtain ⟨a, lay, i, rfl, _⟩ := h
    rfl
  · obtain ⟨a, lay, i, rfl, hS, hL, h30, hi, q⟩ := h
    refine ⟨_, (pss_cons (ps_set (i := 2) scRdF.nd rfl (.inl rfl) (pe_lst (pa_cons (pv 1) pa_nil)))
      (pss_cons (ps_set (i := 3) scRdF.nd rfl (.inl rfl) (pe_ix ix_tup (pv 0) (pv 1) (fun _ _ => rfl)))
      (pss_cons (ps_while PassesOwn.never (pt_cmpR op_ne (pv 3) (pv 1) (nomark _)) (pss_cons (ps_expr (pe_bm PySem.F.plainAttrs_list PySem.F.slot_list_append PySem.F.type_list_append mt_append (pv 2) (pa_cons (pv 3) pa_nil)))
      (pss_one (ps_set (i := 3) scRdF.nd rfl (.inl rfl) (pe_ix ix_tup (pv 0) (pv 3) (fun _ _ => rfl))))))
      (pss_one (ps_ret (pe_callTy call_tupOf (by rfl) B.tup boot_tuple (pa_cons (pv 2) pa_nil))))))), ?_⟩
    obtain ⟨p1, p2, p3, p4⟩ := hL.per hi
    refine q_asgL (xs := [vN i]) (el_lst (ea_cons (ev_var rfl) ea_nil) (by show 1 ≤ 100000; decide)) fun t H1 nt e1 h1 => ?_
    refine q_asg (σ := [some (.ref a), some (vN i), some (.ref t), none]) (v := vN (nx lay i)) (ev_op (ev_var (v := .ref a) rfl) (ev_var (v := vN i) rfl) (rv_ixT (K := K) (ex_t e1 hS) (at_lay hi))) fun H2 e2 => ?_
    refine q_while (σ := [some (.ref a), some (vN i), some (.ref t), some (vN (nx lay i))]) (fun m σ' H' => ∃ k, 1 ≤ k ∧ k ≤ per lay i ∧ m = per lay i - k ∧ σ' = [some (.ref a), some (vN i), some (.ref t), some (vN (it lay k i))] ∧ Ex H H' ∧ H' t = some (.lst (((List.range k).map fun j => it lay j i).map vN))) (per lay i - 1) ⟨1, Nat.le_refl _, p1, rfl, rfl, e1.trans e2, e2 _ _ h1⟩ (fun m σ' H' hW => ?_)
    obtain ⟨k, k1, k2, rfl, rfl, eH, ht⟩ := hW
    have hne : decide (V.int ((it lay k i : Nat) : Int) = V.int (i : Int)) = decide (k = per lay i) := by
      by_cases z : k = per lay i
      · rw [decide_eq_true z, decide_eq_true (by rw [z, p3])]
      · rw [decide_eq_false z, decide_eq_false (fun y => p4 k k1 (by omega) (by have := V.int.inj y; omega))]
    refine ⟨!decide (k = per lay i), et_is (et_test (ev_op (ev_var (v := vN (it lay k i)) rfl) (ev_var (v := vN i) rfl) (rv_ne rfl))) (by rw [hne]), fun hb H3 e3 => ?_, fun hb H3 e3 => ?_⟩
    · have hk : k < per lay i := by
        have : ¬ k = per lay i := by simpa using hb
        omega
      refine ⟨fun σ2 H2 => ∃ k', k < k' ∧ 1 ≤ k' ∧ k' ≤ per lay i ∧ σ2 = [some (.ref a), some (vN i), some (.ref t), some (vN (it lay k' i))] ∧ Ex H H2 ∧ H2 t = some (.lst (((List.range k').map fun j => it lay j i).map vN)), fun σ2 H2 ⟨k', z1, z2, z3, z4, z5, z6⟩ => ⟨per lay i - k', by omega, k', z2, z3, rfl, z4, z5, z6⟩, ?_⟩
      refine q_app (K := K) (σ := [some (.ref a), some (vN i), some (.ref t), some (vN (it lay k i))]) (v := vN (it lay k i)) (e3 _ _ ht) (ev_var rfl) (ev_var rfl) (by rw [List.length_map, List.length_map, List.length_range]; omega) fun H4 e4 => ?_
      have eH' : Ex H (upd H4 t (.lst (((List.range k).map fun j => it lay j i).map vN ++ [vN (it lay k i)]))) := Ex.mut ((eH.trans e3).trans e4) nt
      refine s_asg (σ := [some (.ref a), some (vN i), some (.ref t), some (vN (it lay k i))]) (v := vN (it lay (k + 1) i)) (ev_op (ev_var (v := .ref a) rfl) (ev_var (v := vN (it lay k i)) rfl) (rv_ixT (K := K) (ex_t eH' hS) (at_lay (hL.it_lt hi k)))) fun H5 e5 => ?_
      refine ⟨k + 1, by omega, by omega, by omega, rfl, eH'.trans e5, ?_⟩
      refine e5 _ _ ?_
      rw [upd_same, List.range_succ, List.map_append, List.map_append]
      rfl
    · have hk : k = per lay i := by simpa using hb
      subst hk
      refine rtt_to ((eu_tupL (K := K) (σ := [some (.ref a), some (vN i), some (.ref t), some (vN (it lay (per lay i) i))]) (ev_var (v := .ref t) rfl) (sq_of (e3 _ _ ht))) H3 (Ex.refl H3) _ fun p H4 np e4 h4 => ?_)
      exact q p H4 (fresh_back (eH.trans e3) np) ((eH.trans e3).trans e4) h4
/-! ### rounds_of -/
def spRdO (K : PySem.W.Frag) : Sp := fun vs H Q _ => ∃ (a : Addr) (lay : List Nat), vs = [.ref a] ∧ SqT K H a (lay.map vN) ∧ IsLay lay ∧ 1 ≤ lay.length ∧ lay.length ≤ 30 ∧ ∀ p ys H2, H p = none → Ex H H2 → H2 p = some (.lst ys) → TupsAt K H2 ys (cycles lay) → Q (.ref p) H2
theorem dp_lay {a : Addr} {lay : List Nat} (h : SqT K H a (lay.map vN)) : Dp K H (.ref a) (.tuple (dN lay)) := .tup h (dp_nats lay)
theorem cycs_len (lay : List Nat) (n : Nat) : (cycs lay n).length ≤ n := by
  unfold cycs
  rw [List.length_map]
  have := List.length_filter_le (fun i => !inB lay i i) (List.range n)
  rw [List.length_range] at this
  exact this
theorem tups_app {ys : List V} {rs : List (List Nat)} {p : Addr} {r : List Nat} (h : TupsAt K H ys rs) (hp : SqT K H p (r.map vN)) : TupsAt K H (ys ++ [.ref p]) (rs ++ [r]) := paired_app h ⟨p, rfl, hp⟩
theorem KeepT.set {H : Hp} {p : Addr} {f : Heap → Prop} {o : HO} (h : H p = some (.ext f)) : KeepT H (upd H p o) := fun b zs r => by
  have nb : b ≠ p := by
    rintro rfl
    rcases r with r | ⟨o, r⟩
    · rw [h] at r; cases r
    · rw [h] at r; cases r
  rcases r with r | ⟨o, r⟩
  · exact .inl (by rw [upd_ne nb]; exact r)
  · exact .inr ⟨o, by rw [upd_ne nb]; exact r⟩
theorem ok_rdO {f fChL fRdF : Addr} {fd fdChL fdRdF : FuncData} {k : Nat} (F : Fun K "rounds_of" "rounds_of" sRdO f fd) (DChL : Df K mg "check_laying" sChL ["laying"] fChL fdChL) (DRdF : Df K mg "round_from" sRdF ["laying", "box"] fRdF fdRdF) (GChL : FnOk P w K mg base CX0 (k + 3) fChL fdChL ["laying"] (spChL K)) (GRdF : FnOk P w K mg base CX0 (k + 1) fRdF fdRdF ["laying", "box"] (spRdF K)) (B : Bu mg) : FnOk P w K mg base CX0 (k + 4) f fd ["laying"] (spRdO K) := by
  refine F.ok scRdO (fun vs H Q E h => ?_) (fun cdv A outer s H vs Q E hr h => ?_)
  · obtain ⟨a, lay, rfl, _⟩ := h
    rfl
  · obtain ⟨a, lay, rfl, hS, hL, h1, h30, q⟩ := h
    refine ⟨_, (pss_cons (ps_expr (pcall DChL GChL (hr.mono (by omega)) (pa_cons (pv 0) pa_nil)))
      (pss_cons (ps_set (i := 1) scRdO.nd rfl (.inl rfl) (pe_lst pa_nil))
      (pss_cons (ps_set (i := 2) scRdO.nd rfl (.inl rfl) (pe_callTy0 cr_set0 (by rfl) B.set PyProof.Rows.boot_set))
      (pss_cons (ps_for PassesOwn.never rfl (pi_range1 (by rfl) B.rng (pa_cons (pe_callB call_len_seq (by rfl) B.len PySem.boot_len (pa_cons (pv 0) pa_nil)) pa_nil)) (pg_name (i := 3) scRdO.nd rfl (.inl rfl))
      (pss_one (ps_if (pt_cmpR or_snotin (pv 3) (pv 2) (by rfl)) (pss_cons (ps_expr (pe_bm PySem.F.plainAttrs_list PySem.F.slot_list_append PySem.F.type_list_append mt_append (pv 1) (pa_cons (pcall DRdF GRdF (hr.mono (by omega)) (pa_cons (pv 0) (pa_cons (pv 3) pa_nil))) pa_nil)))
      (pss_one (ps_for PassesOwn.never rfl (pi_tup (pe_ix ix_list (pv 1) (pe_un un_neg pe_int) (fun _ _ => rfl))) (pg_name (i := 4) scRdO.nd rfl (.inl rfl))
      (pss_one (ps_expr (pe_sadd (pv 2) (pa_cons (pv 4) pa_nil))))))) pss_nil)))
      (pss_one (ps_ret (pv 1))))))), ?_⟩
    refine q_drop (ev_call (z := .non) (ea_cons (ev_var rfl) ea_nil) (SpV.of fun H2 e2 Q q E => ⟨_, .tuple (dN lay), rfl, dp_lay (ex_t e2 hS), layD_ok hL h1 h30, q⟩)) fun Ha ea => ?_
    refine q_asgL (σ := [some (.ref a), none, none, none, none]) (xs := []) (el_lst ea_nil (by decide)) fun t Hb nt eb hb => ?_
    refine ⟨rfl, fun sa ns => ?_⟩
    have ec := Ex.new (o := SetO w sa (fun _ => false) 0) ns
    have nta : H t = none := fresh_back ea nt
    have nsa : H sa = none := fresh_back (ea.trans eb) ns
    have hts : t ≠ sa := ne_of_none hb ns
    refine q_forR1 (σ := [some (.ref a), some (.ref t), some (.ref sa), none, none]) (n := (lay.length : Int)) (ea_cons (ev_is (ev_lenT (K := K) (ev_var (v := .ref a) rfl) (ex_t ((ea.trans eb).trans ec) hS)) (by rw [List.length_map])) ea_nil) ⟨by omega, by omega⟩
      (fun i σ' H' => ∃ y3 y4 ys n, σ' = [some (.ref a), some (.ref t), some (.ref sa), y3, y4] ∧ Ex H H' ∧ H' t = some (.lst ys) ∧ TupsAt K H' ys (cycs lay i) ∧ H' sa = some (SetO w sa (fun k => (0 ≤ k : Bool) && inB lay i k.toNat) n) ∧ n ≤ 30 * i)
      (fun H1 e1 => ⟨none, none, [], 0, rfl, ((ea.trans eb).trans ec).trans e1, e1 _ _ (ec _ _ hb), .nil, ?_, Nat.zero_le _⟩) (fun i σ' H' hi hP => ?_) (fun σ' H' hP => ?_)
    · have e : (fun k : Int => (0 ≤ k : Bool) && inB lay 0 k.toNat) = fun _ => false := by
        funext k
        show (_ && false) = false
        rw [Bool.and_false]
      rw [e]
      exact e1 _ _ upd_same
    · obtain ⟨y3, y4, ys, n, rfl, eH, ht, hT, hs, hn⟩ := hP
      have hi' : i < lay.length := by omega
      have tt : EvT (tTest (tOp (rSNotIn w) (tVar 3) (tVar 2))) [some (.ref a), some (.ref t), some (.ref sa), some (.int (i : Int)), y4] H' (!inB lay i i) := et_is (et_test (ev_op (ev_var (v := .int (i : Int)) rfl) (ev_var (v := .ref sa) rfl) (rv_val fun H4 e4 Q q => ⟨(i : Int), sa, _, n, rfl, rfl, e4 _ _ hs, q⟩))) (by
        rw [decide_eq_true (show (0 : Int) ≤ (i : Int) by omega), Int.toNat_natCast, Bool.true_and])
      refine s_when (σ := [some (.ref a), some (.ref t), some (.ref sa), some (.int (i : Int)), y4]) tt (fun hb H1 e1 => ?_) (fun hb H1 e1 => ?_)
      · have hnew : inB lay i i = false := by simpa using hb
        have hlp := (hL.per hi').2.1
        refine q_appU (K := K) (ys := (orb lay i).map vN) (e1 _ _ ht) (ev_var rfl) (eu_call (ea_cons (ev_var rfl) (ea_cons (ev_var rfl) ea_nil)) fun H2 e2 Q q E => ⟨a, lay, i, rfl, ex_t ((eH.trans e1).trans e2) hS, hL, h30, hi', q⟩) (by rw [show ys.length = _ from paired_len hT]; have := cycs_len lay i; omega) fun p H2 np e2 h2 => ?_
        have e12 := e1.trans e2
        have ht2 := e12 _ _ ht
        have hs2 := e12 _ _ hs
        have npt : p ≠ t := fun z => by
          rw [z, e1 _ _ ht] at np
          cases np
        have kk := KeepT.lst (ys := ys ++ [.ref p]) ht2
        have hT2 : TupsAt K (upd H2 t (.lst (ys ++ [.ref p]))) (ys ++ [.ref p]) (cycs lay (i + 1)) := by
          rw [cycs_succ, hnew]
          exact tups_app ((hT.keep (KeepT.ex e12)).keep kk) (keep_t kk (st_of h2))
        have eH2 : Ex H (upd H2 t (.lst (ys ++ [.ref p]))) := Ex.mut (eH.trans e12) nta
        have hp2 : upd H2 t (.lst (ys ++ [.ref p])) p = some (.tup ((orb lay i).map vN)) := by rw [upd_ne npt]; exact h2
        have hs3 : upd H2 t (.lst (ys ++ [.ref p])) sa = some (SetO w sa (fun k => (0 ≤ k : Bool) && inB lay i k.toNat) n) := by rw [upd_ne (Ne.symm hts)]; exact hs2
        have ht3 : upd H2 t (.lst (ys ++ [.ref p])) t = some (.lst (ys ++ [.ref p])) := upd_same
        generalize upd H2 t (.lst (ys ++ [.ref p])) = H3 at hT2 eH2 hp2 hs3 ht3
        have hps : p ≠ sa := fun z => by
          rw [z, hs3] at hp2
          cases hp2
        have hlo : ((orb lay i).map vN).length = per lay i := by
          unfold orb
          rw [List.length_map, List.length_map, List.length_range]
        have hto : (orb lay i).length = per lay i := by
          rw [List.length_map] at hlo
          exact hlo
        refine s_forT (K := K) (σ := [some (.ref a), some (.ref t), some (.ref sa), some (.int (i : Int)), y4]) (a := p) (xs := (orb lay i).map vN) (ev_op (ev_var (v := .ref t) rfl) (ev_un ev_c ru_neg) (rv_ixL (K := K) (sq_of ht3) (at_last ys (.ref p)))) (st_of hp2)
          (fun c σ' H' => ∃ y4 n, σ' = [some (.ref a), some (.ref t), some (.ref sa), some (.int (i : Int)), y4] ∧ Ex H H' ∧ KeepT H3 H' ∧ H' p = some (.tup ((orb lay i).map vN)) ∧ H' t = some (.lst (ys ++ [.ref p])) ∧ H' sa = some (SetO w sa (fun k => (0 ≤ k : Bool) && (inB lay i k.toNat || decide (k.toNat ∈ (orb lay i).take c))) n) ∧ n ≤ 30 * i + c)
          (fun H4 e4 => ⟨y4, n, rfl, eH2.trans e4, KeepT.ex e4, e4 _ _ hp2, e4 _ _ ht3, ?_, hn⟩) (fun c σ' H' _ hP => ?_) (fun c x σ' H' hx hP => ?_) (fun σ' H' hP => ?_)
        · have e : (fun k : Int => (0 ≤ k : Bool) && (inB lay i k.toNat || decide (k.toNat ∈ (orb lay i).take 0))) = fun k => (0 ≤ k : Bool) && inB lay i k.toNat := by
            funext k
            rw [List.take_zero, show decide (k.toNat ∈ ([] : List Nat)) = false from decide_eq_false (by simp), Bool.or_false]
          rw [e]
          exact e4 _ _ hs3
        · obtain ⟨y4, n', rfl, g1, g2, g3, g4, g5, g6⟩ := hP
          exact st_of g3
        · obtain ⟨y4, n', rfl, g1, g2, g3, g4, g5, g6⟩ := hP
          obtain ⟨hxe, hcl, hget⟩ := get_map (f := vN) 0 hx
          subst hxe
          have hcp : c < per lay i := by omega
          have fin : ∀ (S' : Int → Bool) (N' : Nat), S' = (fun k => (0 ≤ k : Bool) && (inB lay i k.toNat || decide (k.toNat ∈ (orb lay i).take (c + 1)))) → N' ≤ 30 * i + (c + 1) →
              ∃ y4 n, [some (V.ref a), some (V.ref t), some (V.ref sa), some (V.int (i : Int)), some (vN ((orb lay i).getD c 0))] = [some (.ref a), some (.ref t), some (.ref sa), some (.int (i : Int)), y4] ∧ Ex H (upd H' sa (SetO w sa S' N')) ∧ KeepT H3 (upd H' sa (SetO w sa S' N')) ∧ upd H' sa (SetO w sa S' N') p = some (.tup ((orb lay i).map vN)) ∧ upd H' sa (SetO w sa S' N') t = some (.lst (ys ++ [.ref p])) ∧ upd H' sa (SetO w sa S' N') sa = some (SetO w sa (fun k => (0 ≤ k : Bool) && (inB lay i k.toNat || decide (k.toNat ∈ (orb lay i).take (c + 1)))) n) ∧ n ≤ 30 * i + (c + 1) := fun S' N' hS' hN' =>
            ⟨_, N', rfl, Ex.mut g1 nsa, g2.trans (KeepT.set g5), by rw [upd_ne hps]; exact g3, by rw [upd_ne hts]; exact g4, by rw [upd_same, hS'], hN'⟩
          refine ⟨.ref sa, rfl, ⟨sa, _, _, rfl, g5⟩, vN ((orb lay i).getD c 0), rfl, sa, _, _, n', rfl, rfl, g5, Nat.lt_of_le_of_lt (show n' + 1 ≤ 2000 by omega) (by decide), fin _ _ ?_ ?_⟩
          · funext k
            rw [List.take_add_one, hget]
            by_cases hk : 0 ≤ k
            · rw [decide_eq_true hk, Bool.true_and, Bool.true_and, Bool.or_assoc]
              congr 1
              by_cases hm : k.toNat ∈ (orb lay i).take c
              · rw [decide_eq_true hm, decide_eq_true (List.mem_append.mpr (.inl hm))]
                rfl
              · rw [decide_eq_false hm, Bool.false_or]
                by_cases hv : k = (((orb lay i).getD c 0 : Nat) : Int)
                · rw [decide_eq_true hv, decide_eq_true (List.mem_append.mpr (.inr (by rw [hv, Int.toNat_natCast]; exact List.mem_singleton.mpr rfl)))]
                · rw [decide_eq_false hv, decide_eq_false (fun z => (List.mem_append.mp z).elim hm fun y => hv (by have := List.mem_singleton.mp y; omega))]
            · rw [decide_eq_false hk, Bool.false_and, Bool.false_and, Bool.false_or]
              exact decide_eq_false (fun z => hk (by omega))
          · split <;> omega
        · obtain ⟨y4, n', rfl, g1, g2, g3, g4, g5, g6⟩ := hP
          refine ⟨_, y4, ys ++ [.ref p], n', rfl, g1, g4, hT2.keep g2, ?_, by omega⟩
          rw [hlo, List.take_of_length_le (by omega)] at g5
          have e : (fun k : Int => (0 ≤ k : Bool) && (inB lay i k.toNat || decide (k.toNat ∈ orb lay i))) = fun k => (0 ≤ k : Bool) && inB lay (i + 1) k.toNat := by
            funext k
            rw [inB_succ]
          rw [← e]
          exact g5
      · have hold : inB lay i i = true := by simpa using hb
        refine ⟨_, y4, ys, n, rfl, eH.trans e1, e1 _ _ ht, ?_, ?_, by omega⟩
        · rw [cycs_succ, hold]
          exact hT.keep (KeepT.ex e1)
        · have e : (fun k : Int => (0 ≤ k : Bool) && inB lay (i + 1) k.toNat) = fun k => (0 ≤ k : Bool) && inB lay i k.toNat := by
            funext k
            rw [hL.old hi' hold]
          rw [e]
          exact e1 _ _ hs
    · obtain ⟨y3, y4, ys, n, rfl, eH, ht, hT, hs, hn⟩ := hP
      rw [Int.toNat_natCast] at hT
      exact s_ret (v := .ref t) (ev_var rfl) fun H2 e2 => q t ys H2 nta (eH.trans e2) (e2 _ _ ht) (hT.keep (KeepT.ex e2))
end
end Kw
set_option Elab.async false
set_option linter.all false
set_option maxRecDepth 100000
set_option maxHeartbeats 4000000
namespace Kw
open PySem PySem.Spec PyProof.Rows L2 Evl
abbrev sCell : Stmt := topS 27
theorem scCell : FnScope ["script", "k"] ["script", "k"] (defScope sCell) := ⟨rfl, rfl, rfl, by decide +kernel, rfl, by decide +kernel, by decide +kernel⟩
abbrev sDraw : Stmt := topS 28
theorem scDraw : FnScope ["cell", "many", "size", "found", "rest", "stirred", "k"] ["cell", "many", "size"] (defScope sDraw) := ⟨rfl, rfl, rfl, by decide +kernel, rfl, by decide +kernel, by decide +kernel⟩
abbrev sBag : Stmt := topS 31
theorem scBag : FnScope ["script", "k"] ["script", "k"] (defScope sBag) := ⟨rfl, rfl, rfl, by decide +kernel, rfl, by decide +kernel, by decide +kernel⟩
abbrev sBags : Stmt := topS 32
theorem scBags : FnScope ["script", "limit", "k"] ["script", "limit"] (defScope sBags) := ⟨rfl, rfl, rfl, by decide +kernel, rfl, by decide +kernel, by decide +kernel⟩
abbrev sTake : Stmt := topS 33
theorem scTake : FnScope ["bag", "many"] ["bag", "many"] (defScope sTake) := ⟨rfl, rfl, rfl, by decide +kernel, rfl, by decide +kernel, by decide +kernel⟩
abbrev BuL (mg : Str → Option Value) : Prop := Bu mg
def DrawsOk (xs : List Int) : Prop := xs.length = 400 ∧ ∀ x ∈ xs, 0 ≤ x ∧ x < 1000
def Bag (H : Hp) (a : Addr) : Prop := ∃ (d : Addr) (n : Int) (xs : List Int), H a = some (.lst [.ref d, .int n]) ∧ H d = some (.lst (xs.map V.int)) ∧ DrawsOk xs
/-- all stays but what lies at a -/
def ExB (a : Addr) (H H' : Hp) : Prop := ∀ b o, b ≠ a → H b = some o → H' b = some o
theorem ExB.refl (a : Addr) (H : Hp) : ExB a H H := fun _ _ _ h => h
theorem ExB.trans {a : Addr} {H H1 H2 : Hp} (x : ExB a H H1) (y : ExB a H1 H2) : ExB a H H2 := fun b o n h => y b o n (x b o n h)
theorem ExB.of {a : Addr} {H H' : Hp} (e : Ex H H') : ExB a H H' := fun b o _ h => e b o h
theorem Bag.ex {H H' : Hp} {a : Addr} (e : Ex H H') (h : Bag H a) : Bag H' a := by
  obtain ⟨d, n, xs, h1, h2, h3⟩ := h
  exact ⟨d, n, xs, e _ _ h1, e _ _ h2, h3⟩
theorem Bag.keepT {H H' : Hp} {a : Addr} (h : Bag H a) (e : ExB a H H') : KeepT H H' := fun b xs r => by
  obtain ⟨d, n, ys, h1, _⟩ := h
  have nb : b ≠ a := by
    rintro rfl
    rcases r with r | ⟨o, r⟩
    · rw [h1] at r; cases r
    · rw [h1] at r; cases r
  rcases r with r | ⟨o, r⟩
  · exact .inl (e _ _ nb r)
  · exact .inr ⟨o, e _ _ nb r⟩
section
variable {P : Program} {w : World} {K : PySem.W.Frag} {mg : Str → Option Value} {base : Heap}
/-! ### _law_cell_at -/
def spCell (K : PySem.W.Frag) : Sp := fun vs H Q _ => ∃ (a : Addr) (ns : List Int) (k : Nat), vs = [.ref a, vN k] ∧ SqL K H a (ns.map V.int) ∧ ∀ c H2, Ex H H2 → Q (.int c) H2
theorem ok_cell {f : Addr} {fd : FuncData} {k : Nat} (F : Fun K "_law_cell_at" "_law_cell_at" sCell f fd) (B : Bu mg) : FnOk P w K mg base CX0 (k + 1) f fd ["script", "k"] (spCell K) := by
  refine F.ok scCell (fun vs H Q E h => ?_) (fun cdv A outer s H vs Q E hr h => ?_)
  · obtain ⟨a, ns, k, rfl, _⟩ := h
    rfl
  · obtain ⟨a, ns, k, rfl, hS, q⟩ := h
    refine ⟨_, pss_cons (ps_if (pt_cmpR op_lt (pv 1) (pe_callB call_len_seq (by rfl) B.len PySem.boot_len (pa_cons (pv 0) pa_nil)) (nomark _)) (pss_one (ps_ret (pe_ix ix_list (pv 0) (pv 1) (fun _ _ => rfl)))) pss_nil) (pss_one (ps_ret pe_int)), ?_⟩
    refine q_when (b := decide ((k : Int) < ((ns.map V.int).length : Nat))) (et_test (ev_op (ev_var (v := vN k) rfl) (ev_len (K := K) (ev_var (v := .ref a) rfl) hS) rv_I0)) (fun hb H1 e1 => ?_) (fun hb H1 e1 => q 0 H1 e1)
    have hk : k < ns.length := by
      have := of_decide_eq_true hb
      rw [List.length_map] at this
      omega
    exact s_ret (ev_op (ev_var (v := .ref a) rfl) (ev_var (v := vN k) rfl) (rv_ixL (v := .int ns[k]) (ex_l e1 hS) (atI_nat (by rw [List.getElem?_map, List.getElem?_eq_getElem hk]; rfl)))) fun H2 e2 => q _ H2 (e1.trans e2)
/-! ### _law_draws -/
def DrawI (H : Hp) (p : Addr) (c : Int) (i : Nat) (σ' : L2.St) (H' : Hp) : Prop := ∃ (rest st : Int) (y : Option V) (xs : List Int), σ' = [some (.int c), some (.int 400), some (.int 1000), some (.ref p), some (.int rest), some (.int st), y] ∧ Ex H H' ∧ H' p = some (.lst (xs.map V.int)) ∧ xs.length = i - 3 ∧ (∀ x ∈ xs, 0 ≤ x ∧ x < 1000) ∧ 0 ≤ st ∧ st < 2305843009213693951
theorem DrawI.grow {H H' : Hp} {p : Addr} {c rest st v : Int} {i : Nat} {y : Option V} {xs : List Int} (np : H p = none) (e : Ex H H') (h2 : 2 < i) (hl : xs.length = i - 3) (hall : ∀ x ∈ xs, 0 ≤ x ∧ x < 1000) (v0 : 0 ≤ v) (v1 : v < 1000) (s0 : 0 ≤ st) (s1 : st < 2305843009213693951) :
    DrawI H p c (i + 1) [some (.int c), some (.int 400), some (.int 1000), some (.ref p), some (.int rest), some (.int st), y] (upd H' p (.lst (xs.map V.int ++ [.int v]))) := by
  refine ⟨rest, st, y, xs ++ [v], rfl, Ex.mut e np, ?_, by rw [List.length_append, List.length_singleton]; omega, fun x hx => ?_, s0, s1⟩
  · rw [upd_same, List.map_append]
    rfl
  · rcases List.mem_append.mp hx with h | h
    · exact hall x h
    · rw [List.mem_singleton.mp h]
      exact ⟨v0, v1⟩
def spDraw (K : PySem.W.Frag) : Sp := fun vs H Q _ => ∃ c : Int, vs = [.int c, .int 400, .int 1000] ∧ ∀ p xs H2, H p = none → Ex H H2 → H2 p = some (.lst (xs.map V.int)) → DrawsOk xs → Q (.ref p) H2
theorem ok_draw {f : Addr} {fd : FuncData} {k : Nat} (F : Fun K "_law_draws" "_law_draws" sDraw f fd) (B : Bu mg) (BL : BuL mg) : FnOk P w K mg base CX0 (k + 1) f fd ["cell", "many", "size"] (spDraw K) := by
  refine F.ok scDraw (fun vs H Q E h => ?_) (fun cdv A outer s H vs Q E hr h => ?_)
  · obtain ⟨c, rfl, _⟩ := h
    rfl
  · obtain ⟨c, rfl, q⟩ := h
    refine ⟨_, pss_cons (ps_set (i := 3) scDraw.nd rfl (.inl rfl) (pe_lst pa_nil))
      (pss_cons (ps_set (i := 4) scDraw.nd rfl (.inl rfl) (pe_op op_mul (pv 0) (pe_callTy call_int1 (by rfl) BL.int PyProof.Rows.boot_int (pa_cons (pe_cmpR op_ge (pv 0) (pe_op op_pow pe_int pe_int) (nomark _)) pa_nil))))
      (pss_cons (ps_set (i := 5) scDraw.nd rfl (.inl rfl) (pe_op op_mod (pv 0) pe_int))
      (pss_cons (ps_for PassesOwn.never rfl (pi_range1 (by rfl) B.rng (pa_cons (pe_op op_add (pv 1) pe_int) pa_nil)) (pg_name (i := 6) scDraw.nd rfl (.inl rfl))
        (pss_cons (ps_set (i := 5) scDraw.nd rfl (.inl rfl) (pe_op op_mod (pe_op op_add (pe_op op_add (pe_op op_add (pe_op op_mul (pv 5) (pv 5)) (pe_op op_mul pe_int (pv 5))) (pv 6)) pe_int) pe_int))
        (pss_one (ps_if (pw_and (pt_cmpR op_gt (pv 6) pe_int (nomark _)) (pw_and1 (pt_cmpR op_gt (pv 4) pe_int (nomark _)))).pt
          (pss_cons (ps_expr (pe_bm PySem.F.plainAttrs_list PySem.F.slot_list_append PySem.F.type_list_append mt_append (pv 3) (pa_cons (pe_op op_mod (pv 4) (pv 2)) pa_nil)))
            (pss_one (ps_set (i := 4) scDraw.nd rfl (.inl rfl) (pe_op op_fdiv (pv 4) (pv 2)))))
          (pss_one (ps_if (pt_cmpR op_gt (pv 6) pe_int (nomark _)) (pss_one (ps_expr (pe_bm PySem.F.plainAttrs_list PySem.F.slot_list_append PySem.F.type_list_append mt_append (pv 3) (pa_cons (pe_op op_mod (pe_op op_fdiv (pv 5) pe_int) (pv 2)) pa_nil)))) pss_nil))))))
      (pss_one (ps_ret (pv 3)))))), ?_⟩
    refine q_asgL (xs := []) (el_lst ea_nil (by decide)) fun p H1 np e1 hp => ?_
    have t10 : ∀ {σ : L2.St} {H : Hp}, Ev (tOp (rI CPow fun i j => .int (i ^ j.toNat)) (tC (.int 10)) (tC (.int 18))) σ H (.int ((10 : Int) ^ (18 : Int).toNat)) := fun {σ H} => ev_op ev_c ev_c (rv_I ⟨by decide, by decide, by decide⟩)
    refine q_asg (v := .int (c * (if decide ((10 : Int) ^ (18 : Int).toNat ≤ c) then 1 else 0))) (ev_op (ev_var (v := .int c) rfl) (ev_cb (ea_cons (ev_op (ev_var (v := .int c) rfl) t10 rv_I0) ea_nil) (z := .int (if decide ((10 : Int) ^ (18 : Int).toNat ≤ c) then 1 else 0)) (fun H2 _ Q q => .inr ⟨_, rfl, q H2 (Ex.refl H2)⟩)) (rv_I (.inr ?_))) fun H2 e2 => ?_
    · split <;> exact ⟨by decide, by decide⟩
    refine q_asg (v := .int (c % 2305843009213693951)) (ev_op (ev_var (v := .int c) rfl) ev_c (rv_I (by decide))) fun H3 e3 => ?_
    refine q_forR1 (n := 403) (ea_cons (ev_op (ev_var (v := .int 400) rfl) ev_c rv_I0) ea_nil) (by decide) (DrawI H p c)
      (fun H4 e4 => ⟨_, _, none, [], rfl, ((e1.trans e2).trans e3).trans e4, ((e2.trans e3).trans e4) _ _ hp, rfl, by simp, Int.emod_nonneg _ (by decide), Int.emod_lt_of_pos _ (by decide)⟩) (fun i σ' H' hi hP => ?_) (fun σ' H' hP => ?_)
    · obtain ⟨rest, st, y, xs, rfl, eH, hp', hlen, hall, s0, s1⟩ := hP
      refine q_asg (v := .int ((st * st + 48271 * st + (i : Int) + 1) % 2305843009213693951)) (ev_op (ev_op (ev_op (ev_op (ev_op (ev_var (v := .int st) rfl) (ev_var (v := .int st) rfl) (rv_I (.inl ⟨by omega, by omega⟩))) (ev_op ev_c (ev_var (v := .int st) rfl) (rv_I (.inl ⟨by decide, by decide⟩))) rv_I0) (ev_var (v := .int (i : Int)) rfl) rv_I0) ev_c rv_I0) ev_c (rv_I (by decide))) fun H5 e5 => ?_
      generalize hst : (st * st + 48271 * st + (i : Int) + 1) % 2305843009213693951 = st2
      have z0 : 0 ≤ st2 := by rw [← hst]; exact Int.emod_nonneg _ (by decide)
      have z1 : st2 < 2305843009213693951 := by rw [← hst]; exact Int.emod_lt_of_pos _ (by decide)
      have hxl : (xs.map V.int).length < 100000 := by
        rw [List.length_map]
        omega
      refine s_if (b := decide ((2 : Int) < (i : Int)) && decide (0 < rest)) (et_and (et_test (ev_op (ev_var (v := .int (i : Int)) rfl) ev_c rv_gt)) fun _ => et_test (ev_op (ev_var (v := .int rest) rfl) ev_c rv_gt)) (fun hb H6 e6 => ?_) (fun hb H6 e6 => ?_)
      · have hb' := Bool.and_eq_true_iff.mp hb
        have h2 : 2 < i := by
          have := of_decide_eq_true hb'.1
          omega
        refine q_app (K := K) (l := p) ((e5.trans e6) _ _ hp') (ev_var (v := .ref p) rfl) (v := .int (rest % 1000)) (ev_op (ev_var (v := .int rest) rfl) (ev_var (v := .int 1000) rfl) (rv_I (by decide))) hxl fun H7 e7 => ?_
        refine s_asg (v := .int (rest / 1000)) (ev_op (ev_var (v := .int rest) rfl) (ev_var (v := .int 1000) rfl) (rv_I ⟨by decide, by decide⟩)) fun H8 e8 => ?_
        have g := DrawI.grow (c := c) (rest := rest / 1000) (y := some (.int (i : Int))) np (((eH.trans e5).trans e6).trans e7) h2 hlen hall (Int.emod_nonneg rest (by decide : (1000 : Int) ≠ 0)) (Int.emod_lt_of_pos rest (by decide : (0 : Int) < 1000)) z0 z1
        obtain ⟨r', s', y', xs', g1, g2, g3, g4⟩ := g
        exact ⟨r', s', y', xs', g1, g2.trans e8, e8 _ _ g3, g4⟩
      · refine s_when (b := decide ((2 : Int) < (i : Int))) (et_test (ev_op (ev_var (v := .int (i : Int)) rfl) ev_c rv_gt)) (fun hb2 H7 e7 => ?_) (fun hb2 H7 e7 => ?_)
        · have h2 : 2 < i := by
            have := of_decide_eq_true hb2
            omega
          refine s_app (K := K) (l := p) (((e5.trans e6).trans e7) _ _ hp') (ev_var (v := .ref p) rfl) (v := .int (st2 / 4096 % 1000)) (ev_op (ev_op (ev_var (v := .int st2) rfl) ev_c (rv_I ⟨by decide, by decide⟩)) (ev_var (v := .int 1000) rfl) (rv_I (by decide))) hxl fun H8 e8 => ?_
          exact DrawI.grow np ((((eH.trans e5).trans e6).trans e7).trans e8) h2 hlen hall (Int.emod_nonneg _ (by decide : (1000 : Int) ≠ 0)) (Int.emod_lt_of_pos _ (by decide : (0 : Int) < 1000)) z0 z1
        · have h2 : ¬ 2 < i := by
            have := of_decide_eq_false hb2
            omega
          exact ⟨rest, st2, _, xs, rfl, (((eH.trans e5).trans e6).trans e7), ((e5.trans e6).trans e7) _ _ hp', by omega, hall, z0, z1⟩
    · obtain ⟨rest, st, y, xs, rfl, eH, hp', hlen, hall, s0, s1⟩ := hP
      exact ⟨.ref p, rfl, q p xs H' np eH hp' ⟨hlen, hall⟩⟩
end
end Kw
set_option Elab.async false
set_option linter.all false
set_option maxRecDepth 100000
set_option maxHeartbeats 4000000
namespace Kw
open PySem PySem.Spec PyProof.Rows L2 Evl
section
variable {P : Program} {w : World} {K : PySem.W.Frag} {mg : Str → Option Value} {base : Heap}
/-! ### _law_bag -/
def spBag (K : PySem.W.Frag) : Sp := fun vs H Q _ => ∃ (a : Addr) (ns : List Int) (k : Nat), vs = [.ref a, vN k] ∧ SqL K H a (ns.map V.int) ∧ ∀ p d xs H2, H p = none → H d = none → Ex H H2 → H2 p = some (.lst [.ref d, .int 0]) → H2 d = some (.lst (xs.map V.int)) → DrawsOk xs → Q (.ref p) H2
theorem ok_bag {f fC fD : Addr} {fd fdC fdD : FuncData} {k : Nat} (F : Fun K "_law_bag" "_law_bag" sBag f fd) (DC : Df K mg "_law_cell_at" sCell ["script", "k"] fC fdC) (DD : Df K mg "_law_draws" sDraw ["cell", "many", "size"] fD fdD)
    (GC : FnOk P w K mg base CX0 (k + 1) fC fdC ["script", "k"] (spCell K)) (GD : FnOk P w K mg base CX0 (k + 1) fD fdD ["cell", "many", "size"] (spDraw K)) : FnOk P w K mg base CX0 (k + 2) f fd ["script", "k"] (spBag K) := by
  refine F.ok scBag (fun vs H Q E h => ?_) (fun cdv A outer s H vs Q E hr h => ?_)
  · obtain ⟨a, ns, k, rfl, _⟩ := h
    rfl
  · obtain ⟨a, ns, k, rfl, hS, q⟩ := h
    refine ⟨_, pss_one (ps_ret (pe_lst (pa_cons (pcall DD GD hr (pa_cons (pcall DC GC hr (pa_cons (pv 0) (pa_cons (pv 1) pa_nil))) (pa_cons pe_int (pa_cons pe_int pa_nil)))) (pa_cons pe_int pa_nil)))), ?_⟩
    refine ⟨.ref a, rfl, vN k, rfl, a, ns, k, rfl, hS, fun c H2 e2 => ?_⟩
    refine ⟨c, rfl, fun p xs H3 np e3 h3 ho => ⟨by show 2 ≤ sizeLine; decide, fun b nb => ?_⟩⟩
    have e4 := Ex.new (o := .lst [.ref p, .int 0]) nb
    exact q b p xs _ (fresh_back (e2.trans e3) nb) (fresh_back e2 np) ((e2.trans e3).trans e4) upd_same (e4 _ _ h3) ho
/-! ### _law_bags -/
def BagsAt (H : Hp) (ys : List V) : Prop := ∀ y ∈ ys, ∃ a, y = .ref a ∧ Bag H a
theorem BagsAt.ex {H H' : Hp} {ys : List V} (e : Ex H H') (h : BagsAt H ys) : BagsAt H' ys := fun y hy => by
  obtain ⟨a, h1, h2⟩ := h y hy
  exact ⟨a, h1, h2.ex e⟩
def spBags (K : PySem.W.Frag) (lim : Nat) : Sp := fun vs H Q _ => ∃ (a : Addr) (ns : List Int), vs = [.ref a, vN lim] ∧ SqL K H a (ns.map V.int) ∧ ns.length ≤ 1000 ∧ ∀ p ys H2, H p = none → Ex H H2 → H2 p = some (.lst ys) → BagsAt H2 ys → (∀ y ∈ ys, y ≠ .ref p) → ys.length ≤ lim → Q (.ref p) H2
/-- the lists made on the way stay apart from the list that is made of them -/
theorem ok_bags {f fB : Addr} {fd fdB : FuncData} {k lim : Nat} (hlim : 1 ≤ lim ∧ lim ≤ 1000) (F : Fun K "_law_bags" "_law_bags" sBags f fd) (B : Bu mg) (BL : BuL mg) (DB : Df K mg "_law_bag" sBag ["script", "k"] fB fdB)
    (GB : FnOk P w K mg base CX0 (k + 2) fB fdB ["script", "k"] (spBag K)) : FnOk P w K mg base CX0 (k + 3) f fd ["script", "limit"] (spBags K lim) := by
  refine F.ok scBags (fun vs H Q E h => ?_) (fun cdv A outer s H vs Q E hr h => ?_)
  · obtain ⟨a, ns, rfl, _⟩ := h
    rfl
  · obtain ⟨a, ns, rfl, hS, hl, q⟩ := h
    refine ⟨_, pss_one (ps_ret (pe_lc (own := [("k", 2)]) (g := gName 2) (tt := tYes) (te := tCall (spBag K) [] E0 (tCons (tVar 0) (tCons (tVar 2) tNil))) rfl scBags.nd
        (pi_range1 (by rfl) B.rng (pa_cons (pe_callB (call_max2 rfl) (by rfl) BL.max PyProof.Rows.boot_max (pa_cons pe_int (pa_cons (pe_callB (call_min2 rfl) (by rfl) BL.min PyProof.Rows.boot_min (pa_cons (pv 1) (pa_cons (pe_callB call_len_seq (by rfl) B.len PySem.boot_len (pa_cons (pv 0) pa_nil)) pa_nil))) pa_nil))) pa_nil))
        (blkOk_by (N := ["script", "limit", "k"]) (sc := defScope sBags) (by decide +kernel)) (fun _ _ _ _ _ => pg_name (i := 2) scBags.nd rfl (.inl rfl)) (fun _ _ _ _ _ => pts_nil) (fun _ _ _ _ _ => pcall DB GB hr (pa_cons (pv 0) (pa_cons (pv 2) pa_nil))))), ?_⟩
    have hn : ∃ n : Nat, n ≤ lim ∧ (if (if ((ns.map V.int).length : Int) < (lim : Int) then ((ns.map V.int).length : Int) else (lim : Int)) > 1 then (if ((ns.map V.int).length : Int) < (lim : Int) then ((ns.map V.int).length : Int) else (lim : Int)) else 1) = (n : Int) := by
      split <;> split
      · exact ⟨(ns.map V.int).length, by omega, rfl⟩
      · exact ⟨1, by omega, rfl⟩
      · exact ⟨lim, by omega, rfl⟩
      · exact ⟨1, by omega, rfl⟩
    obtain ⟨n, hn1, hn2⟩ := hn
    refine ⟨vN lim, rfl, .ref a, rfl, a, _, rfl, .inl hS, (lim : Int), _, rfl, 1, _, rfl, _, rfl, ?_⟩
    rw [hn2]
    refine ⟨by omega, by omega, fun D hD => ?_⟩
    rw [Int.toNat_natCast]
    refine lc_it (walk_rng0 (n := n)) (Pv := fun i H' => Ex H H' ∧ ∃ ys : List V, H' D = some (.lst ys) ∧ ys.length = i ∧ ∀ y ∈ ys, ∃ a d n xs, y = .ref a ∧ a ≠ D ∧ d ≠ D ∧ H' a = some (.lst [.ref d, .int n]) ∧ H' d = some (.lst (xs.map V.int)) ∧ DrawsOk xs) ⟨Ex.new hD, [], upd_same, rfl, by simp⟩
      (fun _ _ _ _ => trivial) (fun i x H' H2 hi p y => ?_) (fun H' p => ?_)
    · obtain ⟨p1, ys, p2, p3, p4⟩ := p
      obtain ⟨rfl, rfl⟩ := y
      refine ⟨rfl, yes_do ?_⟩
      refine ⟨.ref a, rfl, vN i, rfl, a, ns, i, rfl, ex_l p1 hS, fun p d xs H3 np nd e3 h3 h3' ho => ?_⟩
      have hD3 : H3 D = some (.lst ys) := e3 _ _ p2
      have npD : p ≠ D := fun z => by
        rw [z, p2] at np
        cases np
      have ndD : d ≠ D := fun z => by
        rw [z, p2] at nd
        cases nd
      refine ⟨ys, hD3, sz_lt (by omega), Ex.mut (p1.trans e3) hD, ys ++ [.ref p], upd_same, by rw [List.length_append, List.length_singleton, p3], fun y hy => ?_⟩
      rcases List.mem_append.mp hy with h | h
      · obtain ⟨a', d', n', xs', r1, r2, r3, r4, r5, r6⟩ := p4 y h
        exact ⟨a', d', n', xs', r1, r2, r3, by rw [upd_ne r2]; exact e3 _ _ r4, by rw [upd_ne r3]; exact e3 _ _ r5, r6⟩
      · rw [List.mem_singleton.mp h]
        exact ⟨p, d, 0, xs, rfl, npD, ndD, by rw [upd_ne npD]; exact h3, by rw [upd_ne ndD]; exact h3', ho⟩
    · obtain ⟨p1, ys, p2, p3, p4⟩ := p
      refine q D ys H' hD p1 p2 (fun y hy => ?_) (fun y hy z => ?_) (by omega)
      · obtain ⟨a', d', n', xs', r1, r2, r3, r4, r5, r6⟩ := p4 y hy
        exact ⟨a', r1, d', n', xs', r4, r5, r6⟩
      · obtain ⟨a', d', n', xs', r1, r2, r3, r4, r5, r6⟩ := p4 y hy
        rw [r1] at z
        exact r2 (V.ref.inj z)
theorem ExB.back {a : Addr} {H H' : Hp} (e : ExB a H H') (h : Bag H' a) {b : Addr} (hb : H' b = none) : H b = none := by
  obtain ⟨d, n, xs, h1, _⟩ := h
  cases q : H b with
  | none => rfl
  | some o =>
    have nb : b ≠ a := fun z => by
      rw [z, h1] at hb
      cases hb
    rw [e b o nb q] at hb
    cases hb
/-! ### _law_take -/
def spTake (K : PySem.W.Frag) : Sp := fun vs H Q _ => ∃ (a : Addr) (m : Int), vs = [.ref a, .int m] ∧ Bag H a ∧ 0 < m ∧ ∀ r H', 0 ≤ r → r < m → ExB a H H' → Bag H' a → Q (.int r) H'
theorem ok_take {f : Addr} {fd : FuncData} {k : Nat} (F : Fun K "_law_take" "_law_take" sTake f fd) (B : Bu mg) : FnOk P w K mg base CX0 (k + 1) f fd ["bag", "many"] (spTake K) := by
  refine F.ok scTake (fun vs H Q E h => ?_) (fun cdv A outer s H vs Q E hr h => ?_)
  · obtain ⟨a, m, rfl, _⟩ := h
    rfl
  · obtain ⟨a, m, rfl, ⟨d, n, xs, h1, h2, h3⟩, hm, q⟩ := h
    refine ⟨_, pss_cons (ps_asg (pe_op op_add (pe_ix ix_list (pv 0) pe_int (fun _ _ => rfl)) pe_int) (pg_sub (pv 0) pe_int set_list))
      (pss_one (ps_ret (pe_op op_mod (pe_ix ix_list (pe_ix ix_list (pv 0) pe_int (fun _ _ => rfl)) (pe_op op_mod (pe_ix ix_list (pv 0) pe_int (fun _ _ => rfl)) (pe_callB call_len_seq (by rfl) B.len PySem.boot_len (pa_cons (pe_ix ix_list (pv 0) pe_int (fun _ _ => rfl)) pa_nil))) (fun _ _ => rfl)) (pv 1)))), ?_⟩
    have nad : d ≠ a := fun z => by
      rw [z, h1] at h2
      have := HO.lst.inj (Option.some.inj h2)
      have := congrArg List.length this
      rw [List.length_map, h3.1] at this
      simp at this
    refine q_setL (l := a) (xs := [.ref d, .int n]) (j := 1) (v := .int (n + 1)) h1 (ev_op (ev_op (ev_var (v := .ref a) rfl) ev_c (rv_ixL (K := K) (sq_of h1) at1)) ev_c rv_I0) (ev_var rfl) ev_c (by show 1 < 2; decide) fun H1 e1 => ?_
    have g1 : upd H1 a (.lst ([V.ref d, .int n].set 1 (.int (n + 1)))) a = some (.lst [.ref d, .int (n + 1)]) := upd_same
    have g2 : upd H1 a (.lst ([V.ref d, .int n].set 1 (.int (n + 1)))) d = some (.lst (xs.map V.int)) := by
      rw [upd_ne nad]
      exact e1 _ _ h2
    have g3 : ExB a H (upd H1 a (.lst ([V.ref d, .int n].set 1 (.int (n + 1))))) := fun b o nb hb => by
      rw [upd_ne nb]
      exact e1 _ _ hb
    generalize upd H1 a (.lst ([V.ref d, .int n].set 1 (.int (n + 1)))) = G at g1 g2 g3
    have hlen : (xs.map V.int).length = 400 := by rw [List.length_map, h3.1]
    have r0 : 0 ≤ (n + 1) % 400 := Int.emod_nonneg _ (by decide)
    have r1 : (n + 1) % 400 < 400 := Int.emod_lt_of_pos _ (by decide)
    obtain ⟨j, hj⟩ := Int.eq_ofNat_of_zero_le r0
    have hj' : j < xs.length := by
      rw [h3.1]
      omega
    have ed : Ev (tOp (rIxL K) (tVar 0) (tC (.int 0))) [some (.ref a), some (.int m)] G (.ref d) := ev_op (ev_var (v := .ref a) rfl) ev_c (rv_ixL (K := K) (sq_of g1) at0)
    refine s_ret (v := .int (xs[j] % m)) (ev_op (ev_op ed (ev_is (w := .int (j : Int)) (ev_op (ev_op (ev_var (v := .ref a) rfl) ev_c (rv_ixL (K := K) (sq_of g1) at1)) (ev_len (K := K) ed (sq_of g2)) (rv_I ?_)) ?_) (rv_ixL (K := K) (v := .int xs[j]) (sq_of g2) (atI_nat (by rw [List.getElem?_map, List.getElem?_eq_getElem hj']; rfl)))) (ev_var (v := .int m) rfl) (rv_I hm)) fun H2 e2 => ?_
    · rw [hlen]
      decide
    · rw [hlen]
      show V.int ((n + 1) % 400) = _
      rw [hj]
    · exact q _ H2 (Int.emod_nonneg _ (by omega)) (Int.emod_lt_of_pos _ hm) (g3.trans (ExB.of e2)) ⟨d, n + 1, xs, e2 _ _ g1, e2 _ _ g2, h3⟩
end
end Kw
set_option Elab.async false
set_option linter.all false
set_option maxRecDepth 100000
set_option maxHeartbeats 4000000
namespace Kw
open PySem PySem.Spec PyProof.Rows L2 Evl
abbrev sLFr : Stmt := topS 30
theorem scLFr : FnScope ["thing", "least", "top"] ["thing", "least", "top"] (defScope sLFr) := ⟨rfl, rfl, rfl, by decide +kernel, rfl, by decide +kernel, by decide +kernel⟩
abbrev sMix : Stmt := topS 34
theorem scMix : FnScope ["bag", "many", "found", "one"] ["bag", "many"] (defScope sMix) := ⟨rfl, rfl, rfl, by decide +kernel, rfl, by decide +kernel, by decide +kernel⟩
abbrev sLaid : Stmt := topS 37
theorem scLaid : FnScope ["bag", "many", "one"] ["bag", "many"] (defScope sLaid) := ⟨rfl, rfl, rfl, by decide +kernel, rfl, by decide +kernel, by decide +kernel⟩
abbrev sCyc : Stmt := topS 36
theorem scCyc : FnScope ["laying", "found", "seen", "box", "row", "here"] ["laying"] (defScope sCyc) := ⟨rfl, rfl, rfl, by decide +kernel, rfl, by decide +kernel, by decide +kernel⟩
abbrev sLIL : Stmt := topS 39
theorem scLIL : FnScope ["thing", "one"] ["thing"] (defScope sLIL) := ⟨rfl, rfl, rfl, by decide +kernel, rfl, by decide +kernel, by decide +kernel⟩
section
variable {P : Program} {w : World} {K : PySem.W.Frag} {mg : Str → Option Value} {base : Heap} {H : Hp} {σ : L2.St}
/-! ### _law_from -/
def fromD (lo hi : Int) : PyData → Bool
  | .int i => decide (lo ≤ i) && decide (i ≤ hi)
  | _ => false
def spLFr (K : PySem.W.Frag) : Sp := fun vs H Q _ => ∃ (v : V) (d : PyData) (lo hi : Int), vs = [v, .int lo, .int hi] ∧ Dp K H v d ∧ RetV (.bl (fromD lo hi d)) H Q
theorem ok_LFr {f  : Addr} {fd  : FuncData} {k : Nat} (F : Fun K "_law_from" "_law_from" sLFr f fd) (B : Bu mg) : FnOk P w K mg base CX0 (k + 1) f fd ["thing", "least", "top"] (spLFr K) := by
  refine F.ok scLFr (fun vs H Q E h => ?_) (fun cdv A outer s H vs Q E hr h => ?_)
  · obtain ⟨v, d, lo, hi, rfl, _⟩ := h
    rfl
  · obtain ⟨v, d, lo, hi, rfl, hd, q⟩ := h
    refine ⟨_, (pss_one (ps_ret (pe_and (pe_callB call_isi (by rfl) B.isi boot_isinstance (pa_cons (pv 0) (pa_cons (pe_bltn (v := .ty "int") (by rfl) B.int boot_int rfl) pa_nil))) (pe_and (pe_not (pe_callB call_isi (by rfl) B.isi boot_isinstance (pa_cons (pv 0) (pa_cons (pe_bltn (v := .ty "bool") (by rfl) B.bool (by decide +kernel) rfl) pa_nil)))) (pe_and (pe_cmpR op_le (pv 1) (pv 0) (nomark _)) (pe_one (pe_cmpR op_le (pv 0) (pv 2) (nomark _)))))))), ?_⟩
    have i1 : Ev (tCB (rIsi K) (tCons (tVar 0) (tCons (tC (.ty "int")) tNil))) [some v, some (.int lo), some (.int hi)] H (.bl (isIntD d || isBolD d)) := ev_isiD (K := K) (ev_var (v := v) rfl) ev_c hd (kit_int hd)
    have i2 : Ev (tNotV (tCB (rIsi K) (tCons (tVar 0) (tCons (tC (.ty "bool")) tNil)))) [some v, some (.int lo), some (.int hi)] H (.bl (!isBolD d)) := ev_notV (ev_isiD (K := K) (ev_var (v := v) rfl) ev_c hd (kit_bol hd))
    cases hi1 : isIntD d with
    | true =>
      cases d <;> first | cases hi1 | skip
      rename_i i
      cases hd
      refine s_ret (v := .bl (fromD lo hi (.int i))) (ev_is (ev_andV i1 fun _ => ev_andV i2 fun _ => ev_andV (ev_op (ev_var (v := .int lo) rfl) (ev_var (v := .int i) rfl) rv_le) fun _ => ev_op (ev_var (v := .int i) rfl) (ev_var (v := .int hi) rfl) rv_le) ?_) (fun H1 e1 => q H1 e1)
      show V.bl (true && (true && (decide (lo ≤ i) && decide (i ≤ hi)))) = V.bl (decide (lo ≤ i) && decide (i ≤ hi))
      rw [Bool.true_and, Bool.true_and]
    | false =>
      have hf : fromD lo hi d = false := by cases d <;> first | rfl | cases hi1
      rw [hf] at q
      rw [hi1, Bool.false_or] at i1
      cases hb : isBolD d with
      | true =>
        rw [hb] at i1 i2
        exact s_ret (v := .bl false) (ev_is (ev_andV i1 fun _ => ev_andV (b := false) i2 fun h => by cases h) rfl) (fun H1 e1 => q H1 e1)
      | false =>
        rw [hb] at i1
        exact s_ret (v := .bl false) (ev_is (ev_andV (b := false) i1 fun h => by cases h) rfl) (fun H1 e1 => q H1 e1)
/-! ### _law_is_laying -/
def spLIL (K : PySem.W.Frag) : Sp := fun vs H Q _ => ∃ (v : V) (d : PyData), vs = [v] ∧ Dp K H v d ∧ RetV (.bl (layD d)) H Q
theorem from_all {ds : List PyData} (n : Nat) : ds.all (fromD 0 ((n : Int) - 1)) = true ↔ ds.all isIntD = true ∧ ∀ i ∈ ds.map intOf, 0 ≤ i ∧ i < n := by
  induction ds with
  | nil => exact ⟨fun _ => ⟨rfl, fun i hi => by cases hi⟩, fun _ => rfl⟩
  | cons d r ih =>
    rw [List.all_cons, Bool.and_eq_true, ih, List.all_cons, Bool.and_eq_true]
    constructor
    · rintro ⟨h1, h2, h3⟩
      cases d <;> first | cases h1 | skip
      rename_i j
      have h1' : (decide ((0 : Int) ≤ j) && decide (j ≤ (n : Int) - 1)) = true := h1
      rw [Bool.and_eq_true, decide_eq_true_eq, decide_eq_true_eq] at h1'
      refine ⟨⟨rfl, h2⟩, fun i hi => ?_⟩
      rcases List.mem_cons.mp hi with hi | hi
      · have e : i = j := hi
        rw [e]
        exact ⟨h1'.1, by have := h1'.2; omega⟩
      · exact h3 i hi
    · rintro ⟨⟨h1, h2⟩, h3⟩
      cases d <;> first | cases h1 | skip
      rename_i j
      have := h3 j (List.mem_cons_self ..)
      refine ⟨?_, h2, fun i hi => h3 i (List.mem_cons_of_mem _ hi)⟩
      show (decide ((0 : Int) ≤ j) && decide (j ≤ (n : Int) - 1)) = true
      rw [decide_eq_true this.1, decide_eq_true (by omega)]
      rfl
theorem ok_LIL {f fLFr : Addr} {fd fdLFr : FuncData} {k : Nat} (F : Fun K "_law_is_laying" "_law_is_laying" sLIL f fd) (DLFr : Df K mg "_law_from" sLFr ["thing", "least", "top"] fLFr fdLFr) (GLFr : FnOk P w K mg base CX0 (k + 1) fLFr fdLFr ["thing", "least", "top"] (spLFr K)) (B : Bu mg) : FnOk P w K mg base CX0 (k + 2) f fd ["thing"] (spLIL K) := by
  refine F.ok scLIL (fun vs H Q E h => ?_) (fun cdv A outer s H vs Q E hr h => ?_)
  · obtain ⟨v, d, rfl, _⟩ := h
    rfl
  · obtain ⟨v, d, rfl, hd, q⟩ := h
    have hu64 := hr.units
    refine ⟨_, (pss_cons (ps_if (PW.pt (pw_or (pt_not (pt_val (pe_callB call_isi (by rfl) B.isi boot_isinstance (pa_cons (pv 0) (pa_cons (pe_bltn (v := .ty "tuple") (by rfl) B.tup boot_tuple rfl) pa_nil))))) (pw_or1 (pt_not (pt_chain op_le op_le pe_int (pe_callB call_len_seq (by rfl) B.len PySem.boot_len (pa_cons (pv 0) pa_nil)) pe_int))))) (pss_one (ps_ret pe_bl)) pss_nil)
      (pss_one (ps_ret (pe_and (pe_callB (cr_all rfl) (by rfl) B.all boot_all (pa_cons (pe_lc (own := [("one", 1)]) (g := (gName 1)) (tt := tYes) (te := (tCall (spLFr K) [] E0 (tCons (tVar 1) (tCons (tC (.int 0)) (tCons (tOp (rI0 fun i j => .int (i - j)) (tCB (rLenS K) (tCons (tVar 0) tNil)) (tC (.int 1))) tNil))))) rfl scLIL.nd (pi_tup (pv 0)) (blkOk_by (N := ["thing", "one"]) (sc := defScope sLIL) (by decide +kernel)) (fun _ _ _ _ _ => (pg_name (i := 1) scLIL.nd rfl (.inl rfl))) (fun _ _ _ _ _ => pts_nil) (fun _ _ _ _ _ => (pcall DLFr GLFr (hr.mono (by omega)) (pa_cons (pv 1) (pa_cons pe_int (pa_cons (pe_op op_sub (pe_callB call_len_seq (by rfl) B.len PySem.boot_len (pa_cons (pv 0) pa_nil)) pe_int) pa_nil)))))) pa_nil)) (pe_one (pe_cmpR op_eq (pe_callB KwZ.cr_lenSI (by rfl) B.len PySem.boot_len (pa_cons (pe_callTy (KwZ.cr_setIT rfl) (by rfl) B.set PyProof.Rows.boot_set (pa_cons (pv 0) pa_nil)) pa_nil)) (pe_callB call_len_seq (by rfl) B.len PySem.boot_len (pa_cons (pv 0) pa_nil)) (nomark _))))))), ?_⟩
    cases ht : isTupD d with
    | false =>
      rw [layD_not ht] at q
      exact q_when (b := true) (et_is (et_or (b := true) (et_not (et_B (ev_isiD (K := K) (ev_var (v := v) rfl) ev_c hd (kit_tup hd)))) fun h => absurd h (by rw [ht]; decide)) (by rw [ht]; rfl)) (fun _ H1 e1 => q H1 e1) (fun hb => absurd hb (by decide))
    | true =>
      cases d <;> first | cases ht | skip
      rename_i ds
      obtain ⟨a, xs, rfl, hS, hA⟩ := dp_tup_inv hd
      have hlen := dpA_len hA
      have hl : layD (.tuple ds) = ((decide (1 ≤ ds.length) && decide (ds.length ≤ 30)) && (ds.all isIntD && layI (ds.map intOf))) := rfl
      refine q_when (b := !true || !(decide (1 ≤ ds.length) && decide (ds.length ≤ 30))) (et_or (et_is (et_not (et_B (ev_isiD (K := K) (ev_var (v := .ref a) rfl) ev_c hd (kit_tup hd)))) rfl) fun _ => et_is (et_not (et_test (ev_chain ev_c (ev_lenT (K := K) (ev_var (v := .ref a) rfl) hS) ev_c rv_le rv_le))) ?_) (fun hb H1 e1 => ?_) (fun hb H1 e1 => ?_)
      · rw [hlen]
        show (!(decide (((1 : Nat) : Int) ≤ ((ds.length : Nat) : Int)) && decide (((ds.length : Nat) : Int) ≤ ((30 : Nat) : Int)))) = _
        rw [decLe, decLe]
      · have : (decide (1 ≤ ds.length) && decide (ds.length ≤ 30)) = false := nb1 hb
        rw [hl, this] at q
        exact q H1 e1
      · have h30 : (decide (1 ≤ ds.length) && decide (ds.length ≤ 30)) = true := nb0 hb
        rw [hl, h30, Bool.true_and] at q
        have hle : ds.length ≤ 30 := by
          rw [Bool.and_eq_true, decide_eq_true_eq, decide_eq_true_eq] at h30
          exact h30.2
        have key : (ds.all isIntD && layI (ds.map intOf)) = (ds.all (fromD 0 ((ds.length : Int) - 1)) && layI (ds.map intOf)) := by
          cases h1 : ds.all (fromD 0 ((ds.length : Int) - 1)) with
          | true => rw [((from_all ds.length).mp h1).1]
          | false =>
            rw [Bool.false_and]
            cases h2 : ds.all isIntD with
            | false => rfl
            | true =>
              rw [Bool.true_and]
              cases h3 : layI (ds.map intOf) with
              | false => rfl
              | true =>
                have hp := layI_iff.mp h3
                have : ds.all (fromD 0 ((ds.length : Int) - 1)) = true := (from_all ds.length).mpr ⟨h2, fun i hi => by
                  have := mem_rgI.mp (hp.mem_iff.mp hi)
                  rw [List.length_map] at this
                  exact this⟩
                rw [h1] at this
                cases this
        rw [key] at q
        refine s_ret (v := .bl (ds.all (fromD 0 ((ds.length : Int) - 1)) && layI (ds.map intOf))) (ev_andV (ev_is (ev_all (K := K) (bs := ds.map (fromD 0 ((ds.length : Int) - 1))) (el_lc (ew_tup (ev_var (v := .ref a) rfl) (ex_t e1 hS)) (by omega) (fun _ => true) (fun i => V.bl (fromD 0 ((ds.length : Int) - 1) (ds.getD i .none))) ?_ (fun i x H2 H3 Q e2 hi hy k => ?_))) (by rw [List.all_map]; rfl)) fun hall => ?_) (fun H2 e2 => q H2 (e1.trans e2))
        · have := filter_range_map ds .none (fun _ => true) (fun d => V.bl (fromD 0 ((ds.length : Int) - 1) d))
          rw [hlen, this, List.filter_eq_self.mpr (fun _ _ => rfl), List.map_map]
          rfl
        · obtain ⟨rfl, hx⟩ := hy
          obtain ⟨dx, hdx, hDx⟩ := dpA_get hA hx
          rw [getD_eq hdx] at k
          refine k _ _ (Ex.refl _) rfl et_yes fun _ => ev_call (vs := [x, .int 0, .int ((ds.length : Int) - 1)]) (ea_cons (ev_var (v := x) rfl) (ea_cons ev_c (ea_cons (ev_is (ev_op (ev_lenT (K := K) (ev_var (v := .ref a) rfl) (ex_t (e1.trans e2) hS)) ev_c rv_I0) ?_) ea_nil))) (SpV.of fun H4 e4 Q q E => ⟨x, dx, 0, (ds.length : Int) - 1, rfl, dp_ex ((e1.trans e2).trans e4) _ _ hDx, q⟩)
          show V.int ((xs.length : Int) - 1) = V.int ((ds.length : Int) - 1)
          rw [hlen]
        · obtain ⟨hai, hrg⟩ := (from_all ds.length).mp hall
          have hxs := dpA_ints hA hai
          have hln : (ds.map intOf).length = ds.length := List.length_map ..
          intro H2 e2 Q' q'
          rw [hxs] at hS
          refine ⟨.ref a, rfl, a, ds.map intOf, rfl, ex_t (e1.trans e2) hS, by omega, fun p np => ?_⟩
          have e3 := Ex.new (o := KwZ.InS P w p (ds.map intOf)) np
          refine ⟨p, ds.map intOf, rfl, upd_same, by omega, fun js nd hm => ?_⟩
          have hsl := set_lay nd hm (by rw [hln]; exact hrg)
          rw [hln] at hsl
          refine (ev_lenT (K := K) (ta := tVar 0) (σ := [some (.ref a), none]) (ev_var (v := .ref a) rfl) (ex_t ((e1.trans e2).trans e3) hS)) _ (Ex.refl _) _ fun H4 e4 => ?_
          refine rv_eq (x := V.int ((js.length : Nat) : Int)) (y := V.int ((((ds.map intOf).map V.int).length : Nat) : Int)) rfl H4 (Ex.refl H4) _ fun H5 e5 => ?_
          have e : decide (V.int ((js.length : Nat) : Int) = V.int ((((ds.map intOf).map V.int).length : Nat) : Int)) = layI (ds.map intOf) := by
            rw [List.length_map, hln, ← hsl]
            by_cases h : js.length = ds.length
            · rw [decide_eq_true h, decide_eq_true (by rw [h])]
            · rw [decide_eq_false h, decide_eq_false (fun z => h (by have := V.int.inj z; omega))]
          rw [e]
          exact q' H5 ((e3.trans e4).trans e5)
/-! ### _law_mixed, _law_laid -/
def spMix (K : PySem.W.Frag) : Sp := fun vs H Q _ => ∃ (b : Addr) (m : Nat), vs = [.ref b, vN m] ∧ Bag H b ∧ m ≤ 40 ∧ ∀ (p : Addr) (ms : List Nat) (H' : Hp), H p = none → ExB b H H' → Bag H' b → H' p = some (.tup (ms.map vN)) → ms.Perm ((List.range m).map (· + 1)) → Q (.ref p) H'
theorem Bag.upd {H : Hp} {b f : Addr} {xs ys : List V} (h : Bag H b) (hf : H f = some (.lst xs)) (hl : xs.length ≠ 400) (hb : f ≠ b) : Bag (upd H f (.lst ys)) b := by
  obtain ⟨d, n, zs, g1, g2, g3⟩ := h
  refine ⟨d, n, zs, by rw [upd_ne (Ne.symm hb)]; exact g1, ?_, g3⟩
  have : d ≠ f := fun z => by
    rw [z, hf] at g2
    have e := congrArg List.length (HO.lst.inj (Option.some.inj g2))
    rw [List.length_map, g3.1] at e
    exact hl e
  rw [upd_ne this]
  exact g2
theorem ExB.updN {a f : Addr} {H H' : Hp} {o : HO} (e : ExB a H H') (hf : H f = none) : ExB a H (upd H' f o) := fun b u nb hb => by
  have : b ≠ f := ne_of_none hb hf
  rw [upd_ne this]
  exact e b u nb hb
theorem bag_ne {H : Hp} {b f : Addr} (h : Bag H b) (hf : H f = none) : f ≠ b := fun z => by
  obtain ⟨d, n, zs, g1, _⟩ := h
  rw [z, g1] at hf
  cases hf
theorem perm_ins {α : Type} (xs : List α) (y : α) (k : Nat) : (xs.take k ++ [y] ++ xs.drop k).Perm (xs ++ [y]) := by
  have h1 : (xs.take k ++ [y] ++ xs.drop k).Perm (y :: (xs.take k ++ xs.drop k)) := by
    rw [List.append_assoc]
    exact List.perm_middle
  rw [List.take_append_drop] at h1
  exact h1.trans (List.perm_append_singleton y xs).symm
theorem ok_mix {f fTake : Addr} {fd fdTake : FuncData} {k : Nat} (F : Fun K "_law_mixed" "_law_mixed" sMix f fd) (DTake : Df K mg "_law_take" sTake ["bag", "many"] fTake fdTake) (GTake : FnOk P w K mg base CX0 (k + 1) fTake fdTake ["bag", "many"] (spTake K)) (B : Bu mg) : FnOk P w K mg base CX0 (k + 2) f fd ["bag", "many"] (spMix K) := by
  refine F.ok scMix (fun vs H Q E h => ?_) (fun cdv A outer s H vs Q E hr h => ?_)
  · obtain ⟨b, m, rfl, _⟩ := h
    rfl
  · obtain ⟨b, m, rfl, hB, hm, q⟩ := h
    refine ⟨_, (pss_cons (ps_set (i := 2) scMix.nd rfl (.inl rfl) (pe_lst pa_nil))
      (pss_cons (ps_for PassesOwn.never rfl (pi_range2 (by rfl) B.rng (pa_cons pe_int (pa_cons (pe_op op_add (pv 1) pe_int) pa_nil))) (pg_name (i := 3) scMix.nd rfl (.inl rfl))
      (pss_one (ps_expr (pe_bm PySem.F.plainAttrs_list PySem.F.slot_list_insert PySem.F.type_list_insert mt_insert (pv 2) (pa_cons (pcall DTake GTake (hr.mono (by omega)) (pa_cons (pv 0) (pa_cons (pv 3) pa_nil))) (pa_cons (pv 3) pa_nil))))))
      (pss_one (ps_ret (pe_callTy call_tupOf (by rfl) B.tup boot_tuple (pa_cons (pv 2) pa_nil)))))), ?_⟩
    refine q_asgL (xs := []) (el_lst ea_nil (by decide)) fun fl H0 nfl e0 hfl => ?_
    have nfa := bag_ne hB nfl
    refine q_forR2 (σ := [some (.ref b), some (vN m), some (.ref fl), none]) (lo := 1) (n := (m : Int) + 1) (ea_cons ev_c (ea_cons (ev_op (ev_var (v := vN m) rfl) ev_c rv_I0) ea_nil)) ⟨by decide, by decide, by omega, by omega⟩
      (fun i σ' H' => ∃ (y : Option V) (ms : List Nat), σ' = [some (.ref b), some (vN m), some (.ref fl), y] ∧ ExB b H H' ∧ Bag H' b ∧ H' fl = some (.lst (ms.map vN)) ∧ ms.Perm ((List.range i).map (· + 1)))
      (fun H1 e1 => ⟨none, [], rfl, ExB.of (e0.trans e1), hB.ex (e0.trans e1), e1 _ _ hfl, List.Perm.refl _⟩) (fun i σ' H' hi hP => ?_) (fun σ' H' hP => ?_)
    · obtain ⟨y, ms, rfl, x1, b1, h1, hp⟩ := hP
      have hml : ms.length = i := by rw [hp.length_eq, List.length_map, List.length_range]
      refine ⟨.ref fl, rfl, .inl ⟨rfl, _, sq_of h1⟩, .ref b, rfl, .int (1 + (i : Int)), rfl, b, 1 + (i : Int), rfl, b1, by omega, fun r H2 r0 r1 x2 b2 => ?_⟩
      have h2 : H2 fl = some (.lst (ms.map vN)) := x2 _ _ nfa h1
      refine ⟨.int (1 + (i : Int)), rfl, fl, ms.map vN, r, .int (1 + (i : Int)), rfl, rfl, h2, sz_lt (by rw [List.length_map]; omega), r0, by omega, ?_⟩
      refine ⟨_, ms.take r.toNat ++ [i + 1] ++ ms.drop r.toNat, rfl, (x1.trans x2).updN nfl, b2.upd h2 (by rw [List.length_map]; omega) nfa, ?_, ?_⟩
      · rw [upd_same, List.map_append, List.map_append, List.map_take, List.map_drop]
        show some (HO.lst ((ms.map vN).take r.toNat ++ [V.int (1 + (i : Int))] ++ (ms.map vN).drop r.toNat)) = some (HO.lst ((ms.map vN).take r.toNat ++ [V.int ((i + 1 : Nat) : Int)] ++ (ms.map vN).drop r.toNat))
        rw [show (1 + (i : Int)) = ((i + 1 : Nat) : Int) by omega]
      · rw [List.range_succ, List.map_append]
        exact (perm_ins ms (i + 1) r.toNat).trans (hp.append_right [i + 1])
    · obtain ⟨y, ms, rfl, x1, b1, h1, hp⟩ := hP
      refine rtt_to ((eu_tupL (K := K) (σ := [some (.ref b), some (vN m), some (.ref fl), y]) (ev_var (v := .ref fl) rfl) (sq_of h1)) H' (Ex.refl H') _ fun p H4 np e4 h4 => ?_)
      rw [show ((m : Int) + 1 - 1).toNat = m by omega] at hp
      exact q p ms H4 (x1.back b1 np) (x1.trans (ExB.of e4)) (b1.ex e4) h4 hp
def spLaid (K : PySem.W.Frag) : Sp := fun vs H Q _ => ∃ (b : Addr) (m : Nat), vs = [.ref b, vN m] ∧ Bag H b ∧ m ≤ 40 ∧ ∀ (p : Addr) (lay : List Nat) (H' : Hp), H p = none → ExB b H H' → Bag H' b → H' p = some (.tup (lay.map vN)) → IsLay lay → lay.length = m → Q (.ref p) H'
theorem lcT_src {tl : TE} {g : TG} {tt : TT} {te : TE} {vs : List Nat} {σ : L2.St} {H : Hp} {Q : VK} (h : tl σ H fun v H1 => ∃ a, v = .ref a ∧ (∃ xs, SqT K H1 a xs) ∧ tLc (fun _ H R => R (Itt K a) H) g tt te vs σ H1 Q) : tLc (iTup K tl) g tt te vs σ H Q := h
theorem cbT_to {r : List V → Hp → VK → Prop} {te : TE} {σ : L2.St} {H : Hp} {Q : VK} (h : te σ H fun v H1 => r [v] H1 Q) : tCB r (tCons te tNil) σ H Q := h
theorem callT_src {sp : Sp} {ta : TA} {E : XK} {vs : List V} {Q : VK} {σ : L2.St} {H : Hp} (h : EvA ta σ H vs) (k : ∀ H1, Ex H H1 → sp vs H1 Q E) : tCall sp [] E ta σ H Q := h H (Ex.refl H) _ fun H1 e => by
  rw [List.append_nil]
  exact k H1 e
theorem ew_itt {a : Addr} {xs : List V} (hs : SqT K H a xs) : EvW (fun _ H R => R (Itt K a) H) σ H xs.length (YAt xs) := fun H1 e R r => r (Itt K a) (fun H => SqT K H a xs) H1 (Ex.refl H1) walk_tup fun H3 e3 => ex_t (e.trans e3) hs
theorem lay_of_mixed {ms : List Nat} {m : Nat} (h : ms.Perm ((List.range m).map (· + 1))) : IsLay (ms.map (· - 1)) ∧ (ms.map (· - 1)).length = m := by
  have hl : ms.length = m := by rw [h.length_eq, List.length_map, List.length_range]
  have h2 := h.map (· - 1)
  rw [List.map_map] at h2
  have e : (List.range m).map ((fun x => x - 1) ∘ fun x => x + 1) = List.range m := by
    conv => rhs; rw [← List.map_id (List.range m)]
    apply List.map_congr_left
    intro a _
    show a + 1 - 1 = a
    omega
  rw [e] at h2
  refine ⟨?_, by rw [List.length_map, hl]⟩
  show (ms.map (· - 1)).Perm (List.range (ms.map (· - 1)).length)
  rw [List.length_map, hl]
  exact h2
theorem ok_laid {f fMix : Addr} {fd fdMix : FuncData} {k : Nat} (F : Fun K "_law_laid" "_law_laid" sLaid f fd) (DMix : Df K mg "_law_mixed" sMix ["bag", "many"] fMix fdMix) (GMix : FnOk P w K mg base CX0 (k + 2) fMix fdMix ["bag", "many"] (spMix K)) (B : Bu mg) : FnOk P w K mg base CX0 (k + 3) f fd ["bag", "many"] (spLaid K) := by
  refine F.ok scLaid (fun vs H Q E h => ?_) (fun cdv A outer s H vs Q E hr h => ?_)
  · obtain ⟨b, m, rfl, _⟩ := h
    rfl
  · obtain ⟨b, m, rfl, hB, hm, q⟩ := h
    refine ⟨_, (pss_one (ps_ret (pe_callTy call_tupOf (by rfl) B.tup boot_tuple (pa_cons (pe_lc (own := [("one", 2)]) (g := (gName 2)) (tt := tYes) (te := (tOp (rI0 fun i j => .int (i - j)) (tVar 2) (tC (.int 1)))) rfl scLaid.nd (pi_tup (pcall DMix GMix (hr.mono (by omega)) (pa_cons (pv 0) (pa_cons (pv 1) pa_nil)))) (blkOk_by (N := ["bag", "many", "one"]) (sc := defScope sLaid) (by decide +kernel)) (fun _ _ _ _ _ => (pg_name (i := 2) scLaid.nd rfl (.inl rfl))) (fun _ _ _ _ _ => pts_nil) (fun _ _ _ _ _ => (pe_op op_sub (pv 2) pe_int))) pa_nil)))), ?_⟩
    refine rtt_to (cbT_to (lcT_src (K := K) (callT_src (vs := [.ref b, vN m]) (ea_cons (ev_var rfl) (ea_cons (ev_var rfl) ea_nil)) fun H1 e1 => ⟨b, m, rfl, hB.ex e1, hm, fun p ms H2 np x2 b2 h2 hp => ⟨p, rfl, ⟨_, st_of h2⟩, ?_⟩⟩)))
    have hml : ms.length = m := by rw [hp.length_eq, List.length_map, List.length_range]
    have hpos : ∀ x ∈ ms, 1 ≤ x := fun x hx => by
      obtain ⟨k, _, rfl⟩ := List.mem_map.mp (hp.mem_iff.mp hx)
      omega
    refine el_lc (σ := [some (.ref b), some (vN m), none]) (ew_itt (K := K) (st_of h2)) (by rw [List.length_map]; omega) (fun _ => true) (fun i => vN ((ms.map (· - 1)).getD i 0)) (xs := (ms.map (· - 1)).map vN) ?_ (fun i x H3 H4 Q' e3 hi hy k => ?_) H2 (Ex.refl H2) _ fun t H3 nt e3 h3 => ⟨t, _, rfl, .inl ⟨sq_of h3, fun l nl => ?_⟩⟩
    · rw [filter_true, List.length_map]
      have := range_map_get (ms.map (· - 1)) 0 vN
      rw [List.length_map] at this
      exact this
    · obtain ⟨rfl, hx⟩ := hy
      obtain ⟨hxe, hil, hg⟩ := get_map (f := vN) 0 hx
      subst hxe
      refine k _ _ (Ex.refl _) rfl et_yes fun _ => ev_is (ev_op (ev_var (v := vN (ms.getD i 0)) rfl) ev_c rv_I0) ?_
      have h1 := hpos _ (List.mem_of_getElem? hg)
      have : (ms.map (· - 1)).getD i 0 = ms.getD i 0 - 1 := by
        rw [List.getD_eq_getElem?_getD, List.getElem?_map, hg]
        rfl
      rw [this]
      show V.int (((ms.getD i 0 : Nat) : Int) - 1) = V.int (((ms.getD i 0 - 1 : Nat)) : Int)
      rw [show (((ms.getD i 0 : Nat) : Int) - 1) = ((ms.getD i 0 - 1 : Nat) : Int) by omega]
    · obtain ⟨o1, o2⟩ := lay_of_mixed hp
      have e5 := Ex.new (o := .tup ((ms.map (· - 1)).map vN)) nl
      have xx : ExB b H (upd H3 l (.tup ((ms.map (· - 1)).map vN))) := ((ExB.of e1).trans x2).trans (ExB.of (e3.trans e5))
      exact q l _ _ (((ExB.of e1).trans x2).back b2 (fresh_back e3 nl)) xx (b2.ex (e3.trans e5)) upd_same o1 o2
theorem q_parLL {σ : L2.St} {H : Hp} {D : Ends} {tz : TS} {ta tb : TE} {i j : Nat} {xs ys : List V} (h1 : EvL ta σ H xs) (h2 : ∀ H1, Ex H H1 → EvL tb σ H1 ys)
    (k : ∀ p q H1 H2, H p = none → Ex H H1 → H1 p = some (.lst xs) → H1 q = none → Ex H1 H2 → H2 q = some (.lst ys) → tz D ((σ.set i (some (.ref p))).set j (some (.ref q))) H2) : tSeq (tPar i j (tCons ta (tCons tb tNil))) tz D σ H :=
  h1 H (Ex.refl H) _ fun p H1 np e1 hp => h2 H1 e1 H1 (Ex.refl H1) _ fun q H2 nq e2 hq => ⟨.ref p, .ref q, rfl, k p q H1 H2 np e1 hp nq e2 hq⟩
theorem q_parLV {σ : L2.St} {H : Hp} {D : Ends} {tz : TS} {ta tb : TE} {i j : Nat} {xs : List V} {v : V} (h1 : EvL ta σ H xs) (h2 : Ev tb σ H v)
    (k : ∀ p H2, H p = none → Ex H H2 → H2 p = some (.lst xs) → tz D ((σ.set i (some (.ref p))).set j (some v)) H2) : tSeq (tPar i j (tCons ta (tCons tb tNil))) tz D σ H :=
  h1 H (Ex.refl H) _ fun p H1 np e1 hp => h2 H1 e1 _ fun H2 e2 => ⟨.ref p, v, rfl, k p H2 np (e1.trans e2) (e2 _ _ hp)⟩
/-! ### _law_cycles -/
def spCyc (K : PySem.W.Frag) : Sp := fun vs H Q _ => ∃ (a : Addr) (lay : List Nat), vs = [.ref a] ∧ SqT K H a (lay.map vN) ∧ IsLay lay ∧ lay.length ≤ 30 ∧ ∀ p ys H2, H p = none → Ex H H2 → H2 p = some (.lst ys) → TupsAt K H2 ys (cycles lay) → Q (.ref p) H2
def upto (lay : List Nat) (i k : Nat) : List Nat := (List.range k).map fun j => it lay j i
theorem upto_succ (lay : List Nat) (i k : Nat) : upto lay i (k + 1) = upto lay i k ++ [it lay k i] := by
  unfold upto
  rw [List.range_succ, List.map_append]
  rfl
theorem upto_len (lay : List Nat) (i k : Nat) : (upto lay i k).length = k := by
  unfold upto
  rw [List.length_map, List.length_range]
theorem mem_upto {lay : List Nat} {i k y : Nat} : y ∈ upto lay i k ↔ ∃ j, j < k ∧ it lay j i = y := by
  unfold upto
  rw [List.mem_map]
  exact ⟨fun ⟨j, h1, h2⟩ => ⟨j, List.mem_range.mp h1, h2⟩, fun ⟨j, h1, h2⟩ => ⟨j, List.mem_range.mpr h1, h2⟩⟩
def stopAt (lay : List Nat) (i : Nat) : Nat := if inB lay i i then 0 else per lay i
theorem stop_in {lay : List Nat} (hL : IsLay lay) {i k : Nat} (hi : i < lay.length) {ss : List Nat} (hss : ∀ y, y ∈ ss ↔ inB lay i y = true) (hk : k ≤ stopAt lay i) : decide (it lay k i ∈ ss ++ upto lay i k) = decide (k = stopAt lay i) := by
  unfold stopAt at hk ⊢
  cases hb : inB lay i i with
  | true =>
    rw [hb] at hk
    have hk0 : k = 0 := by simpa using hk
    subst hk0
    rw [if_pos rfl, show decide (0 = 0) = true from rfl]
    exact decide_eq_true (List.mem_append.mpr (.inl ((hss _).mpr hb)))
  | false =>
    rw [hb, if_neg (by decide)] at hk
    rw [if_neg (by decide)]
    obtain ⟨p1, p2, p3, p4⟩ := hL.per hi
    by_cases z : k = per lay i
    · rw [decide_eq_true z, decide_eq_true]
      rw [z]
      exact List.mem_append.mpr (.inr (mem_upto.mpr ⟨0, by omega, by rw [p3]; rfl⟩))
    · rw [decide_eq_false z, decide_eq_false]
      intro hm
      rcases List.mem_append.mp hm with hm | hm
      · have := (hss _).mp hm
        rw [hL.new hi hb k] at this
        cases this
      · obtain ⟨j, j1, j2⟩ := mem_upto.mp hm
        exact hL.it_ne hi j1 (by omega) j2
theorem ok_cyc {f  : Addr} {fd  : FuncData} {k : Nat} (F : Fun K "_law_cycles" "_law_cycles" sCyc f fd) (B : Bu mg) : FnOk P w K mg base CX0 (k + 1) f fd ["laying"] (spCyc K) := by
  refine F.ok scCyc (fun vs H Q E h => ?_) (fun cdv A outer s H vs Q E hr h => ?_)
  · obtain ⟨a, lay, rfl, _⟩ := h
    rfl
  · obtain ⟨a, lay, rfl, hS, hL, h30, q⟩ := h
    have hu64 := hr.units
    refine ⟨_, (pss_cons (ps_par (i := 1) (j := 2) (by rfl) scCyc.nd rfl rfl (by decide) rfl rfl (pa_cons (pe_lst pa_nil) (pa_cons (pe_lst pa_nil) pa_nil)) (by rfl))
      (pss_cons (ps_for PassesOwn.never rfl (pi_range1 (by rfl) B.rng (pa_cons (pe_callB call_len_seq (by rfl) B.len PySem.boot_len (pa_cons (pv 0) pa_nil)) pa_nil)) (pg_name (i := 3) scCyc.nd rfl (.inl rfl))
      (pss_cons (ps_par (i := 4) (j := 5) (by rfl) scCyc.nd rfl rfl (by decide) rfl rfl (pa_cons (pe_lst pa_nil) (pa_cons (pv 3) pa_nil)) (by rfl))
      (pss_cons (ps_while PassesOwn.never (pt_cmpR op_notIn_seq (pv 5) (pv 2) (by rfl)) (pss_cons (ps_expr (pe_bm PySem.F.plainAttrs_list PySem.F.slot_list_append PySem.F.type_list_append mt_append (pv 2) (pa_cons (pv 5) pa_nil)))
      (pss_cons (ps_expr (pe_bm PySem.F.plainAttrs_list PySem.F.slot_list_append PySem.F.type_list_append mt_append (pv 4) (pa_cons (pv 5) pa_nil)))
      (pss_one (ps_set (i := 5) scCyc.nd rfl (.inl rfl) (pe_ix ix_tup (pv 0) (pv 5) (fun _ _ => rfl)))))))
      (pss_one (ps_if (pt_cmpR (op_neD hu64) (pv 4) (pe_lst pa_nil) (nomark _)) (pss_one (ps_expr (pe_bm PySem.F.plainAttrs_list PySem.F.slot_list_append PySem.F.type_list_append mt_append (pv 1) (pa_cons (pe_callTy call_tupOf (by rfl) B.tup boot_tuple (pa_cons (pv 4) pa_nil)) pa_nil)))) pss_nil)))))
      (pss_one (ps_ret (pv 1))))), ?_⟩
    refine q_parLL (xs := []) (ys := []) (el_lst ea_nil (by decide)) (fun H1 e1 => el_lst ea_nil (by decide)) fun fl sl H1 H2 nf e1 hf nl e2 hl => ?_
    have nsl : H sl = none := fresh_back e1 nl
    have hfs : fl ≠ sl := ne_of_none hf nl
    refine q_forR1 (σ := [some (.ref a), some (.ref fl), some (.ref sl), none, none, none]) (n := (lay.length : Int)) (ea_cons (ev_is (ev_lenT (K := K) (ev_var (v := .ref a) rfl) (ex_t (e1.trans e2) hS)) (by rw [List.length_map])) ea_nil) ⟨by omega, by omega⟩
      (fun i σ' H' => ∃ (y3 y4 y5 : Option V) (ys : List V) (ss : List Nat), σ' = [some (.ref a), some (.ref fl), some (.ref sl), y3, y4, y5] ∧ Ex H H' ∧ H' fl = some (.lst ys) ∧ TupsAt K H' ys (cycs lay i) ∧ H' sl = some (.lst (ss.map vN)) ∧ (∀ y, y ∈ ss ↔ inB lay i y = true) ∧ ss.length ≤ 30 * i)
      (fun Ha ea => ⟨none, none, none, [], [], rfl, (e1.trans e2).trans ea, ea _ _ (e2 _ _ hf), .nil, ea _ _ hl, fun y => ⟨fun h => (by cases h), fun h => (by cases h)⟩, Nat.zero_le _⟩) (fun i σ' H' hi hP => ?_) (fun σ' H' hP => ?_)
    · obtain ⟨y3, y4, y5, ys, ss, rfl, eH, hF, hT, hs, hss, hn⟩ := hP
      have hi' : i < lay.length := by omega
      have hyl : ys.length ≤ i := by
        rw [show ys.length = _ from paired_len hT]
        exact cycs_len lay i
      refine q_parLV (σ := [some (.ref a), some (.ref fl), some (.ref sl), some (.int (i : Int)), y4, y5]) (xs := []) (v := .int (i : Int)) (el_lst ea_nil (by decide)) (ev_var rfl) fun r Hb nr eb hr' => ?_
      have nr0 : H r = none := fresh_back eH nr
      have hrs : r ≠ sl := fun z => by rw [z, hs] at nr; cases nr
      have hrf : r ≠ fl := fun z => by rw [z, hF] at nr; cases nr
      have hst : stopAt lay i ≤ 30 := by
        unfold stopAt
        split
        · omega
        · have := (hL.per hi').2.1
          omega
      refine q_while (σ := [some (.ref a), some (.ref fl), some (.ref sl), some (.int (i : Int)), some (.ref r), some (.int (i : Int))]) (fun m σ' H2 => ∃ k, k ≤ stopAt lay i ∧ m = stopAt lay i - k ∧ σ' = [some (.ref a), some (.ref fl), some (.ref sl), some (.int (i : Int)), some (.ref r), some (vN (it lay k i))] ∧ Ex H H2 ∧ KeepT H' H2 ∧ H2 fl = some (.lst ys) ∧ H2 r = some (.lst ((upto lay i k).map vN)) ∧ H2 sl = some (.lst ((ss ++ upto lay i k).map vN)))
        (stopAt lay i) ⟨0, Nat.zero_le _, rfl, rfl, eH.trans eb, KeepT.ex eb, eb _ _ hF, hr', by rw [show upto lay i 0 = [] from rfl, List.append_nil]; exact eb _ _ hs⟩ (fun m σ' H2 hW => ?_)
      obtain ⟨k, k1, rfl, rfl, eH2, kT, hF2, hr2, hs2⟩ := hW
      refine ⟨!decide (it lay k i ∈ ss ++ upto lay i k), et_is (et_test (ev_op (ev_var (v := vN (it lay k i)) rfl) (ev_var (v := .ref sl) rfl) (rv_niL (K := K) (sq_of hs2) rfl (flat_nats _)))) (by rw [inV_nat]), fun hb H3 e3 => ?_, fun hb H3 e3 => ?_⟩
      · rw [stop_in hL hi' hss k1] at hb
        have hk : k < stopAt lay i := by
          have : ¬ k = stopAt lay i := by simpa using hb
          omega
        refine ⟨fun σ2 H4 => ∃ k', k < k' ∧ k' ≤ stopAt lay i ∧ σ2 = [some (.ref a), some (.ref fl), some (.ref sl), some (.int (i : Int)), some (.ref r), some (vN (it lay k' i))] ∧ Ex H H4 ∧ KeepT H' H4 ∧ H4 fl = some (.lst ys) ∧ H4 r = some (.lst ((upto lay i k').map vN)) ∧ H4 sl = some (.lst ((ss ++ upto lay i k').map vN)), fun σ2 H4 ⟨k', z1, z2, z3, z4, z5, z6, z7, z8⟩ => ⟨stopAt lay i - k', by omega, k', z2, rfl, z3, z4, z5, z6, z7, z8⟩, ?_⟩
        have ul := upto_len lay i k
        refine q_app (K := K) (σ := [some (.ref a), some (.ref fl), some (.ref sl), some (.int (i : Int)), some (.ref r), some (vN (it lay k i))]) (v := vN (it lay k i)) (e3 _ _ hs2) (ev_var rfl) (ev_var rfl) (by rw [List.length_map, List.length_append]; omega) fun H4 e4 => ?_
        have e34 := e3.trans e4
        have hs4 := e34 _ _ hs2
        have x1 : Ex H (upd H4 sl (.lst ((ss ++ upto lay i k).map vN ++ [vN (it lay k i)]))) := Ex.mut (eH2.trans e34) nsl
        have x2 : KeepT H' (upd H4 sl (.lst ((ss ++ upto lay i k).map vN ++ [vN (it lay k i)]))) := (kT.trans (KeepT.ex e34)).trans (KeepT.lst hs4)
        have x3 : upd H4 sl (.lst ((ss ++ upto lay i k).map vN ++ [vN (it lay k i)])) fl = some (.lst ys) := by rw [upd_ne hfs]; exact e34 _ _ hF2
        have x4 : upd H4 sl (.lst ((ss ++ upto lay i k).map vN ++ [vN (it lay k i)])) r = some (.lst ((upto lay i k).map vN)) := by rw [upd_ne hrs]; exact e34 _ _ hr2
        have x5 : upd H4 sl (.lst ((ss ++ upto lay i k).map vN ++ [vN (it lay k i)])) sl = some (.lst ((ss ++ upto lay i (k + 1)).map vN)) := by
          rw [upd_same, upto_succ, ← List.append_assoc, List.map_append (l₁ := ss ++ upto lay i k)]
          rfl
        generalize upd H4 sl (.lst ((ss ++ upto lay i k).map vN ++ [vN (it lay k i)])) = H5 at x1 x2 x3 x4 x5
        refine q_app (K := K) (σ := [some (.ref a), some (.ref fl), some (.ref sl), some (.int (i : Int)), some (.ref r), some (vN (it lay k i))]) (v := vN (it lay k i)) x4 (ev_var rfl) (ev_var rfl) (by rw [List.length_map]; omega) fun H6 e6 => ?_
        have y1 : Ex H (upd H6 r (.lst ((upto lay i k).map vN ++ [vN (it lay k i)]))) := Ex.mut (x1.trans e6) nr0
        refine s_asg (σ := [some (.ref a), some (.ref fl), some (.ref sl), some (.int (i : Int)), some (.ref r), some (vN (it lay k i))]) (v := vN (it lay (k + 1) i)) (ev_op (ev_var (v := .ref a) rfl) (ev_var (v := vN (it lay k i)) rfl) (rv_ixT (K := K) (ex_t y1 hS) (at_lay (hL.it_lt hi' k)))) fun H7 e7 => ?_
        refine ⟨k + 1, by omega, by omega, rfl, y1.trans e7, ((x2.trans (KeepT.ex e6)).trans (KeepT.lst (e6 _ _ x4))).trans (KeepT.ex e7), e7 _ _ (by rw [upd_ne (Ne.symm hrf)]; exact e6 _ _ x3), e7 _ _ ?_, e7 _ _ (by rw [upd_ne (Ne.symm hrs)]; exact e6 _ _ x5)⟩
        rw [upd_same, upto_succ, List.map_append]
        rfl
      · rw [stop_in hL hi' hss k1] at hb
        have hk : k = stopAt lay i := by simpa using hb
        have hnil : decide (upto lay i k = ([] : List Nat)) = inB lay i i := by
          rw [hk]
          unfold stopAt
          cases hb' : inB lay i i with
          | true => rfl
          | false =>
            rw [if_neg (by decide)]
            refine decide_eq_false fun z => ?_
            have := congrArg List.length z
            rw [upto_len] at this
            have := (hL.per hi').1
            simp at *
            omega
        refine s_when (σ := [some (.ref a), some (.ref fl), some (.ref sl), some (.int (i : Int)), some (.ref r), some (vN (it lay k i))]) (b := !inB lay i i) (et_is (et_test (ev_opL (xs := ([] : List Nat).map vN) (ev_var (v := .ref r) rfl) (el_lst ea_nil (by decide)) fun p H4 hp e4 => rv_neLN (K := K) (sq_of ((e3.trans e4) _ _ hr2)) (sq_of hp))) (by rw [hnil])) (fun hb H4 e4 => ?_) (fun hb H4 e4 => ?_)
        · have hnew : inB lay i i = false := by simpa using hb
          have hk2 : k = per lay i := by
            rw [hk]
            unfold stopAt
            rw [hnew]
            rfl
          subst hk2
          have hup : upto lay i (per lay i) = orb lay i := rfl
          rw [hup] at hr2 hs2
          refine s_appU (K := K) (σ := [some (.ref a), some (.ref fl), some (.ref sl), some (.int (i : Int)), some (.ref r), some (vN (it lay (per lay i) i))]) (ys := (orb lay i).map vN) (e4 _ _ (e3 _ _ hF2)) (ev_var rfl) (eu_tupL (K := K) (ev_var (v := .ref r) rfl) (sq_of (e4 _ _ (e3 _ _ hr2)))) (by omega) fun p H5 np e5 h5 => ?_
          have e35 := (e3.trans e4).trans e5
          have kk := KeepT.lst (ys := ys ++ [.ref p]) (e35 _ _ hF2)
          refine ⟨_, _, _, ys ++ [.ref p], ss ++ orb lay i, rfl, Ex.mut (eH2.trans e35) nf, upd_same, ?_, by rw [upd_ne (Ne.symm hfs)]; exact e35 _ _ hs2, fun y => ?_, ?_⟩
          · rw [cycs_succ, hnew]
            exact tups_app ((hT.keep (kT.trans (KeepT.ex e35))).keep kk) (keep_t kk (st_of h5))
          · rw [inB_succ, List.mem_append, hss y, Bool.or_eq_true, decide_eq_true_eq]
          · rw [List.length_append]
            have : (orb lay i).length = per lay i := upto_len lay i (per lay i)
            have := (hL.per hi').2.1
            omega
        · have hold : inB lay i i = true := by simpa using hb
          have hk0 : k = 0 := by
            rw [hk]
            unfold stopAt
            rw [hold]
            rfl
          subst hk0
          rw [show upto lay i 0 = [] from rfl, List.append_nil] at hs2
          have e34 := e3.trans e4
          refine ⟨_, _, _, ys, ss, rfl, eH2.trans e34, e34 _ _ hF2, ?_, e34 _ _ hs2, fun y => ?_, by omega⟩
          · rw [cycs_succ, hold]
            exact hT.keep (kT.trans (KeepT.ex e34))
          · rw [hL.old hi' hold]
            exact hss y
    · obtain ⟨y3, y4, y5, ys, ss, rfl, eH, hF, hT, hs, hss, hn⟩ := hP
      rw [Int.toNat_natCast] at hT
      exact s_ret (v := .ref fl) (ev_var rfl) fun H2 e2 => q fl ys H2 nf (eH.trans e2) (e2 _ _ hF) (hT.keep (KeepT.ex e2))
end
end Kw
set_option Elab.async false
set_option linter.all false
set_option maxRecDepth 100000
/-! several clauses 'except K as n', all with the same name n, in slot j -/
namespace KwX
open PySem PySem.Spec PyProof.Rows L2
abbrev Cl := Value × (Addr → Value → Option Addr → TS)
/-- the ends of a suite behind which slot j is empty again -/
def goneE (j : Nat) (D : Ends) : Ends := ⟨fun τ G => D.nx (τ.set j none) G, D.rt, fun τ G => D.bk (τ.set j none) G, fun τ G => D.ct (τ.set j none) G⟩
def wAsM (K : PySem.W.Frag) (j : Nat) (Wo : WX) (D : Ends) : List Cl → WX
  | [] => Wo
  | (kc, tz) :: more => fun cls d τ G => ∃ yes, PySem.W.exmOne K cls kc = some yes ∧ (yes = true → ∀ e, G e = none → tz e cls d (goneE j D) (τ.set j (some (.ref e))) G) ∧ (yes = false → wAsM K j Wo D more cls d τ G)
inductive HdsAs (X : Cx) (n : Str) : List ExceptHandler → List Cl → Prop
  | nil : HdsAs X n [] []
  | cons {y : Str} {kc : Value} {tz : Addr → Value → Option Addr → TS} {first : Stmt} {rest : List Stmt} {p1 p2 : Pos} {hds : List ExceptHandler} {l : List Cl} (nm : Names X y kc)
      (su : ∀ (e : Addr) (ob : Obj) (cls : Value) (d : Option Addr) (pp : List (Addr × Obj)), L2N.Zn cls d ob → (∃ fs, ob.data = .fields fs) → PSs (X.suite e ((e, ob) :: pp)) (first :: rest) (tz e cls d)) (more : HdsAs X n hds l) :
      HdsAs X n (.ExceptHandler (some (.Name y p1)) (some n) (first :: rest) p2 :: hds) ((kc, tz) :: l)
section
variable {X : Cx} {n : Str} {j : Nat} {body : List Stmt} {h1 : ExceptHandler} {hds : List ExceptHandler} {l : List Cl} {pos : Pos} {tb : WX → TS} {Wo : WX}
theorem ps_try_asM (stk : X.stack = X.env :: X.outer) (frm : X.env.frame = some X.env.locals) (nd : X.N.Nodup) (at_ : X.N[j]? = some n) (loc : X.env.kindOf n = some .local) (tk : L2N.Takes X Wo)
    (hb : ∀ (W : WX) (pp : List (Addr × Obj)) (xe : Value → Shared → Prop), L2N.Takes (X.tr pp xe) W → PassesOwn (model X.prog X.w) X.A X.env xe → PSs (X.tr pp xe) body (tb W))
    (hh : HdsAs X n (h1 :: hds) l) : PS X (.Try body (h1 :: hds) [] [] pos) (fun D σ H => tb (wAsM X.K j Wo D l) D σ H) := by
  constructor
  intro pins s0 σ0 H0 D I want
  have okX := I.ok
  have frs_ : X.A.frames = some (X.env :: X.outer) := okX.frames.trans (congrArg some stk)
  have locN : Loc X.env.scope n := Or.inl loc
  apply wpAny_Try_except
  have run := (hb (wAsM X.K j Wo D l) (X.pn ++ pins) (fun ev sa => wpAny (model X.prog X.w) X.A (noteFrame ev X.env) (fun _ sb => wpAny (model X.prog X.w) X.A (setFlight ev none) (fun _ sc => wpAny (model X.prog X.w) X.A (handleBy ev X.env (h1 :: hds)) (SP X pins D) X.xe sc) X.xe sb) X.xe sa) ?caught PassesOwn.looking).run [] s0 σ0 H0 D (I.toTry _) want
  case caught =>
    intro ev st told
    obtain ⟨e, Bd, sI, pins1, τ, G, cls, d, rfl, Jt, ltB, up0, sky0, freeE, sameO, agree, wish⟩ := told
    have J : Inv X pins τ G sI := Jt.ofTry okX
    have sky1 : Sky Bd (X.env :: X.outer) e (L2N.Zn cls d) X.env.locals st.heap := stk ▸ sky0
    change wpAny (model X.prog X.w) X.A (noteFrame (.ref e) X.env) _ _ _
    refine L2N.Sky.land L2N.Zn.steady frs_ frm sky1 fun hp3 land3 up3 => ?_
    have J3 : Inv X pins τ G { st with heap := hp3 } := J.landed ltB land3.1 (up0.trans up3) sameO agree
    obtain ⟨ob3, fs3, get3, zc3, dat3⟩ := land3.there
    have notIn : e ∉ frs (X.env :: X.outer) := by
      intro hm
      obtain ⟨_, ob', get', nof⟩ := land3.2.2.1.mem hm
      rw [get3] at get'
      cases get'
      exact nof _ dat3
    have neL : e ≠ X.env.locals := by
      intro z
      exact notIn (List.mem_filterMap.mpr ⟨X.env, List.mem_cons_self, by rw [frm, z]⟩)
    have niF : e ∉ X.fs := by
      intro hm
      obtain ⟨en, hen, q⟩ := List.mem_filterMap.mp hm
      exact notIn (List.mem_filterMap.mpr ⟨en, List.mem_cons_of_mem _ hen, q⟩)
    have S3 := J3.suite get3 dat3 freeE neL niF
    have each : ∀ {cs : List ExceptHandler} {m : List Cl}, HdsAs X n cs m → wAsM X.K j Wo D m cls d τ G → wpAny (model X.prog X.w) X.A (handleBy (.ref e) X.env cs) (SP X pins D) X.xe { st with heap := hp3 } := by
      intro cs m hk
      induction hk with
      | nil =>
        intro hw
        apply wpAny_handleBy_nil
        obtain ⟨_, _, _, ob, fs, T, _, _, get, _, dat, first, _⟩ := id land3
        unfold PySem.passOn
        refine wpAny_bind (wpAny_field get dat first ?_)
        rw [if_neg (show ¬ ((Value.ref T == Value.none) = true) by simp)]
        have out : wpAny (model X.prog X.w) X.A (setFlight (.ref e) X.env.frame) (fun _ sd => wpAny (model X.prog X.w) X.A (throw (.ref e) : Sem Flow) (SP X pins D) X.xe sd) X.xe { st with heap := hp3 } := by
          rw [frm]
          refine HandSPX.setFlight_upZ land3 fun hp4 sk4 up4 => wpAny_throw (tk _ _ ⟨e, Bd, sI, pins, τ, G, cls, d, rfl, J, ltB, (up0.trans up3).trans up4, .inr (.inr (by rw [stk]; exact sk4)), freeE, sameO, agree, hw⟩)
        first
          | exact wpAny_bind (wpAny_pure (wpAny_bind out))
          | exact wpAny_bind out
      | @cons y kc tz fst rst p1 p2 hds2 l2 nm su more ih =>
        intro hw
        obtain ⟨yes, hy, hw1, hw0⟩ := hw
        refine wpAny_handleBy_cons (codeAny_handlers_test ?_) (by intro q; cases q)
        have looks : PySem.W.Looks (model X.prog X.w) hp3 (typeOf (.ref e)) cls := fun A Q E sx kx q => wpAny_typeOf_ref (kx _ _ get3) (by rw [zc3.1]; exact q)
        have matches_ := PySem.W.exm_one (M := model X.prog X.w) J3.kIn looks hy
        have named : ∀ {Q : Value → Shared → Prop} {E : Value → Shared → Prop}, Q kc { st with heap := hp3 } → wpAny (model X.prog X.w) (X.A.mark (some (.ref e))) (eval (.Name y p1) X.env) Q E { st with heap := hp3 } := by
          intro Q E q
          obtain ⟨hg, hdbg, hm⟩ := nm
          rcases hm with hm | ⟨hm, hv, hnn⟩
          · exact ld_glob (X := X.suite e ((e, ob3) :: (X.pn ++ pins))) S3 hg hm q hdbg
          · exact ld_blt (X := X.suite e ((e, ob3) :: (X.pn ++ pins))) S3 hg hm hv q hnn hdbg
        refine named (matches_.here ?_)
        cases yes with
        | false =>
          change wpAny _ X.A (handleBy (.ref e) X.env hds2) _ _ _
          exact ih (hw0 rfl)
        | true =>
          refine codeAny_handlers_suite_as ?_
          refine HandSPX.lands_againZ land3 fun hp4 land4 up4 => ?_
          have J4 : Inv X pins τ G { st with heap := hp4 } := J.landed ltB land4.1 ((up0.trans up3).trans up4) sameO agree
          obtain ⟨ob4, fs4, get4, zc4, dat4⟩ := land4.there
          have S4 := J4.suite get4 dat4 freeE neL niF
          refine store_ok (X := X.suite e ((e, ob4) :: (X.pn ++ pins))) (v := .ref e) S4 nd at_ locN rfl (fun s5 S5 => ?_) (.inr loc)
          refine wpAny_mono ((su e ob4 cls d (X.pn ++ pins) zc4 ⟨_, dat4⟩).run [] s5 _ G _ S5 (hw1 rfl e freeE)) (fun fl s6 sp => ?_) (fun _ _ z => False.elim z)
          have done_ : ∀ {τ6 : L2.St} {G6 : Hp} {R : Shared → Prop}, Inv (X.suite e ((e, ob4) :: (X.pn ++ pins))) [] τ6 G6 s6 → (∀ s7, Inv X pins (τ6.set j none) G6 s7 → R s7) →
              wpAny (model X.prog X.w) X.A (do bindName X.env n .none; unbindBehindTheSuite X.env n p2) (fun _ s7 => R s7) X.xe s6 := fun {τ6 G6 R} S6 hR => gone_ok (S6.unsuite okX) nd at_ loc hR
          cases fl with
          | next =>
            obtain ⟨τ6, G6, S6, q6⟩ := sp
            exact done_ S6 fun s7 J7 => ⟨_, _, J7, q6⟩
          | brk =>
            obtain ⟨τ6, G6, S6, q6⟩ := sp
            exact done_ S6 fun s7 J7 => ⟨_, _, J7, q6⟩
          | cont =>
            obtain ⟨τ6, G6, S6, q6⟩ := sp
            exact done_ S6 fun s7 J7 => ⟨_, _, J7, q6⟩
          | ret u =>
            obtain ⟨v6, τ6, G6, S6, r6, q6⟩ := sp
            exact done_ S6 fun s7 J7 => ⟨_, _, _, J7, r6, q6⟩
    exact each hh wish
  refine wpAny_mono run (fun fl s1 sp => ?_) (fun ev s1 he => he)
  cases fl with
  | next =>
    obtain ⟨τ, G, J1, q⟩ := sp
    exact wpAny_execs_nil ⟨τ, G, J1.ofTry okX, q⟩
  | brk =>
    obtain ⟨τ, G, J1, q⟩ := sp
    exact ⟨τ, G, J1.ofTry okX, q⟩
  | cont =>
    obtain ⟨τ, G, J1, q⟩ := sp
    exact ⟨τ, G, J1.ofTry okX, q⟩
  | ret u =>
    obtain ⟨v, τ, G, J1, r, q⟩ := sp
    exact ⟨v, τ, G, J1.ofTry okX, r, q⟩
end
end KwX
set_option Elab.async false
set_option linter.all false
set_option maxRecDepth 100000
set_option maxHeartbeats 2000000
/-! the end of a walk while an exception is handled: lists, tuples, tuples unpacked -/
namespace KwX
open PySem PySem.Spec PyProof.Rows L2 HotX L2H
section
variable {prog : Program} {w : World} {A : Around} {E : Value → Shared → Prop} {s : Shared}
theorem list_end_hot {it l hx : Addr} {i : Nat} {items : Array Value} {Q : Option Value → Shared → Prop} (hot : HotAt A hx s.heap) (dif : hx ≠ it) (hit : s.heap.IsListIter it l i) (hl : s.heap.IsList l items) (out : items[i]? = none)
    (hQ : ∀ h', Heap.ExtBut it s.heap h' → Q none { s with heap := h' }) : wpAny (model prog w) A (pyNext (.ref it)) Q E s := by
  have hit' := hit
  obtain ⟨io, gi, ci, di⟩ := hit'
  obtain ⟨lo, gl, _, nl, dl⟩ := hl
  obtain ⟨hand, ho, hv, gh, dh, ch⟩ := hot
  unfold pyNext
  refine wpAny_bind (wpAny_attempt (wpAny_callSpecial?_slot (name := Str.ofString "__next__") hit.typeIs slot_listiter_next (wpAny_call_entry slot_listiter_next hit.typeIs entry_listiter_next ?_ (args_listiter_next _))))
  change wpAny _ _ (field (.ref it) 0 >>= _) _ _ s
  apply wpAny_bind
  refine wpAny_field gi di (x := .ref l) rfl ?_
  change wpAny _ _ (if (Value.ref l == Value.none) = true then _ else _) _ _ s
  have notNone : ¬ ((Value.ref l == Value.none) = true) := Bool.false_ne_true
  rw [if_neg notNone]
  change wpAny _ _ (field (.ref it) 1 >>= _) _ _ s
  apply wpAny_bind
  refine wpAny_field gi di (x := .int i 0) rfl ?_
  change wpAny _ _ (seqItems? (.ref l) >>= _) _ _ s
  apply wpAny_bind
  refine wpAny_seqItems gl dl ?_
  simp only [Int.toNat_natCast, out]
  refine wpAny_bind (wpAny_rule (wpAny_bind (wpAny_setField gi di (by simp) ?_)))
  change wpAny _ _ (newExc (.type "StopIteration") [] >>= _) _ _ _
  apply wpAny_bind
  simp only [newExc, newTuple]
  apply wpAny_bind
  refine wpAny_newObj_type ?_ (by size_fits)
  refine wpAny_bind (m := firstArgMember _ _) (wpAny_of_eq (a := Value.none) (by first | rfl | (simp only [firstArgMember]; rfl)) ?_)
  refine wpAny_newObj_type ?_ (by size_fits)
  have sb := Heap.SameBut.update s.heap it (Obj.mapFields (·.setIfInBounds 0 .none))
  refine raiseNew_hot ⟨hand, ho, hv, Heap.get?_push_of_some _ (Heap.get?_push_of_some _ ((sb.2 hx dif).trans gh)), dh, ch⟩ ?_ (Heap.get?_push_size _ rfl) rfl (by first | (simp; done) | (simp; omega) | (simp only [Array.size_append]; simp; omega)) ?_
  · exact Nat.ne_of_lt (Heap.lt_size (Heap.get?_push_of_some _ ((sb.2 hx dif).trans gh)))
  refine wpAny_bind (wpAny_isInstance (T := "StopIteration") (b := true) ⟨_, Heap.get?_update_self _ (Heap.get?_push_size _ rfl) rfl, rfl⟩ isSubtype_stop ?_)
  refine wpAny_pure (hQ _ fun b o nb e => ?_)
  have e1 := Heap.get?_push_of_some { cls := .type "tuple", data := .seq #[] } ((sb.2 b nb).trans e)
  rw [Heap.get?_update_other _ _ (Nat.ne_of_gt (Heap.lt_size e1))]
  exact Heap.get?_push_of_some _ e1
theorem tup_end_hot {it l hx : Addr} {i : Nat} {items : Array Value} {Q : Option Value → Shared → Prop} (hot : HotAt A hx s.heap) (dif : hx ≠ it) (hit : IsTupIter s.heap it l i) (hl : IsTup s.heap l items) (out : items[i]? = none)
    (hQ : ∀ h', Heap.ExtBut it s.heap h' → Q none { s with heap := h' }) : wpAny (model prog w) A (pyNext (.ref it)) Q E s := by
  have hit' := hit
  obtain ⟨io, gi, ci, di⟩ := hit'
  obtain ⟨lo, gl, _, nl, dl⟩ := hl
  obtain ⟨hand, ho, hv, gh, dh, ch⟩ := hot
  unfold pyNext
  refine wpAny_bind (wpAny_attempt (wpAny_callSpecial?_slot (name := Str.ofString "__next__") hit.typeIs slot_tupleiter_next (wpAny_call_entry slot_tupleiter_next hit.typeIs entry_tupleiter_next ?_ (args_tupleiter_next _))))
  change wpAny _ _ (field (.ref it) 0 >>= _) _ _ s
  apply wpAny_bind
  refine wpAny_field gi di (x := .ref l) rfl ?_
  change wpAny _ _ (if (Value.ref l == Value.none) = true then _ else _) _ _ s
  have notNone : ¬ ((Value.ref l == Value.none) = true) := Bool.false_ne_true
  rw [if_neg notNone]
  change wpAny _ _ (field (.ref it) 1 >>= _) _ _ s
  apply wpAny_bind
  refine wpAny_field gi di (x := .int i 0) rfl ?_
  change wpAny _ _ (seqItems? (.ref l) >>= _) _ _ s
  apply wpAny_bind
  refine wpAny_seqItems gl dl ?_
  simp only [Int.toNat_natCast, out]
  refine wpAny_bind (wpAny_rule (wpAny_bind (wpAny_setField gi di (by simp) ?_)))
  change wpAny _ _ (newExc (.type "StopIteration") [] >>= _) _ _ _
  apply wpAny_bind
  simp only [newExc, newTuple]
  apply wpAny_bind
  refine wpAny_newObj_type ?_ (by size_fits)
  refine wpAny_bind (m := firstArgMember _ _) (wpAny_of_eq (a := Value.none) (by first | rfl | (simp only [firstArgMember]; rfl)) ?_)
  refine wpAny_newObj_type ?_ (by size_fits)
  have sb := Heap.SameBut.update s.heap it (Obj.mapFields (·.setIfInBounds 0 .none))
  refine raiseNew_hot ⟨hand, ho, hv, Heap.get?_push_of_some _ (Heap.get?_push_of_some _ ((sb.2 hx dif).trans gh)), dh, ch⟩ ?_ (Heap.get?_push_size _ rfl) rfl (by first | (simp; done) | (simp; omega) | (simp only [Array.size_append]; simp; omega)) ?_
  · exact Nat.ne_of_lt (Heap.lt_size (Heap.get?_push_of_some _ ((sb.2 hx dif).trans gh)))
  refine wpAny_bind (wpAny_isInstance (T := "StopIteration") (b := true) ⟨_, Heap.get?_update_self _ (Heap.get?_push_size _ rfl) rfl, rfl⟩ isSubtype_stop ?_)
  refine wpAny_pure (hQ _ fun b o nb e => ?_)
  have e1 := Heap.get?_push_of_some { cls := .type "tuple", data := .seq #[] } ((sb.2 b nb).trans e)
  rw [Heap.get?_update_other _ _ (Nat.ne_of_gt (Heap.lt_size e1))]
  exact Heap.get?_push_of_some _ e1
theorem HotAt.past {hx b : Addr} {h h' : Heap} (k : HotAt A hx h) (n : hx ≠ b) (e : Heap.ExtBut b h h') : HotAt A hx h' := by
  obtain ⟨k1, o, vs, k2, k3, k4⟩ := k
  exact ⟨k1, o, vs, e hx o n k2, k3, k4⟩
theorem HotAt.lt {hx : Addr} {h : Heap} (k : HotAt A hx h) : hx < h.objs.size := by
  obtain ⟨_, _, _, k2, _⟩ := k
  exact Heap.lt_size k2
theorem unpackItems_hot {t hx : Addr} {items : Array Value} {Q : List Value → Shared → Prop} (hot : HotAt A hx s.heap) (ht : IsTup s.heap t items) (hQ : ∀ h', Heap.ExtBut s.heap.objs.size s.heap h' → Q items.toList { s with heap := h' }) :
    wpAny (model prog w) A (unpackItems (.ref t) items.size none) Q E s := by
  have tlt : t ≠ s.heap.objs.size := Nat.ne_of_lt ht.lt
  have xlt : hx ≠ s.heap.objs.size := Nat.ne_of_lt (HotAt.lt hot)
  unfold unpackItems
  apply wpAny_bind
  unfold notIterableAtAll
  apply wpAny_bind
  refine wpAny_specialOf ht.typeIs slot_tuple_iter.lookup ?_
  apply wpAny_pure
  simp only [Bool.false_eq_true, if_false]
  apply wpAny_bind
  refine wpAny_holding (iter_tuple ht ?_)
  apply wpAny_bind
  refine wpAny_holding (draw_tuple tlt items.size 0 _ _ ⟨_, Heap.get?_push_size _ rfl, rfl, rfl⟩ (ht.push _) (by omega) fun hp1 it1 same1 => ?_)
  have whole : List.take items.size (List.drop 0 items.toList) = items.toList := by
    rw [List.drop_zero]
    exact List.take_of_length_le (Nat.le_of_eq (by simp))
  rw [whole, if_neg (by simp)]
  have tup1 : IsTup hp1 t items := (ht.push _).extBut same1.extBut tlt
  have hot0 : HotAt A hx (s.heap.push { cls := .type "tuple_iterator", data := .fields #[.ref t, .int 0 0] }) := by
    obtain ⟨k1, o, vs, k2, k3, k4⟩ := hot
    exact ⟨k1, o, vs, Heap.get?_push_of_some _ k2, k3, k4⟩
  apply wpAny_bind
  refine wpAny_holding (tup_end_hot (HotAt.past hot0 xlt same1.extBut) xlt it1 tup1 (by simp) fun hp2 ext2 => ?_)
  simp only [Option.isSome_none, Bool.false_eq_true, if_false]
  exact wpAny_pure (hQ hp2 fun b o nb e => ext2 b o nb (same1.extBut b o nb (Heap.get?_push_of_some _ e)))
theorem assign_tup_hot {env : Env} {elts : List Expr} {k1} {pos : Pos} {t hx : Addr} {items : Array Value} {Q : Unit → Shared → Prop} (hot : HotAt A hx s.heap) (ht : IsTup s.heap t items) (hn : (assignEach elts env).length = items.size) (hstar : (assignEach elts env).findIdx? (·.1) = none)
    (h : ∀ h', Heap.ExtBut s.heap.objs.size s.heap h' → wpAny (model prog w) A (assignInOrder ((assignEach elts env).map (·.2)) items.toList) Q E { s with heap := h' }) : wpAny (model prog w) A (assign (.Tuple elts k1 pos) env (.ref t)) Q E s := by
  rw [assign_Tuple]
  refine wpAny_bind (wpAny_standAt ?_)
  unfold unpack
  rw [hn, hstar]
  exact wpAny_bind (wpAny_holding (unpackItems_hot hot ht h))
end
section
variable {X : Cx} {tg : Expr}
/-- (a, ..) as a target, while an exception is handled -/
theorem pg_tupH {es : List Expr} {kk : Nat} {pos : Pos} {t : TGs} {n : Nat} (hc : HotC X) (h : PGs X es t) (hn : (assignEach es X.env).length = n := by rfl) (hst : (assignEach es X.env).findIdx? (·.1) = none := by rfl) : PG X (.Tuple es kk pos) (gTup X.K n t) := by
  constructor
  intro pins s σ H v u Q I r want
  obtain ⟨a, xs, rfl, sq, len, more⟩ := want
  cases r
  obtain ⟨x1, hot⟩ := hc.at I
  obtain ⟨its, rv, tup, _⟩ := I.tuple sq
  refine assign_tup_hot hot tup (by simp [hn, ← len, rv.length]) hst fun hp ext => ?_
  have I1 : Inv X pins σ H { s with heap := hp } := I.kept (t' := s.toks) fun b o e => ext b o (Nat.ne_of_lt (Heap.lt_size e)) e
  exact h.run pins _ σ H xs _ Q I1 (by simpa using rv) more
theorem turn_listH {P : Program} {w : World} {K : PySem.W.Frag} (a it : Addr) : TurnH P w K tg (Itl K a) [it] it (fun i h => h.IsListIter it a i) where
  mem := (turn_list (P := P) (w := w) (K := K) (tg := tg) a it).mem
  obj := (turn_list (P := P) (w := w) (K := K) (tg := tg) a it).obj
  keep := (turn_list (P := P) (w := w) (K := K) (tg := tg) a it).keep
  self := (turn_list (P := P) (w := w) (K := K) (tg := tg) a it).self
  item := by
    rintro X rfl rfl rfl hc i pins s σ H E I free at_ ⟨xs, x, sq, hx⟩
    obtain ⟨its, rv, p, _⟩ := I.list sq
    obtain ⟨u, hu, ru⟩ := rv.get hx
    obtain ⟨g0, g1, g2, g3, g4, g5⟩ := free it (List.mem_singleton.mpr rfl)
    refine wpAny_pyNext_list_item at_ p.isList (x := u) (by simpa using hu) fun hp at1 sb => ?_
    have I1 : Inv X pins σ H { s with heap := hp } := I.turned (t' := s.toks) (fun b o nb e => (sb.2 b nb).trans e) g0 g1 g3 g4 g5
    have at2 := at1
    obtain ⟨o, e, c, d⟩ := at2
    exact ⟨u, rfl, go_of (s := { s with heap := hp }) e c d (by decide) ⟨x, H, I1, ru, ⟨rfl, fun ys hy => by rw [I.list_inj hy sq]; exact hx⟩, at1, fun b hb => (free b hb).1⟩⟩
  done := by
    rintro X rfl rfl rfl hc i pins s σ H E I free at_ ⟨xs, sq, hx⟩
    obtain ⟨its, rv, p, _⟩ := I.list sq
    obtain ⟨g0, g1, g2, g3, g4, g5⟩ := free it (List.mem_singleton.mpr rfl)
    have len := rv.length
    obtain ⟨q, hq1, hq2⟩ := hc
    obtain ⟨hd, vs, dv, cv⟩ := hq1
    have hot : HotAt X.A q.1 s.heap := ⟨hd, q.2, vs, (I.pin q (List.mem_append_left _ hq2)).1, dv, cv⟩
    have dif : q.1 ≠ it := g5 q (List.mem_append_left _ hq2)
    exact list_end_hot hot dif at_ p.isList (by simp; omega) fun hp ext => ⟨rfl, I.turned (t' := s.toks) (fun b o nb e => ext b o nb e) g0 g1 g3 g4 g5⟩
end
end KwX
set_option Elab.async false
set_option linter.all false
set_option maxRecDepth 100000
set_option maxHeartbeats 4000000
/-! a list comprehension while an exception is handled -/
namespace KwX
open PySem PySem.Spec PyProof.Rows L2 HotX L2H
/-- the context of the block, which still bears what is pinned -/
abbrev blkH (X : Cx) (s : Shared) (H : Hp) (scope : Scope) (cenv : Env) (fp : List Addr) : Cx := (X.blk s H scope cenv fp).tr X.pn (fun _ _ => False)
section
variable {X : Cx} {tg : Expr}
theorem pi_listH {l : Expr} {tl : TE} (hl : PE X l tl) : PIH X tg l (iList X.K tl) := by
  constructor
  intro pins s σ H R I want
  refine thn (hl.run pins s σ H _ I want) fun v s1 got => ?_
  obtain ⟨x, H1, I1, rel, a, rfl, ⟨xs, sq⟩, more⟩ := got
  cases rel
  obtain ⟨its, rv, p, _⟩ := I1.list sq
  refine wpAny_pyIter_list p.isList ?_
  have I2 := I1.kept (t' := s1.toks) (h' := s1.heap.push { cls := .type "list_iterator", data := .fields #[.ref a, .int 0 0] }) fun b o e => Heap.get?_push_of_some _ e
  exact ⟨s1.heap.objs.size, [s1.heap.objs.size], _, _, H1, rfl, I2, turn_listH a _, ⟨_, Heap.get?_push_size _ rfl, rfl, rfl⟩, fun b hb => by
    cases List.mem_singleton.mp hb
    exact I1.fpOk (Nat.le_refl _) (I1.hok.fresh (Nat.le_refl _)), more⟩
theorem blockH {pins : List (Addr × Obj)} {σ : L2.St} {H : Hp} {s : Shared} {scope : Scope} {own : List (Str × Nat)} {fp : List Addr} (I : Inv X pins σ H s) (ok : BlkOk X.N X.env.scope scope own) (nd : X.N.Nodup) (hfp : ∀ b ∈ fp, FpOk X pins H b ∧ b < s.heap.objs.size) :
    Inv (blkH X s H scope (compEnvC scope (cellsFrom (s.heap.objs.size + 1) scope.names (cloFrom X.env.cells scope.names [])) s.heap.objs.size X.env) fp) [] (wipe σ (own.map (·.2))) H { s with heap := pushCells (s.heap.push { cls := .type "dict", data := .dict #[] }) scope.names } := by
  have J := block_start I ok nd hfp
  refine ⟨J.ok.toTry _ _, J.os, J.bare, J.base, J.loc, J.cell, J.free, J.freeC, fun p hp => ?_, J.hok, J.len⟩
  have hp' : p ∈ X.pn := by
    have : p ∈ X.pn ++ [] := hp
    rw [List.append_nil] at this
    exact this
  obtain ⟨g1, g2, g3, g4, g5⟩ := I.pin p (List.mem_append_left _ hp')
  refine ⟨pushCells_keeps _ _ _ _ (Heap.get?_push_of_some _ g1), g2, Nat.ne_of_lt (Heap.lt_size g1), fun z => ?_, g5⟩
  rcases List.mem_cons.mp (I.stkSub _ z) with e | e
  · exact g3 e
  · exact g4 e
end
end KwX
set_option Elab.async false
set_option linter.all false
set_option maxRecDepth 100000
set_option maxHeartbeats 4000000
namespace KwX
open PySem PySem.Spec PyProof.Rows L2 HotX L2H
section
variable {X : Cx}
/-- [elt for tg in iter if ..] as a value, while an exception is handled -/
theorem pe_lcH {elt tg iter : Expr} {ifs : List Expr} {scope : Scope} {own : List (Str × Nat)} {pos : Pos} {wi : TI} {g : TG} {tt : TT} {te : TE} (hc : HotC X) (nd : X.N.Nodup) (hi : PIH X tg iter wi) (ok : BlkOk X.N X.env.scope scope own)
    (hg : ∀ (s : Shared) (H : Hp) (C : Addr) (cl : List (Str × Addr)) (fp : List Addr), PG (blkH X s H scope (compEnvC scope cl C X.env) fp) tg g) (ht : ∀ (s : Shared) (H : Hp) (C : Addr) (cl : List (Str × Addr)) (fp : List Addr), PTs (blkH X s H scope (compEnvC scope cl C X.env) fp) ifs tt)
    (he : ∀ (s : Shared) (H : Hp) (C : Addr) (cl : List (Str × Addr)) (fp : List Addr), PE (blkH X s H scope (compEnvC scope cl C X.env) fp) elt te) (hs : ∀ x, foldedSetIterable iter X.env x = pure x := by intro _; rfl) :
    PE X (.ListComp elt [⟨tg, iter, ifs, 0⟩] scope pos) (tLc wi g tt te (own.map (·.2))) := by
  constructor
  intro pins s0 σ H0 Q I want
  rw [eval_ListComp]
  have caught : ∀ y ∈ scope.names, y.2 = .free → ∃ c, X.env.cells.lookup y.1 = some c := by
    intro y hy e
    rcases ok.free y hy e with k | k
    · exact I.ok.has _ (.inl k)
    · exact I.ok.has _ (.inr k)
  refine wpAny_comprehension_free (use := none) rfl hs (closure_ok caught) ok.kind (fun y hy e => by rw [ok.uniq y hy, e]) (thn (hi.run pins s0 σ H0 _ I want) fun xv sa ha => thn ha fun itv sb hb => ?_)
  obtain ⟨it, fp, tn, J, Hb, rfl, Ib, T, tn0, free0, goal⟩ := hb
  refine wpAny_newObj_type (newEnv_comp ?_) (by show 0 ≤ sizeLine; decide)
  have newD : Hb sb.heap.objs.size = none := Ib.hok.fresh (Nat.le_refl _)
  obtain ⟨W, ⟨m0, w0⟩, turn⟩ := goal sb.heap.objs.size newD
  generalize eL : sb.heap.objs.size = L at newD w0 turn ⊢
  generalize eC : ({ sb with heap := sb.heap.push { cls := .type "list", data := .seq ([] : List Value).toArray } } : Shared) = sc
  have hpC : sc.heap = sb.heap.push { cls := .type "list", data := .seq ([] : List Value).toArray } := by rw [← eC]
  have Ic : Inv X pins σ (upd Hb L (.lst [])) sc := by
    rw [← eC]
    refine Ib.laid (t' := sb.toks) (fun b o e => Heap.get?_push_of_some _ e) (Nat.le_of_eq eL) ⟨Nat.zero_le _, [], 0, .nil, ?_⟩
    rw [← eL]
    exact Heap.get?_push_size _ rfl
  have small : ∀ b ∈ fp, b < sb.heap.objs.size := by
    intro b hb
    obtain ⟨o, e, _⟩ := T.obj _ _ tn0 b hb
    exact Heap.lt_size e
  have freeC : ∀ b ∈ fp, FpOk X pins (upd Hb L (.lst [])) b ∧ b < sc.heap.objs.size := by
    intro b hb
    have lt := small b hb
    refine ⟨⟨?_, (free0 b hb).2⟩, by rw [hpC, Heap.size_push]; exact Nat.lt_succ_of_lt lt⟩
    rw [upd_ne (by rw [← eL]; exact Nat.ne_of_lt lt)]
    exact (free0 b hb).1
  have tnC : tn 0 sc.heap := T.keep _ _ _ tn0 fun b _ o e => by
    rw [hpC]
    exact Heap.get?_push_of_some _ e
  have Id := blockH Ic ok nd freeC
  have pg := hg sc (upd Hb L (.lst [])) sc.heap.objs.size (cellsFrom (sc.heap.objs.size + 1) scope.names (cloFrom X.env.cells scope.names [])) fp
  have pt := ht sc (upd Hb L (.lst [])) sc.heap.objs.size (cellsFrom (sc.heap.objs.size + 1) scope.names (cloFrom X.env.cells scope.names [])) fp
  have pe := he sc (upd Hb L (.lst [])) sc.heap.objs.size (cellsFrom (sc.heap.objs.size + 1) scope.names (cloFrom X.env.cells scope.names [])) fp
  have none0 : ∀ b ∈ fp, (upd Hb L (.lst [])) b = none := fun b hb => (freeC b hb).1.1
  change codeAny _ _ (.compStart (.ListComp elt [⟨tg, iter, ifs, 0⟩] scope pos) 0 (.ref it) (.ref L) (compEnvC scope (cellsFrom (sc.heap.objs.size + 1) scope.names (cloFrom X.env.cells scope.names [])) sc.heap.objs.size X.env)) (compPost (model X.prog X.w) X.A X.xe none _ (.ref L) sc.heap.objs.size) { sc with heap := pushCells (sc.heap.push { cls := .type "dict", data := .dict #[] }) scope.names }
  generalize eE : compEnvC scope (cellsFrom (sc.heap.objs.size + 1) scope.names (cloFrom X.env.cells scope.names [])) sc.heap.objs.size X.env = ce at Id pg pt pe ⊢
  have locE : ce.locals = sc.heap.objs.size := by
    subst eE
    rfl
  generalize eH : upd Hb L (.lst []) = Hc at Ic Id pg pt pe w0 none0 freeC
  generalize eS : ({ sc with heap := pushCells (sc.heap.push { cls := .type "dict", data := .dict #[] }) scope.names } : Shared) = sd at Id ⊢
  have tnD : tn 0 sd.heap := T.keep _ _ _ tnC fun b _ o e => by
    rw [← eS]
    exact pushCells_keeps _ _ _ _ (Heap.get?_push_of_some _ e)
  have still : ∀ {τ : L2.St} {G : Hp} {sx : Shared}, Inv (blkH X sc Hc scope ce fp) [] τ G sx → (∀ b ∈ fp, G b = none) → ∀ b ∈ fp, FpOk (blkH X sc Hc scope ce fp) [] G b := by
    intro τ G sx Ix hn b hb
    refine ⟨hn b hb, (Ix.ok.exf b hb).1, Ix.ok.exfs b hb, .inl hb, fun x c e => (Ix.ok.exf b hb).2 x c e, fun p hp => ?_⟩
    have hp' : p ∈ X.pn ++ [] := hp
    rw [List.append_nil] at hp'
    exact (freeC b hb).1.2.2.2.2.2 p (List.mem_append_left _ hp')
  have loop : codeAny (model X.prog X.w) X.A (.compLoop (.ListComp elt [⟨tg, iter, ifs, 0⟩] scope pos) 0 (.ref it) (.ref L) ce) (compPost (model X.prog X.w) X.A X.xe none (fun v s1 => EP X pins σ Q v s1) (.ref L) sc.heap.objs.size) sd := by
    refine compLoop_any (fun n sx => ∃ i G, Inv (blkH X sc Hc scope ce fp) [] (wipe σ (own.map (·.2))) G sx ∧ tn i sx.heap ∧ (∀ b ∈ fp, G b = none) ∧ W i n G) ?_ m0 ⟨0, Hc, Id, tnD, none0, w0⟩
    rintro n s5 ⟨i, G5, I5, tn5, n5, w5⟩
    rcases turn i n G5 w5 with ⟨stop, fin⟩ | ⟨go, Nx, hNx, step⟩
    · refine thnF (T.done (blkH X sc Hc scope ce fp) rfl rfl rfl hc i [] s5 _ G5 (fun _ _ => False) I5 (still I5 n5) tn5 stop) fun r s6 got => ?_
      obtain ⟨rfl, I6⟩ := got
      have I7 : Inv X pins σ G5 s6 := Ic.call' (ch := fp) I6.os I6.base I6.hok I6.bare fun b hb => ⟨(freeC b hb).1.2.2.2.1, (freeC b hb).1.2.1, (freeC b hb).1.2.2.2.2.1, (freeC b hb).1.2.2.2.2.2⟩
      have noneC : G5 sc.heap.objs.size = none := by
        have z : G5 ce.locals = none := I6.free
        rw [locE] at z
        exact z
      obtain ⟨m, hn, _⟩ := I6.loc
      have hn' : s6.heap.Ns ce.locals m := hn
      rw [locE] at hn'
      refine ⟨m, hn', fun h'' sb' => ?_⟩
      obtain ⟨f0, f1, f2, f3, f4, f5⟩ := Ic.fpOk (Nat.le_refl _) noneC
      exact ⟨.ref L, G5, I7.turned (t' := s6.toks) (fun b o hb e => (sb'.2 b hb).trans e) f0 f1 f3 f4 f5, rfl, fin⟩
    · refine thnF (T.item (blkH X sc Hc scope ce fp) rfl rfl rfl hc i [] s5 _ G5 (fun _ _ => False) I5 (still I5 n5) tn5 go) fun r s6 got => ?_
      obtain ⟨u, rfl, h6⟩ := got
      refine thnF h6 fun _ s7 got7 => ?_
      obtain ⟨x, G7, I7, r7, y7, tn7, n7⟩ := got7
      have I7' := I7.pinned (still I7 n7) (T.obj _ _ tn7)
      refine thnF (pg.run _ s7 _ G7 x u _ I7' r7 (step x G7 y7)) fun _ s8 got8 => ?_
      obtain ⟨σ8, G8, I8, hw8, q8⟩ := got8
      refine thnF (pt.run _ s8 σ8 G8 _ I8 q8) fun b s9 got9 => ?_
      obtain ⟨G9, I9, q9⟩ := got9
      have over : ∀ {sx : Shared} {G : Hp}, Inv (blkH X sc Hc scope ce fp) ([] ++ pinsAt fp s7.heap) σ8 G sx → Nx G → ∃ m, m < n ∧ ∃ i G, Inv (blkH X sc Hc scope ce fp) [] (wipe σ (own.map (·.2))) G sx ∧ tn i sx.heap ∧ (∀ b ∈ fp, G b = none) ∧ W i m G := by
        intro sx G Ix nx
        obtain ⟨m', hm, w'⟩ := hNx G nx
        have held : ∀ b ∈ fp, ∀ o, s7.heap.get? b = some o → sx.heap.get? b = some o ∧ G b = none := fun b hb o e =>
          have z := Ix.pin (b, o) (List.mem_append_right _ (List.mem_append_right _ (mem_pinsAt hb e)))
          ⟨z.1, z.2.1⟩
        have len8 : (wipe σ (own.map (·.2))).length = σ8.length := by rw [← hw8, wipe_length]
        refine ⟨m', hm, i + 1, G, (Ix.unpinned (pins := [])).weak len8 (fun j v e => ?_), T.keep _ _ _ tn7 fun b hb o e => (held b hb o e).1, fun b hb => ?_, w'⟩
        · rw [← hw8] at e
          exact (wipe_some e).1
        · obtain ⟨o, e, _⟩ := T.obj _ _ tn7 b hb
          exact (held b hb o e).2
      cases b with
      | false =>
        simp only [Bool.false_eq_true, if_false] at q9 ⊢
        exact over I9 q9
      | true =>
        simp only [if_true] at q9 ⊢
        refine thnF (pe.run _ s9 σ8 G9 _ I9 q9) fun z s10 got10 => ?_
        obtain ⟨yv, G10, I10, r10, acc, hD10, hz10, nx⟩ := got10
        exact app_ok (X := blkH X sc Hc scope ce fp) I10 hD10 hz10 r10 fun s11 I11 => over I11 nx
  exact codeAny_compStart_list loop (T.self X.A 0 _ _ _ tnD loop)
end
end KwX
set_option Elab.async false
set_option linter.all false
set_option maxRecDepth 100000
set_option maxHeartbeats 4000000
/-! a lambda with parameters that captures nothing: made, handed on, called by a local name -/
namespace KwX
open PySem PySem.Spec PyProof.Rows L2 LamX NdefX
/-- the object at f is the lambda F (its words but the body), body b -/
def LamO (f : Addr) (F : NF) (b : Expr) : HO := .ext fun h => ∃ (od : Option Addr) (sl : Array (Option Value)) (pm ctv : Value), h.get? f = some (⟨.type "function", od, .func (PySem.W.kla_fn F.name F.qual F.params b F.scope F.cl pm (.ref F.c) ctv), sl⟩ : Obj)
theorem lamO_ne {f : Addr} {F : NF} {b : Expr} (ps : Array Value) : LamO f F b ≠ .tbl ps := fun z => by
  unfold LamO at z
  cases z
theorem lamO_at {P : Program} {w : World} {H : Hp} {h : Heap} {f : Addr} {F : NF} {b : Expr} (hok : HOk P w H h) (e : H f = some (LamO f F b)) :
    ∃ (od : Option Addr) (sl : Array (Option Value)) (pm ctv : Value), h.get? f = some (⟨.type "function", od, .func (PySem.W.kla_fn F.name F.qual F.params b F.scope F.cl pm (.ref F.c) ctv), sl⟩ : Obj) := (hok f _ e).1
section
variable {X : Cx} {pins : List (Addr × Obj)} {σ : L2.St} {H : Hp} {s : Shared}
theorem inv_lam {F : NF} {b : Expr} {o : Obj} {t' : Nat} {pm ctv : Value} (I : Inv X pins σ H s) (ho : o = { cls := .type "function", data := .func (PySem.W.kla_fn F.name F.qual F.params b F.scope F.cl pm (.ref F.c) ctv) }) :
    Inv X pins σ (upd H s.heap.objs.size (LamO s.heap.objs.size F b)) { s with heap := s.heap.push o, toks := t' } := by
  have at_ : (s.heap.push o).get? s.heap.objs.size = some o := Heap.get?_push_size _ (by rw [ho]; rfl)
  have at2 : (s.heap.push o).get? s.heap.objs.size = some { cls := .type "function", data := .func (PySem.W.kla_fn F.name F.qual F.params b F.scope F.cl pm (.ref F.c) ctv) } := by
    rw [at_, ho]
  exact I.laid (a := s.heap.objs.size) (fun c u e => Heap.get?_push_of_some _ e) (Nat.le_refl _) ⟨⟨_, _, pm, ctv, at2⟩, ⟨_, at2⟩, fun h1 h2 ⟨od, sl, p, t, z⟩ stay => ⟨od, sl, p, t, stay _ z⟩⟩
end
/-- lambda ..: body, as a value -/
def tLamV (T : List (Addr × Str)) (mk : Addr → NF) (b : Expr) : TE := fun σ H Q => Tabs T H ∧ ∀ (f c' : Addr) (H1 : Hp), ExtN H H1 → (∀ y, H1 y = none → H y = none) → Tabs T H1 → H f = none → H1 f = some (LamO f (mk c') b) → H1 c' = some (CodeO c' (mk c').qual) → Q (.ref f) H1
section
variable {X : Cx}
theorem pe_lamV {T : List (Addr × Str)} {c P : Addr} {params : Arguments} {body : Expr} {scope : Scope} {pos : Pos} (TB : TabB X.base X.mg c P) (hcode : X.env.code = .ref c) (hm : (P, X.env.qual ++ "<lambda>") ∈ T) (hu : ∀ p ∈ T, p.1 = P → p.2 = X.env.qual ++ "<lambda>")
    (hdef : defaultsOf params X.env = ([], [])) (nofree : ∀ y ∈ scope.names, y.2 ≠ .free) (hcl : ∀ cells, cloFrom cells scope.names [] = []) :
    PE X (.Lambda params body scope pos) (tLamV T (fun c' => ⟨"<lambda>", X.env.qual ++ "<lambda>", params, [], scope, [], c'⟩) body) := by
  constructor
  intro pins s σ H Q I want
  obtain ⟨tabs, k⟩ := want
  obtain ⟨ps, gP, tri, each⟩ := tabs _ hm
  refine PySem.W.kla_eval hdef ?_
  have clo : closureFor scope X.env = pure [] := by
    have := closure_ok (env := X.env) (scope := scope) (fun y hy e => absurd e (nofree y hy))
    rw [hcl] at this
    exact this
  have blt : s.heap.BuiltinsAt X.mg P := TB.bm.keeps I.bk
  have gP' : s.heap.get? P = some { cls := .none, data := .fields ps } := I.hok P _ gP
  cases found : codeAmong pos ps.toList with
  | some cv =>
    obtain ⟨c', rfl, hco⟩ := each pos cv found
    refine PySem.W.kla_makeFunctionHit (mg := X.mg) (c := c) (P := P) (ps := ps) clo I.ok.glob (I.mod.glob.keeps I.bk) hcode (TB.code.keeps I.bk) gP' tri found blt fun ctv hp tk keep _ => ?_
    have I1 : Inv X pins σ H { s with heap := hp, toks := tk } := I.kept keep
    have new1 : H hp.objs.size = none := I1.hok.fresh (Nat.le_refl _)
    have I2 := inv_lam (F := ⟨"<lambda>", X.env.qual ++ "<lambda>", params, [], scope, [], c'⟩) (b := body) (t' := tk) (pm := (X.mg "__name__").getD .none) (ctv := ctv) I1 rfl
    have past : ∀ b o, H b = some o → upd H hp.objs.size (LamO hp.objs.size ⟨"<lambda>", X.env.qual ++ "<lambda>", params, [], scope, [], c'⟩ body) b = some o := fun b o e => (upd_ne (ne_of_none e new1)).trans e
    exact ⟨.ref hp.objs.size, _, I2, rfl, k _ c' _ (ExtN.of past) (fun y e => upd_none e) (tabs.ext past) new1 upd_same (past _ _ hco)⟩
  | none =>
    refine PySem.W.kla_makeFunction (mg := X.mg) (c := c) (P := P) (ps := ps) clo I.ok.glob (I.mod.glob.keeps I.bk) hcode (TB.code.keeps I.bk) gP' tri found TB.gP blt fun c' ctv hp tk ext ge lt rec_ tab => ?_
    obtain ⟨c2, oc, vs, t, e2, hoc, hd, hv⟩ := rec_
    cases e2
    have newC : H c' = none := I.hok.fresh ge
    have I1 := inv_table (t' := tk) (more := #[rawInt pos.line, rawInt pos.col, .ref c']) (h' := hp) I gP (fun b o hb e => ext b o hb e) tab ge ⟨oc, vs, t, hoc, hd, hv⟩
    have past : ExtN H (upd (upd H P (.tbl (ps ++ #[rawInt pos.line, rawInt pos.col, .ref c']))) c' (CodeO c' (X.env.qual ++ "<lambda>"))) := by
      intro b o e n
      rw [upd_ne (ne_of_none e newC), upd_ne (fun z => n ps (Option.some.inj (e.symm.trans (by rw [z]; exact gP))))]
      exact e
    have app : (ps ++ #[rawInt pos.line, rawInt pos.col, .ref c']).toList = ps.toList ++ [rawInt pos.line, rawInt pos.col, .ref c'] := by simp
    have tabs1 : Tabs T (upd (upd H P (.tbl (ps ++ #[rawInt pos.line, rawInt pos.col, .ref c']))) c' (CodeO c' (X.env.qual ++ "<lambda>"))) := by
      intro p hp'
      by_cases same : p.1 = P
      · rw [hu p hp' same, same]
        refine ⟨_, by rw [upd_ne (ne_of_none gP newC), upd_same], by rw [app]; exact PySem.TriplesOk_snoc _ _ _ _ tri, fun p' cv hcv => ?_⟩
        rw [app] at hcv
        rcases among_app _ tri hcv with z | z
        · obtain ⟨c0, e1, e2⟩ := each p' cv z
          exact ⟨c0, e1, past _ _ e2 codeO_ne⟩
        · exact ⟨c', z, upd_same⟩
      · obtain ⟨ps', a1, a2, a3⟩ := tabs p hp'
        refine ⟨ps', by rw [upd_ne (ne_of_none a1 newC), upd_ne same]; exact a1, a2, fun p' cv hcv => ?_⟩
        obtain ⟨c0, e1, e2⟩ := a3 p' cv hcv
        exact ⟨c0, e1, past _ _ e2 codeO_ne⟩
    have newF := I1.hok.fresh (Nat.le_refl _)
    have I2 := inv_lam (F := ⟨"<lambda>", X.env.qual ++ "<lambda>", params, [], scope, [], c'⟩) (b := body) (t' := tk) (pm := (X.mg "__name__").getD .none) (ctv := ctv) I1 rfl
    refine ⟨.ref hp.objs.size, _, I2, rfl, k _ c' _ (fun b o e n => ?_) (fun b e => upd_none (upd_none (upd_none e))) (tabs1.ext fun b o e => ?_) (I.hok.fresh (Nat.le_trans ge (Nat.le_of_lt lt))) upd_same ?_⟩
    · have e1 := past b o e n
      exact (upd_ne (ne_of_none e1 newF)).trans e1
    · exact (upd_ne (ne_of_none e newF)).trans e
    · exact (upd_ne (Nat.ne_of_lt lt)).trans upd_same
end
/-- what a lambda of the words F, body b, promises wherever it lies -/
structure LOk (P : Program) (w : World) (K : PySem.W.Frag) (mg : Str → Option Value) (base : Heap) (CX : CXT) (k : Nat) (F : NF) (b : Expr) (ps : List Str) (sp : Sp) : Prop where
  len : ∀ vs H Q E, sp vs H Q E → vs.length = ps.length
  run : ∀ (f : Addr) (A : Around) (outer : List Env) (s : Shared) (H : Hp) (us : List Value) (vs : List V) (Q : VK) (E : XK), Room k A → Env0 P w K mg base A outer s H → H f = some (LamO f F b) → H F.c = some (CodeO F.c F.qual) → Vals vs us → sp vs H Q E →
    codeAny (model P w) A (.call (.ref f) ⟨us, []⟩) (CR CX outer P w H s Q E) s
section
variable {CX : CXT} {P : Program} {w : World} {K : PySem.W.Frag} {mg : Str → Option Value} {base : Heap} {N ps : List Str} {F : NF} {b : Expr} {k j : Nat} {sp : Sp}
theorem lok_of (S : NScope N ps [] F.scope) (cl0 : F.cl = []) (hb : ∀ (pm ctv : Value) (us : List Value), us.length = ps.length → bindArgs (PySem.W.kla_fn F.name F.qual F.params b F.scope F.cl pm (.ref F.c) ctv) ⟨us, []⟩ = pure (ps.zip us)) (len : ∀ vs H Q E, sp vs H Q E → vs.length = ps.length)
    (body : ∀ (f : Addr) (A : Around) (outer : List Env) (s : Shared) (H : Hp) (vs : List V) (Q : VK) (E : XK), Room k (A.deeper (envF F f s.heap.objs.size)) → sp vs H Q E → ∃ t, PE (ncx CX P w K mg base N F f A outer s H E) b t ∧ t (startF N vs []) H Q) : LOk P w K mg base CX (k + 1) F b ps sp := by
  refine ⟨len, fun f A outer s H us vs Q E hr e0 hf hc r hsp => ?_⟩
  have hl := len _ _ _ _ hsp
  have lim : s.heap.NoLimit := e0.mod.nolimit.keeps fun b o e => (e0.bs b o e).1
  obtain ⟨od, sl, pm, ctv, ho⟩ := lamO_at e0.hok hf
  refine PySem.W.kla_callFunE hr.depth ho rfl S.co S.gen rfl (codeO_at e0.hok hc) ?_
  rw [hb pm ctv us (by rw [← r.length]; exact hl)]
  refine wpAny_pure (wpAny_newFunctionEnv S.nocell (fun ⟨n, _⟩ hy => S.par n (List.of_mem_zip hy).1) (fun hp hns hsb => ⟨lim.fresh _ hsb, ?_⟩) S.kind)
  change codeAny _ _ (.expr b (envF F f s.heap.objs.size)) _ _
  have kp : ∀ b o, s.heap.get? b = some o → hp.get? b = some o := fun b o e => hsb.extBut b o (Nat.ne_of_lt (Heap.lt_size e)) (Heap.get?_push_of_some _ e)
  obtain ⟨t, ht, hq⟩ := body f A outer s H vs Q E (hr.deeper _) hsp
  have C : CellsAt F.cl [] [] s.heap H := by
    rw [cl0]
    exact ⟨rfl, (fun y c e => by cases e), (fun x y c e => by cases e), (fun i y e => by cases e)⟩
  have I : Inv (ncx CX P w K mg base N F f A outer s H E) [] (startF N vs []) H { s with heap := hp, toks := s.toks + (ps.zip us).length } := inv_startN S hr.hd e0 hl r C hns kp
  refine PySem.W.kla_codeExpr (wpAny_mono (ht.run [] _ _ H Q I hq) (fun v s' got => ?_) fun e s' got => got)
  obtain ⟨w', H', J, rv, q⟩ := got
  exact ⟨w', H', J.os, J.bare, J.base, J.hok, rv, q⟩
end
/-- x(e, ..), x a local name that holds a lambda of the words F c', body b -/
def tCallV (mk : Addr → NF) (b : Expr) (i : Nat) (sp : Sp) (E : L2.St → XK) (t : TA) : TE := fun σ H Q => ∃ f c', σ[i]? = some (some (.ref f)) ∧ H f = some (LamO f (mk c') b) ∧ t σ H fun vs H1 => H1 f = some (LamO f (mk c') b) ∧ H1 (mk c').c = some (CodeO (mk c').c (mk c').qual) ∧ sp vs H1 Q (E σ)
section
variable {X : Cx} {CX : CXT} {mk : Addr → NF} {b : Expr} {ps : List Str} {i j k : Nat} {x : Str} {sp : Sp} {E : L2.St → XK} {t : TA} {e : Expr} {es : List Expr} {p pos : Pos}
theorem lamAt_of {pins : List (Addr × Obj)} {σ : L2.St} {H : Hp} {s : Shared} {f : Addr} {F : NF} (I : Inv X pins σ H s) (e : H f = some (LamO f F b)) : PySem.W.FnAt f s.heap := by
  obtain ⟨od, sl, pm, ctv, ho⟩ := lamO_at I.hok e
  exact ⟨_, od, _, sl, ho⟩
theorem pe_callV (L : ∀ c', LOk X.prog X.w X.K X.mg X.base CX k (mk c') b ps sp) (hr : Room j X.A) (hk : k ≤ j) (hx : ∀ σ, PassesAt CX X σ (E σ)) (hN : X.N[i]? = some x) (hv : Vis X.env.scope x) (ha : PA X (e :: es) t)
    (hd : (x == ("__debug__" : Str)) = false := by decide) (hcd : (x == ("__classdict__" : Str)) = false := by decide)
    (he : starEach (e :: es) X.env = (false, eval e X.env) :: starEach es X.env := by rfl) (hpl : (backTo pos (starEach es X.env)).any (·.1) = false := by rfl) :
    PE X (.Call (.Name x p) (e :: es) [] pos) (tCallV mk b i sp E t) := by
  constructor
  intro pins s σ H Q I want
  obtain ⟨f, c', hs, hf, ht⟩ := want
  refine wpAny_Call_Name_kw (thn ((pe_var (pos := p) hN hv hd hcd).run pins s σ H (fun v H1 => v = .ref f ∧ H1 = H) I ⟨.ref f, hs, rfl, rfl⟩) fun u s1 got => ?_)
  obtain ⟨v, H1, I1, r1, ev, eH⟩ := got
  subst ev
  rw [eH] at I1
  obtain rfl : u = Value.ref f := r1
  refine PySem.W.callWith_F (first := []) (lamAt_of I1 hf) (thn (ha.run pos pins s1 σ H _ I1 ht) fun us s2 got2 => ?_) he hpl
  obtain ⟨vs, H2, I2, r, h1, h2, q⟩ := got2
  refine ⟨lamAt_of I2 h1, ?_⟩
  change wpAny _ _ (call (.ref f) us) _ _ _
  refine wpAny_call (codeAny_mono ((L c').run f X.A X.stack s2 H2 us vs Q (E σ) (hr.mono hk) I2.env0 h1 h2 r q) fun res s3 got3 => ?_)
  cases res with
  | error ev => exact hx σ pins H2 s2 ev s3 I2 got3
  | ok fl =>
    cases fl with
    | ret u => exact I2.after got3
    | next => exact False.elim got3
    | brk => exact False.elim got3
    | cont => exact False.elim got3
end
end KwX
set_option Elab.async false
set_option linter.all false
set_option maxRecDepth 100000
set_option maxHeartbeats 4000000
namespace Kw
open PySem PySem.Spec PyProof.Rows L2 Evl KwX NdefX LamX
/-- what an error class of the program, made of a text, must say -/
structure ExcT (K : PySem.W.Frag) (mg : Str → Option Value) (x : Str) (C : Addr) : Prop where
  g : mg x = some (.ref C)
  q : PySem.W.excIn K C [.type "ValueError", .type "Exception", .type "BaseException", .type "object"] "ValueError.__new__" = true
  k : PySem.W.keepIn K (.ref C) = true
  b : PySem.W.subIn K (.ref C) (.type "BaseException") = some true
  t : PySem.W.typeIn K (.ref C) = some (.type "type")
theorem keepN {H H' : Hp} (e : ExtN H H') : KeepT H H' := fun b xs r => by
  rcases r with h | ⟨o, h⟩
  · exact .inl (e b _ h fun ps z => by cases z)
  · exact .inr ⟨o, e b _ h fun ps z => by cases z⟩
theorem ExtN.ex {H H' : Hp} (e : Ex H H') : ExtN H H' := fun b o h _ => e b o h
section
variable {P : Program} {w : World} {K : PySem.W.Frag} {mg : Str → Option Value} {base : Heap}
/-- a def that may raise -/
theorem okN {x qual : Str} {st : Stmt} {f : Addr} {fd : FuncData} {N ps : List Str} {k : Nat} {sp : Sp} (F : Fun K x qual st f fd) (S : FnScope N ps (defScope st)) (len : ∀ vs H Q E, sp vs H Q E → vs.length = ps.length)
    (body : ∀ (cdv : Value) (A : Around) (outer : List Env) (s : Shared) (H : Hp) (vs : List V) (Q : VK) (E : XK), Room k (A.deeper (envOfC qual (defScope st) s.heap.objs.size f cdv)) → sp vs H Q E →
      ∃ t, PSs (cxOf (L2N.CX P w) P w K mg base N qual (defScope st) f cdv A outer s H E) (defBody st) t ∧ t { nx := fun _ H' => Q .non H', rt := Q } (start N vs) H) : FnOk P w K mg base (L2N.CX P w) (k + 1) f fd ps sp := by
  obtain ⟨oc, od, kV, doc, pm, an, cdv, ct, osl, rfl, lk, hcd⟩ := F.ex
  exact fn_of lk hcd S len fun A outer s H vs Q E hr hsp => body cdv A outer s H vs Q E hr hsp
/-- a def that makes lambdas: its code's table is known -/
theorem okT {x : Str} {st : Stmt} {f c : Addr} {N ps : List Str} {k : Nat} {sp : Sp} {kV doc pm ct oc : Value} {an od : Option Addr} {osl : Array (Option Value)} (lk : K.lookup f = some ⟨oc, od, .func (PySem.W.fnOf x x (defArgs st) (defBody st) (defScope st) .none kV doc pm an (.ref c) ct), osl⟩) (hcd : PySem.W.codeIn K (.ref c) x = true)
    (S : FnScope N ps (defScope st)) (len : ∀ vs H Q E, sp vs H Q E → vs.length = ps.length)
    (body : ∀ (A : Around) (outer : List Env) (s : Shared) (H : Hp) (vs : List V) (Q : VK) (E : XK), Room k (A.deeper (envOfC x (defScope st) s.heap.objs.size f (.ref c))) → sp vs H Q E →
      ∃ t, PSs (cxOf CX0 P w K mg base N x (defScope st) f (.ref c) A outer s H E).nox (defBody st) t ∧ t { nx := fun _ H' => Q .non H', rt := Q } (start N vs) H) : FnOk P w K mg base CX0 (k + 1) f (PySem.W.fnOf x x (defArgs st) (defBody st) (defScope st) .none kV doc pm an (.ref c) ct) ps sp :=
  fn_of lk hcd S len fun A outer s H vs Q E hr h => by
    obtain ⟨t, h1, h2⟩ := body A outer s H vs Q E hr h
    exact ⟨t, h1.nox, h2⟩
/-- lambda a, b, c: x(a, b) -/
def spLam2 (spX : Sp) : Sp := fun vs H Q E => ∃ (v y z : V), vs = [v, y, z] ∧ spX [v, y] H Q E
def spLam1 (spX : Sp) : Sp := fun vs H Q E => ∃ (v y z : V), vs = [v, y, z] ∧ spX [v] H Q E
theorem lok_2 {f : Addr} {fd : FuncData} {k : Nat} {F : NF} {x : Str} {st : Stmt} {ps : List Str} {spX : Sp} {pp p1 p2 pos : Pos} (S : NScope ["a", "b", "c"] ["a", "b", "c"] [] F.scope) (cl0 : F.cl = []) (gl : F.scope.names.lookup x = some NameKind.globalImplicit)
    (hb : ∀ (pm ctv : Value) (us : List Value), us.length = 3 → bindArgs (PySem.W.kla_fn F.name F.qual F.params (.Call (.Name x pp) [.Name "a" p1, .Name "b" p2] [] pos) F.scope F.cl pm (.ref F.c) ctv) ⟨us, []⟩ = pure ((["a", "b", "c"] : List Str).zip us))
    (DL : Df K mg x st ps f fd) (GL : FnOk P w K mg base (L2N.CX P w) k f fd ps spX) (hx : (x == ("__debug__" : Str)) = false := by decide) :
    LOk P w K mg base (L2N.CX P w) (k + 1) F (.Call (.Name x pp) [.Name "a" p1, .Name "b" p2] [] pos) ["a", "b", "c"] (spLam2 spX) := by
  refine lok_of S cl0 hb (fun vs H Q E h => ?_) (fun g A outer s H vs Q E hr h => ?_)
  · obtain ⟨v, x, z, rfl, _⟩ := h
    rfl
  · obtain ⟨v, y, z, rfl, h⟩ := h
    refine ⟨tCallS spX (fun σ => WE (fun cls d _ H => E cls d H) σ) (tCons (tVar 0) (tCons (tVar 1) tNil)), pe_callS GL hr gl DL.g DL.F.kp DL.b (fun σ => L2N.passAt (L2N.takes_of rfl rfl rfl rfl) σ) (pa_cons (pe_var (i := 0) rfl (.inl (S.par "a" (by decide +kernel)))) (pa_cons (pe_var (i := 1) rfl (.inl (S.par "b" (by decide +kernel)))) pa_nil)) hx, ?_⟩
    exact ⟨v, rfl, y, rfl, h⟩
theorem lok_1 {f : Addr} {fd : FuncData} {k : Nat} {F : NF} {x : Str} {st : Stmt} {ps : List Str} {spX : Sp} {pp p1 pos : Pos} (S : NScope ["a", "b", "c"] ["a", "b", "c"] [] F.scope) (cl0 : F.cl = []) (gl : F.scope.names.lookup x = some NameKind.globalImplicit)
    (hb : ∀ (pm ctv : Value) (us : List Value), us.length = 3 → bindArgs (PySem.W.kla_fn F.name F.qual F.params (.Call (.Name x pp) [.Name "a" p1] [] pos) F.scope F.cl pm (.ref F.c) ctv) ⟨us, []⟩ = pure ((["a", "b", "c"] : List Str).zip us))
    (DL : Df K mg x st ps f fd) (GL : FnOk P w K mg base (L2N.CX P w) k f fd ps spX) (hx : (x == ("__debug__" : Str)) = false := by decide) :
    LOk P w K mg base (L2N.CX P w) (k + 1) F (.Call (.Name x pp) [.Name "a" p1] [] pos) ["a", "b", "c"] (spLam1 spX) := by
  refine lok_of S cl0 hb (fun vs H Q E h => ?_) (fun g A outer s H vs Q E hr h => ?_)
  · obtain ⟨v, x, z, rfl, _⟩ := h
    rfl
  · obtain ⟨v, y, z, rfl, h⟩ := h
    refine ⟨tCallS spX (fun σ => WE (fun cls d _ H => E cls d H) σ) (tCons (tVar 0) tNil), pe_callS GL hr gl DL.g DL.F.kp DL.b (fun σ => L2N.passAt (L2N.takes_of rfl rfl rfl rfl) σ) (pa_cons (pe_var (i := 0) rfl (.inl (S.par "a" (by decide +kernel)))) pa_nil) hx, ?_⟩
    exact ⟨v, rfl, h⟩
end
/-! ### where the lambdas stand in a text -/
def stBody : Stmt → List Stmt
  | .For _ _ l _ _ => l
  | .If _ l _ _ => l
  | .While _ l _ _ => l
  | _ => []
def stEx : Stmt → Expr
  | .If t _ _ _ => t
  | .Assign _ e _ => e
  | .Return (some e) _ => e
  | .Expr e _ => e
  | _ => .Constant .none 0 ⟨0, 0, 0, 0⟩
def exLeft : Expr → Expr
  | .Compare l _ _ _ => l
  | .Subscript l _ _ => l
  | .UnaryOp _ l _ => l
  | e => e
def exArg (i : Nat) : Expr → Expr
  | .Call _ as _ _ => as.getD i (.Constant .none 0 ⟨0, 0, 0, 0⟩)
  | .BoolOp _ as _ => as.getD i (.Constant .none 0 ⟨0, 0, 0, 0⟩)
  | e => e
def lamPs : Expr → Arguments
  | .Lambda p _ _ _ => p
  | _ => ⟨[], [], none, [], [], none, []⟩
def lamBd : Expr → Expr
  | .Lambda _ b _ _ => b
  | e => e
def lamSc : Expr → Scope → Scope
  | .Lambda _ _ s _, _ => s
  | _, s => s
def mkLam (q : Str) (e : Expr) (s : Scope) (c' : Addr) : NF := ⟨"<lambda>", q ++ ".<locals>." ++ "<lambda>", lamPs e, [], lamSc e s, [], c'⟩
end Kw
set_option Elab.async false
set_option linter.all false
set_option maxRecDepth 100000
set_option maxHeartbeats 4000000
namespace Kw
open PySem PySem.Spec PyProof.Rows L2 Evl KwX NdefX LamX
section
variable {P : Program} {w : World} {K : PySem.W.Frag} {mg : Str → Option Value} {base : Heap}
/-! ### what is no laying: NoLaying -/
def spChLX (K : PySem.W.Frag) (C : Addr) : Sp := fun vs H _ E => ∃ (v : V) (d : PyData), vs = [v] ∧ Dp K H v d ∧ layD d = false ∧ ∀ H', Ex H H' → E (.ref C) none H'
theorem ok_chLX {f fIsL : Addr} {fd fdIsL : FuncData} {k : Nat} (F : Fun K "check_laying" "check_laying" sChL f fd) (DIsL : Df K mg "is_laying" sIsL ["thing"] fIsL fdIsL) (GIsL : FnOk P w K mg base CX0 (k + 2) fIsL fdIsL ["thing"] (spIsL K)) {C : Addr} (T : ExcT K mg "NoLaying" C) : FnOk P w K mg base (L2N.CX P w) (k + 3) f fd ["laying"] (spChLX K C) := by
  refine okN F scChL (fun vs H Q E h => ?_) (fun cdv A outer s H vs Q E hr h => ?_)
  · obtain ⟨v, d, rfl, _⟩ := h
    rfl
  · obtain ⟨v, d, rfl, hd, hl, q⟩ := h
    refine ⟨_, (pss_one (ps_if (pt_not (pt_val (pcall DIsL GIsL (hr.mono (by omega)) (pa_cons (pv 0) pa_nil)))) (pss_one (L2N.ps_raise rfl (L2N.takes_of rfl rfl rfl rfl) (L2N.pmk_own PySem.F.excBase_ValueError T.q T.g T.k (raises_own T.b T.t) (by exact rfl)))) pss_nil)), ?_⟩
    exact s_when (b := true) (et_not (et_B (ev_call (z := .bl false) (ea_cons (ev_var (v := v) rfl) ea_nil) (SpV.of fun H2 e2 Q q E => ⟨v, d, rfl, dp_ex e2 _ _ hd, by rw [hl]; exact q⟩)))) (tu := fun _ _ H => E (.ref C) none H) (fun _ H2 e2 => q H2 e2) (fun hb => absurd hb (by decide))
def spRdOX (K : PySem.W.Frag) (C : Addr) : Sp := fun vs H _ E => ∃ (v : V) (d : PyData), vs = [v] ∧ Dp K H v d ∧ layD d = false ∧ ∀ H', Ex H H' → E (.ref C) none H'
theorem ok_rdOX {f fChL : Addr} {fd fdChL : FuncData} {k : Nat} {C : Addr} (F : Fun K "rounds_of" "rounds_of" sRdO f fd) (DChL : Df K mg "check_laying" sChL ["laying"] fChL fdChL) (GXChL : FnOk P w K mg base (L2N.CX P w) (k + 3) fChL fdChL ["laying"] (spChLX K C)) : FnOk P w K mg base (L2N.CX P w) (k + 4) f fd ["laying"] (spRdOX K C) := by
  refine okN F scRdO (fun vs H Q E h => ?_) (fun cdv A outer s H vs Q E hr h => ?_)
  · obtain ⟨v, d, rfl, _⟩ := h
    rfl
  · obtain ⟨v, d, rfl, hd, hl, q⟩ := h
    refine ⟨_, (pss_cons (ps_expr (pe_callS GXChL (hr.mono (by omega)) (by rfl) DChL.g DChL.F.kp DChL.b (fun σ => L2N.passAt (L2N.takes_of rfl rfl rfl rfl) σ) (pa_cons (pv 0) pa_nil))) pss_never), ?_⟩
    exact ⟨v, rfl, v, d, rfl, hd, hl, q⟩
end
section
variable {K : PySem.W.Frag} {σ : L2.St} {H H' : Hp} {ta tb te tl : TE}
theorem eu_tupR {n : Nat} (ha : Ev ta σ H (.int n)) (hn : n ≤ 100000) : EvU (tTupRg (tRg1 ta)) σ H ((List.range n).map vN) := fun H1 e Q q =>
  ha H1 e _ fun H2 e2 => ⟨n, rfl, RgOk.of_le (by omega) (by omega) (by omega) (by omega), fun p hp => q p _ (fresh_back e2 hp) (e2.trans (Ex.new hp)) (by rw [rgV_nat]; exact upd_same)⟩
/-- all but the last -/
theorem cut_last (ys : List V) (v : V) : cutV (ys ++ [v]) none (some (-1)) = ys := by
  unfold cutV HT.sIx
  rw [List.length_append, List.length_singleton]
  show List.take ((if (-1 : Int) < 0 then ((-1 : Int) + ((ys.length + 1 : Nat) : Int)).toNat else _) - 0) (List.drop 0 (ys ++ [v])) = ys
  rw [if_pos (by decide), show ((-1 : Int) + ((ys.length + 1 : Nat) : Int)).toNat = ys.length by omega, Nat.sub_zero, List.drop_zero]
  simp
theorem rv_eqLR {p q : Addr} {ys zs : List V} {a b : List (List Nat)} (h1 : SqL K H p ys) (t1 : TupsAt K H ys a) (h2 : SqL K H q zs) (t2 : TupsAt K H zs b) : RV (rEqD K) (.ref p) (.ref q) H (.bl (decide (a = b))) := fun H1 e Q k =>
  ⟨_, _, .lst (ex_l e h1) (dp_tups (t1.keep (KeepT.ex e))), .lst (ex_l e h2) (dp_tups (t2.keep (KeepT.ex e))), shaped_lR a, shaped_lR b, by
    rw [show PyData.eqv (.list (dR a)) (.list (dR b)) = decide (a = b) by rw [PyData.eqv, eqv_dR]]
    exact k H1 (Ex.refl H1)⟩
/-- displays of tuples of numbers -/
def EvTs (K : PySem.W.Frag) (ta : TA) (σ : L2.St) (H : Hp) (rs : List (List Nat)) : Prop := ∀ H1, Ex H H1 → ∀ Q : List V → Hp → Prop, (∀ vs H2, Ex H1 H2 → TupsAt K H2 vs rs → Q vs H2) → ta σ H1 Q
theorem ts_nil : EvTs K tNil σ H [] := fun H1 _ Q q => q [] H1 (Ex.refl H1) .nil
theorem ts_cons {ta : TA} {r : List Nat} {rs : List (List Nat)} (h : EvU te σ H (r.map vN)) (hr : EvTs K ta σ H rs) : EvTs K (tCons te ta) σ H (r :: rs) := fun H1 e Q q =>
  h H1 e _ fun p H2 np e2 hp => hr H2 (e.trans e2) _ fun vs H3 e3 hv => q (.ref p :: vs) H3 (e2.trans e3) (.cons ⟨p, rfl, st_of (e3 _ _ hp)⟩ hv)
theorem er_lst {ta : TA} {rs : List (List Nat)} (h : EvTs K ta σ H rs) (hl : rs.length ≤ 1000) : EvR K (tLst ta) σ H rs := fun H1 e Q q =>
  h H1 e _ fun vs H2 e2 hv => ⟨sz_of (by rw [show vs.length = _ from paired_len hv]; omega), fun p np => q p vs _ (fresh_back e2 np) (e2.trans (Ex.new np)) upd_same (hv.keep (KeepT.ex (Ex.new np)))⟩
theorem ev_eqRR {a b : List (List Nat)} (ha : EvR K ta σ H a) (hb : ∀ H1, Ex H H1 → EvR K tb σ H1 b) : Ev (tOp (rEqD K) ta tb) σ H (.bl (decide (a = b))) := fun H1 e Q q =>
  ha H1 e _ fun p ys H2 np e2 hp hT => hb H2 (e.trans e2) H2 (Ex.refl H2) _ fun p2 zs H3 np2 e3 hp2 hT2 => rv_eqLR (K := K) (sq_of (e3 _ _ hp)) (hT.keep (KeepT.ex e3)) (sq_of hp2) hT2 H3 (Ex.refl H3) _ fun H4 e4 => q H4 ((e2.trans e3).trans e4)
theorem ev_neVR {p : Addr} {ys : List V} {a b : List (List Nat)} (ha : Ev ta σ H (.ref p)) (hp : SqL K H p ys) (hT : TupsAt K H ys a) (hb : EvR K tb σ H b) : Ev (tOp (rNeD K) ta tb) σ H (.bl (!decide (a = b))) := fun H1 e Q q =>
  ha H1 e _ fun H2 e2 => hb H2 (e.trans e2) _ fun p2 zs H3 np2 e3 hp2 hT2 => rv_neLR (K := K) (ex_l ((e.trans e2).trans e3) hp) (hT.keep (KeepT.ex ((e.trans e2).trans e3))) (sq_of hp2) hT2 H3 (Ex.refl H3) _ fun H4 e4 => q H4 ((e2.trans e3).trans e4)
end
/-- rounds_of(laying), laying here or written -/
theorem er_rdO {K : PySem.W.Frag} {σ : L2.St} {H : Hp} {ta : TE} {a : Addr} {lay : List Nat} (ha : Ev ta σ H (.ref a)) (hs : SqT K H a (lay.map vN)) (hL : IsLay lay) (h1 : 1 ≤ lay.length) (h2 : lay.length ≤ 30) : EvR K (tCall (spRdO K) [] E0 (tCons ta tNil)) σ H (cycles lay) := er_call (ea_cons ha ea_nil) fun H1 e1 Q q E => ⟨a, lay, rfl, ex_t e1 hs, hL, h1, h2, q⟩
theorem er_rdOU {K : PySem.W.Frag} {σ : L2.St} {H : Hp} {ta : TE} {lay : List Nat} (ha : EvU ta σ H (lay.map vN)) (hL : IsLay lay) (h1 : 1 ≤ lay.length) (h2 : lay.length ≤ 30) : EvR K (tCall (spRdO K) [] E0 (tCons ta tNil)) σ H (cycles lay) := fun H1 e Q q =>
  ha H1 e _ fun p H2 np e2 hp => ⟨p, lay, rfl, st_of hp, hL, h1, h2, fun p2 ys H3 np2 e3 h3 hT => q p2 ys H3 (fresh_back e2 np2) (e2.trans e3) h3 hT⟩
theorem er_cyc {K : PySem.W.Frag} {σ : L2.St} {H : Hp} {ta : TE} {a : Addr} {lay : List Nat} (ha : Ev ta σ H (.ref a)) (hs : SqT K H a (lay.map vN)) (hL : IsLay lay) (h2 : lay.length ≤ 30) : EvR K (tCall (spCyc K) [] E0 (tCons ta tNil)) σ H (cycles lay) := er_call (ea_cons ha ea_nil) fun H1 e1 Q q E => ⟨a, lay, rfl, ex_t e1 hs, hL, h2, q⟩
end Kw
set_option Elab.async false
set_option linter.all false
set_option maxRecDepth 100000
set_option maxHeartbeats 4000000
namespace Kw
open PySem PySem.Spec PyProof.Rows L2 Evl
theorem Bag.other {H H' : Hp} {a b : Addr} (hb : Bag H b) (ha : Bag H a) (e : ExB a H H') (ha' : Bag H' a) : Bag H' b := by
  by_cases hab : b = a
  · rw [hab]
    exact ha'
  · obtain ⟨d, n, xs, g1, g2, g3⟩ := hb
    obtain ⟨d', n', xs', f1, _⟩ := ha
    have hd : d ≠ a := fun z => by
      rw [z, f1] at g2
      have e := congrArg List.length (HO.lst.inj (Option.some.inj g2))
      rw [List.length_map, g3.1] at e
      cases e
    exact ⟨d, n, xs, e _ _ hab g1, e _ _ hd g2, g3⟩
/-- the loop over the bags of a script -/
theorem bags_for {K : PySem.W.Frag} {lim : Nat} {D : Ends} {body : TS} {σ : L2.St} {H : Hp} {a : Addr} {ns : List Int} (S : L2.St → Prop) (h0 : σ[0]? = some (some (.ref a))) (hS : SqL K H a (ns.map V.int)) (hl : ns.length ≤ 63) (hs : S σ)
    (turn : ∀ b H1 σ' (N : L2.St → Hp → Prop), S σ' → Bag H1 b → (∀ σ'' H'', S σ'' → ExB b H1 H'' → Bag H'' b → N σ'' H'') → body { D with nx := N, ct := N, bk := D.nx } (σ'.set 1 (some (.ref b))) H1)
    (done : ∀ σ' H', S σ' → D.nx σ' H') : tFor (iList K (tCall (spBags K lim) [] E0 (tCons (tVar 0) (tCons (tC (.int lim)) tNil)))) (gName 1) body D σ H := by
  refine ⟨.ref a, h0, a, ns, rfl, hS, by omega, fun p ys H1 np e1 hp hB hne hln => ⟨p, rfl, ⟨ys, sq_of hp⟩, ?_⟩⟩
  refine for_it (walk_list (K := K) (a := p) (xs := ys)) (fun _ σ' H' => S σ' ∧ H' p = some (.lst ys) ∧ BagsAt H' ys) ⟨hs, hp, hB⟩ (fun i σ' H' _ hP => sq_of hP.2.1) (fun i x σ' H2 H3 hi hP hy => ?_) (fun σ' H2 hP => done σ' H2 hP.1)
  obtain ⟨s2, hp2, hB2⟩ := hP
  obtain ⟨rfl, hx⟩ := hy
  have hm := List.mem_of_getElem? hx
  obtain ⟨b, rfl, hb⟩ := hB2 x hm
  have hpb : p ≠ b := fun z => hne _ hm (by rw [z])
  exact turn b _ σ' _ s2 hb fun σ'' H'' hs x2 b2 => ⟨hs, x2 _ _ hpb hp2, (fun y hy => by
    obtain ⟨b', rfl, hb'⟩ := hB2 y hy
    exact ⟨b', rfl, hb'.other hb x2 b2⟩)⟩
def spLaw (K : PySem.W.Frag) : Sp := fun vs H Q _ => ∃ (a : Addr) (ns : List Int), vs = [.ref a] ∧ SqL K H a (ns.map V.int) ∧ ns.length ≤ 63 ∧ ∀ H', Q (.bl true) H'
/-- the slots of a law: the script's, then n others -/
def SlotsN (a : Addr) (n : Nat) (σ : L2.St) : Prop := ∃ ys : List (Option V), ys.length = n ∧ σ = some (.ref a) :: ys
end Kw
set_option Elab.async false
set_option linter.all false
set_option maxRecDepth 100000
set_option maxHeartbeats 4000000
namespace Kw
open PySem PySem.Spec PyProof.Rows L2 Evl KwX NdefX LamX
section
variable {K : PySem.W.Frag} {H H' : Hp}
theorem sqL_n {a : Addr} {xs : List V} (e : ExtN H H') (h : SqL K H a xs) : SqL K H' a xs := by
  rcases h with (h | ⟨o, h⟩) | h
  · exact .inl (.inl (e _ _ h fun ps z => by cases z))
  · exact .inl (.inr ⟨o, e _ _ h fun ps z => by cases z⟩)
  · exact .inr h
mutual
theorem dp_n (e : ExtN H H') : ∀ (d : PyData) (v : V), Dp K H v d → Dp K H' v d
  | .none, _, h => by cases h; exact .non
  | .bool b, _, h => by cases h; exact .bl b
  | .int i, _, h => by cases h; exact .int i
  | .str x, _, h => by cases h; exact .str x
  | .list ds, _, h => by
    cases h with
    | lst h a => exact .lst (sqL_n e h) (dpA_n e ds _ a)
  | .tuple ds, _, h => by
    cases h with
    | tup h a => exact .tup (keep_t (keepN e) h) (dpA_n e ds _ a)
  | .dict _, _, h => by cases h
theorem dpA_n (e : ExtN H H') : ∀ (ds : List PyData) (vs : List V), DpAll K H vs ds → DpAll K H' vs ds
  | [], _, h => by cases h; exact .nil
  | d :: ds, _, h => by
    cases h with
    | cons a b => exact .cons (dp_n e d _ a) (dpA_n e ds _ b)
end
end
/-! ### displays of data -/
def EvD (K : PySem.W.Frag) (te : TE) (σ : L2.St) (H : Hp) (d : PyData) : Prop := EvP te σ H (fun v H' => Dp K H' v d)
def EvDA (K : PySem.W.Frag) (ta : TA) (σ : L2.St) (H : Hp) (ds : List PyData) : Prop := ∀ H1, Ex H H1 → ∀ Q : List V → Hp → Prop, (∀ vs H2, Ex H1 H2 → DpAll K H2 vs ds → Q vs H2) → ta σ H1 Q
section
variable {K : PySem.W.Frag} {σ : L2.St} {H H' : Hp} {ta tb tc te tl : TE} {t u : TT} {x y z v : V} {r r' : R2} {d : PyData} {ds : List PyData} {D : Ends} {g : TG} {tu tz : TS}
theorem ed_of (h : Ev te σ H v) (hd : Dp K H v d) : EvD K te σ H d := fun H1 e Q q => h H1 e Q fun H2 e2 => q v H2 e2 (dp_ex (e.trans e2) _ _ hd)
theorem ed_non : EvD K (tC .non) σ H .none := ed_of ev_c .non
theorem ed_bl {b : Bool} : EvD K (tC (.bl b)) σ H (.bool b) := ed_of ev_c (.bl b)
theorem ed_int {i : Int} : EvD K (tC (.int i)) σ H (.int i) := ed_of ev_c (.int i)
theorem ed_str {s : Str} : EvD K (tC (.str s)) σ H (.str s) := ed_of ev_c (.str s)
theorem ed_neg {i : Int} : EvD K (tUn (rU fun i => .int (-i)) (tC (.int i))) σ H (.int (-i)) := ed_of (ev_un ev_c ru_neg) (.int _)
theorem ed_var {i : Nat} (h : σ[i]? = some (some v)) (hd : Dp K H v d) : EvD K (tVar i) σ H d := ed_of (ev_var h) hd
theorem da_nil : EvDA K tNil σ H [] := fun H1 _ Q q => q [] H1 (Ex.refl H1) .nil
theorem da_cons {ta : TA} (h : EvD K te σ H d) (hr : EvDA K ta σ H ds) : EvDA K (tCons te ta) σ H (d :: ds) := fun H1 e Q q =>
  h H1 e _ fun v H2 e2 hv => hr H2 (e.trans e2) _ fun vs H3 e3 hvs => q (v :: vs) H3 (e2.trans e3) (.cons (dp_ex e3 _ _ hv) hvs)
theorem ed_tup {ta : TA} (h : EvDA K ta σ H ds) (hl : ds.length ≤ 1000) : EvD K (tTup ta) σ H (.tuple ds) := fun H1 e Q q =>
  h H1 e _ fun vs H2 e2 hvs => ⟨sz_of (by rw [dpA_len hvs]; omega), fun p hp => q (.ref p) _ (e2.trans (Ex.new hp)) (.tup (st_of upd_same) (dpA_ex (Ex.new hp) _ _ hvs))⟩
theorem ed_lst {ta : TA} (h : EvDA K ta σ H ds) (hl : ds.length ≤ 1000) : EvD K (tLst ta) σ H (.list ds) := fun H1 e Q q =>
  h H1 e _ fun vs H2 e2 hvs => ⟨sz_of (by rw [dpA_len hvs]; omega), fun p hp => q (.ref p) _ (e2.trans (Ex.new hp)) (.lst (sq_of upd_same) (dpA_ex (Ex.new hp) _ _ hvs))⟩
/-- a for over a displayed tuple -/
theorem for_DT {ta : TA} (h : EvDA K ta σ H ds) (hl : ds.length ≤ 1000) (k : ∀ p vs H1, Ex H H1 → H1 p = some (.tup vs) → DpAll K H1 vs ds → tFor (fun _ H R => R (Itt K p) H) g tu D σ H1) : tFor (iTup K (tTup ta)) g tu D σ H :=
  h H (Ex.refl H) _ fun vs H2 e2 hvs => ⟨sz_of (by rw [dpA_len hvs]; omega), fun p hp => ⟨p, rfl, ⟨vs, st_of upd_same⟩, k p vs _ (e2.trans (Ex.new hp)) upd_same (dpA_ex (Ex.new hp) _ _ hvs)⟩⟩
theorem q_for_DT {ta : TA} (h : EvDA K ta σ H ds) (hl : ds.length ≤ 1000) (k : ∀ p vs H1, Ex H H1 → H1 p = some (.tup vs) → DpAll K H1 vs ds → tFor (fun _ H R => R (Itt K p) H) g tu { D with nx := tz D } σ H1) : tSeq (tFor (iTup K (tTup ta)) g tu) tz D σ H := for_DT h hl k
theorem for_src (h : tl σ H fun v H1 => ∃ a, v = .ref a ∧ (∃ xs, SqL K H1 a xs) ∧ tFor (fun _ H R => R (Itl K a) H) g tu D σ H1) : tFor (iList K tl) g tu D σ H := h
theorem q_for_src (h : tl σ H fun v H1 => ∃ a, v = .ref a ∧ (∃ xs, SqL K H1 a xs) ∧ tFor (fun _ H R => R (Itl K a) H) g tu { D with nx := tz D } σ H1) : tSeq (tFor (iList K tl) g tu) tz D σ H := h
theorem call_src {sp : Sp} {ta : TA} {E : XK} {vs : List V} {Q : VK} (h : EvA ta σ H vs) (k : ∀ H1, Ex H H1 → sp vs H1 Q E) : tCall sp [] E ta σ H Q := h H (Ex.refl H) _ fun H1 e => by
  rw [List.append_nil]
  exact k H1 e
end
end Kw
set_option Elab.async false
set_option linter.all false
set_option maxRecDepth 100000
set_option maxHeartbeats 4000000
namespace Kw
open PySem PySem.Spec PyProof.Rows L2 Evl HT
section
variable {prog : Program} {w : World} {A : Around} {E : Value → Shared → Prop} {s : Shared}
theorem sliceApplied_rev {sl : Addr} {vl vu vs : Value} {n : Nat} {Q : Int × Int × Nat → Shared → Prop} (hs : s.heap.IsSliceOf sl vl vu vs) (pl : IsPart vl none) (pu : IsPart vu none) (ps : IsPart vs (some (-1)))
    (h : Q ((n : Int) - 1, -1, n) s) : wpAny (model prog w) A (Builtin.Slice.sliceApplied (.ref sl) (pure (n : Int))) Q E s := by
  obtain ⟨os, hos, hcs, hds⟩ := id hs
  unfold Builtin.Slice.sliceApplied Builtin.Slice.sliceFields
  refine wpAny_bind (wpAny_bind (wpAny_field hos hds (x := vl) rfl (wpAny_bind (wpAny_field hos hds (x := vu) rfl (wpAny_bind (wpAny_field hos hds (x := vs) rfl (wpAny_pure ?_)))))))
  refine wpAny_bind (slicePart_ ps ?_)
  show wpAny _ _ (if ((-1 : Int) == 0) = true then _ else _) _ _ s
  rw [if_neg (by decide)]
  refine wpAny_bind (slicePart_ pl (wpAny_bind (slicePart_ pu (wpAny_bind (wpAny_pure ?_)))))
  show wpAny _ _ (pure ((n : Int) - 1, (-1 : Int), Builtin.Slice.slicePlaces ((n : Int) - 1) (-1) (-1))) _ _ s
  have e : Builtin.Slice.slicePlaces ((n : Int) - 1) (-1) (-1) = n := by
    unfold Builtin.Slice.slicePlaces
    rw [if_neg (by decide)]
    by_cases hn : n = 0
    · subst hn
      rfl
    · rw [if_pos (by omega), show (-(-1) : Int) = 1 from rfl, Int.ediv_one]
      omega
  rw [e]
  exact wpAny_pure h
theorem rev_pick (xs : Array Value) : ((List.range xs.size).filterMap fun (m : Nat) => xs[(((xs.size : Int) - 1) + (m : Int) * (-1)).toNat]?).toArray = xs.toList.reverse.toArray := by
  have e : (fun (m : Nat) => xs[(((xs.size : Int) - 1) + (m : Int) * (-1)).toNat]?) = fun m => xs[xs.size - 1 - m]? := by
    funext m
    have : (((xs.size : Int) - 1) + (m : Int) * (-1)).toNat = xs.size - 1 - m := by omega
    rw [this]
  rw [e]
  have h := congrArg (List.filterMap fun (m : Nat) => xs[m]?) (PySem.W.krv_range xs.size)
  rw [List.filterMap_map, List.filterMap_reverse, PySem.W.krv_all] at h
  rw [← h]
  rfl
theorem getItem_tuple_rev {t sl : Addr} {items : Array Value} {vl vu vs : Value} {Q : Value → Shared → Prop} (ht : IsTup s.heap t items) (hs : s.heap.IsSliceOf sl vl vu vs) (pl : IsPart vl none) (pu : IsPart vu none) (ps : IsPart vs (some (-1)))
    (h : Q (.ref s.heap.objs.size) { s with heap := s.heap.push { cls := .type "tuple", data := .seq items.toList.reverse.toArray } })
    (hsz : items.size ≤ sizeLine) : wpAny (model prog w) A (getItem (.ref t) (.ref sl)) Q E s := by
  have htake : sizeOk (.seq items.toList.reverse.toArray) := by
    show items.toList.reverse.toArray.size ≤ sizeLine
    rw [List.size_toArray, List.length_reverse, Array.length_toList]
    exact hsz
  obtain ⟨os, hos, hcs, hds⟩ := id hs
  have hTs : s.TypeIs (.ref sl) "slice" := ⟨os, hos, hcs⟩
  unfold getItem
  try with_reducible refine wpAny_holding ?_
  first | refine wpAny_bind (wpAny_pure ?_) | skip
  refine wpAny_bind (wpAny_sequenceKey ht.typeIs (by decide) ?_)
  refine wpAny_bind (wpAny_callSpecial?_slot (name := Str.ofString "__getitem__") ht.typeIs PyProof.Rows.slot_tuple_getitem
    (wpAny_call_entry PyProof.Rows.slot_tuple_getitem ht.typeIs entry_tuple_getitem ?_ (args_tuple_getitem _ _)))
  show wpAny _ _ (Builtin.Tuple.tupleItemsOf (.ref t) >>= _) _ _ s
  refine wpAny_bind (tupleItemsOf_ ht ?_)
  refine wpAny_bind (wpAny_typeOf hTs ?_)
  rw [if_pos (by decide)]
  refine wpAny_bind (sliceApplied_rev hs pl pu ps ?_)
  have hno : ¬ ((((items.size : Int) - 1) == 0 && (-1 : Int) == 1 && items.size == items.size) = true) := by
    rw [show ((-1 : Int) == 1) = false from rfl, Bool.and_false]
    exact Bool.false_ne_true
  show wpAny _ _ (if (((items.size : Int) - 1) == 0 && (-1 : Int) == 1 && items.size == items.size) = true then _ else _) _ _ s
  rw [if_neg hno, rev_pick]
  first
    | exact wpAny_bind (m := Builtin.Tuple.tupleExact _) (wpAny_newObj_type (wpAny_pure ⟨_, rfl, wpAny_pure h⟩) htake)
    | exact wpAny_bind (m := Builtin.Tuple.tupleExact _) (wpAny_newObj_type (wpAny_bind (wpAny_pure (wpAny_pure ⟨_, rfl, wpAny_pure h⟩))) htake)
    | exact wpAny_bind (wpAny_bind (m := Builtin.Tuple.tupleExact _) (wpAny_newObj_type (wpAny_pure (wpAny_pure ⟨_, rfl, wpAny_pure h⟩)) htake))
    | exact wpAny_bind (wpAny_bind (m := Builtin.Tuple.tupleExact _) (wpAny_newObj_type (wpAny_pure ⟨_, rfl, wpAny_pure h⟩) htake))
end
section
variable {X : Cx}
def tRevT (K : PySem.W.Frag) (te : TE) : TE := fun σ H Q => te σ H fun x H1 => ∃ a xs, x = .ref a ∧ SqT K H1 a xs ∧ ∀ p, H1 p = none → Q (.ref p) (upd H1 p (.tup xs.reverse))
theorem pe_revT {e : Expr} {te : TE} {k : Nat} {p1 p2 p3 pos : Pos} (he : PE X e te) : PE X (.Subscript e (.Slice none none (some (.UnaryOp .USub (.Constant (.int 1) k p1) p2)) p3) pos) (tRevT X.K te) := by
  refine ⟨fun pins s σ H Q I h => ?_⟩
  refine Subscript_ (thn (he.run pins s σ H _ I h) fun v s1 ⟨x, H1, I1, r1, q1⟩ => ?_)
  obtain ⟨a, xs, ex, hx, q⟩ := q1
  subst ex
  cases r1
  have hst : PO X (some (.UnaryOp .USub (.Constant (.int 1) k p1) p2)) (tPart (tUn (rU fun i => .int (-i)) (tC (.int 1)))) := po_some (pe_un un_neg pe_int)
  refine wpAny_Slice (thn (po_none.run pins s1 σ H1 (fun o H2 => o = none ∧ H2 = H1) I1 ⟨rfl, rfl⟩) fun vl s2 ⟨l, H2, I2, pl, el, e2⟩ => ?_)
  subst el e2
  refine thn (po_none.run pins s2 σ H2 (fun o H3 => o = none ∧ H3 = H2) I2 ⟨rfl, rfl⟩) fun vu s3 ⟨u, H3, I3, pu, eu, e3⟩ => ?_
  subst eu e3
  refine thn (hst.run pins s3 σ H3 (fun o H4 => o = some (-1) ∧ H4 = H3) I3 ⟨1, rfl, -1, rfl, rfl, rfl⟩) fun vs s4 ⟨o, H4, I4, ps, eo, e4⟩ => ?_
  subst eo e4
  have I5 : Inv X pins σ H4 { s4 with heap := s4.heap.push { cls := .type "slice", data := .fields #[vl, vu, vs] } } := I4.kept (t' := s4.toks) fun b ob q => Heap.get?_push_of_some _ q
  obtain ⟨its, r, ht, hz⟩ := I5.tuple hx
  have hlen : its.toArray.size = xs.length := by rw [List.size_toArray]; exact r.length.symm
  show wpAny (model X.prog X.w) X.A (subscriptTail e (.Slice none none (some (.UnaryOp .USub (.Constant (.int 1) k p1) p2)) p3) (.ref a) (.ref s4.heap.objs.size)) (EP X pins σ Q) X.xe { s4 with heap := s4.heap.push { cls := .type "slice", data := .fields #[vl, vu, vs] } }
  refine tail_any (ops := [.ref a, .ref s4.heap.objs.size]) ht.typeIs (PyProof.Rows.slot_tuple_getitem.lookup) ?_ (by with_unfolding_all rfl)
  refine getItem_tuple_rev ht (Heap.IsSliceOf.new _ vl vu vs) pl pu ps ?_ (by rw [hlen]; exact hz)
  refine ⟨.ref _, _, I5.laid (t' := s4.toks) (o := .tup xs.reverse) (fun b ob q => Heap.get?_push_of_some _ q) (Nat.le_refl _) ?_, rfl, q _ (I5.hok.fresh (Nat.le_refl _))⟩
  exact ⟨by rw [List.length_reverse]; exact hz, _, r.reverse, IsTup.new _ _⟩
end
section
variable {K : PySem.W.Frag} {σ : L2.St} {H H' : Hp} {te : TE}
theorem ep_revT {a : Addr} {xs : List V} (ha : Ev te σ H (.ref a)) (hx : SqT K H a xs) : EvU (tRevT K te) σ H xs.reverse := fun H1 e Q q =>
  ha H1 e _ fun H2 e2 => ⟨a, xs, rfl, ex_t (e.trans e2) hx, fun p hp => q p _ (fresh_back e2 hp) (e2.trans (Ex.new hp)) upd_same⟩
end
end Kw
set_option Elab.async false
set_option linter.all false
set_option maxRecDepth 100000
set_option maxHeartbeats 4000000
namespace Kw
open PySem PySem.Spec PyProof.Rows L2 Evl
/-! ### data of bounded size -/
inductive Gd (m : Nat) : Nat → PyData → Prop where
  | non (n : Nat) : Gd m n .none
  | bl (n : Nat) (b : Bool) : Gd m n (.bool b)
  | int (n : Nat) (i : Int) : Gd m n (.int i)
  | str (n : Nat) {z : Str} (h : z.length ≤ 1000 ∧ PyData.strOk z = true) : Gd m n (.str z)
  | tup {n : Nat} {ds : List PyData} (hl : ds.length ≤ m) (h : ∀ d ∈ ds, Gd m n d) : Gd m (n + 1) (.tuple ds)
  | lst {n : Nat} {ds : List PyData} (hl : ds.length ≤ m) (h : ∀ d ∈ ds, Gd m n d) : Gd m (n + 1) (.list ds)
theorem Gd.mono {m n : Nat} {d : PyData} (h : Gd m n d) : ∀ {m' n' : Nat}, m ≤ m' → n ≤ n' → Gd m' n' d := by
  induction h with
  | non n => intro m' n' _ _; exact .non _
  | bl n b => intro m' n' _ _; exact .bl _ b
  | int n i => intro m' n' _ _; exact .int _ i
  | str n h => intro m' n' _ _; exact .str _ h
  | tup hl h ih =>
    intro m' n' h1 h2
    match n', h2 with
    | n' + 1, h2 => exact .tup (by omega) fun d hd => ih d hd h1 (by omega)
  | lst hl h ih =>
    intro m' n' h1 h2
    match n', h2 with
    | n' + 1, h2 => exact .lst (by omega) fun d hd => ih d hd h1 (by omega)
theorem Gd.strI {m n : Nat} {z : Str} (h : Gd m n (.str z)) : z.length ≤ 1000 ∧ PyData.strOk z = true := by
  cases h with
  | str n h => exact h
theorem Gd.tupI {m n : Nat} {ds : List PyData} (h : Gd m n (.tuple ds)) : ∃ n', ∀ d ∈ ds, Gd m n' d := by
  cases h with
  | tup hl h => exact ⟨_, h⟩
theorem gA_nil {m n : Nat} : ∀ d ∈ ([] : List PyData), Gd m n d := fun d h => by cases h
theorem gA_cons {m n : Nat} {a : PyData} {r : List PyData} (h : Gd m n a) (hr : ∀ d ∈ r, Gd m n d) : ∀ d ∈ a :: r, Gd m n d := fun d hd => by
  rcases List.mem_cons.mp hd with rfl | hd
  · exact h
  · exact hr d hd
theorem gA_app {m n : Nat} {a r : List PyData} (h : ∀ d ∈ a, Gd m n d) (hr : ∀ d ∈ r, Gd m n d) : ∀ d ∈ a ++ r, Gd m n d := fun d hd => (List.mem_append.mp hd).elim (h d) (hr d)
theorem paired_append {α β : Type} {F : α → β → Prop} : ∀ {xs zs : List α} {ys ws : List β}, Paired F xs ys → Paired F zs ws → Paired F (xs ++ zs) (ys ++ ws)
  | _, _, _, _, .nil, h => h
  | _, _, _, _, .cons a b, h => .cons a (paired_append b h)
/-! ### a part of the heap of one's own -/
structure Gx (G H G2 H2 : Hp) : Prop where
  old : Ex G G2
  into : Ex G2 H2
  dom : ∀ a, G2 a ≠ none → G a ≠ none ∨ H a = none
theorem Gx.refl {G H : Hp} (h : Ex G H) : Gx G H G H := ⟨Ex.refl G, h, fun a ha => .inl ha⟩
theorem Gx.trans {G H G2 H2 G3 H3 : Hp} (e : Ex H H2) (h : Gx G H G2 H2) (h' : Gx G2 H2 G3 H3) : Gx G H G3 H3 := ⟨h.old.trans h'.old, h'.into, fun a ha => (h'.dom a ha).elim (h.dom a) fun z => .inr (fresh_back e z)⟩
theorem Gx.up {G H G2 H2 H3 : Hp} (h : Gx G H G2 H2) (e : Ex H2 H3) : Gx G H G2 H3 := ⟨h.old, h.into.trans e, h.dom⟩
theorem Gx.from {G H H1 G2 H2 : Hp} (e : Ex H H1) (h : Gx G H1 G2 H2) : Gx G H G2 H2 := ⟨h.old, h.into, fun a ha => (h.dom a ha).imp id (fresh_back e)⟩
theorem none_of {G H : Hp} {p : Addr} (e : Ex G H) (h : H p = none) : G p = none := fresh_back e h
theorem ex_upd2 {G H : Hp} {p : Addr} {o : HO} (e : Ex G H) : Ex (upd G p o) (upd H p o) := fun a ob h => by
  by_cases hp : a = p
  · subst hp
    rw [upd_same] at h ⊢
    exact h
  · rw [upd_ne hp] at h ⊢
    exact e _ _ h
theorem Gx.new {G H G2 H2 : Hp} {p : Addr} {o : HO} (e : Ex H H2) (h : Gx G H G2 H2) (hp : H2 p = none) : Gx G H (upd G2 p o) (upd H2 p o) := ⟨h.old.trans (Ex.new (none_of h.into hp)), ex_upd2 h.into, fun a ha => by
  by_cases z : a = p
  · subst z
    exact .inr (fresh_back e hp)
  · rw [upd_ne z] at ha
    exact h.dom a ha⟩
/-- what is no part of it may be changed -/
theorem ex_set {G H : Hp} {p : Addr} {o : HO} (e : Ex G H) (hp : G p = none) : Ex G (upd H p o) := fun a ob h => by
  by_cases z : a = p
  · subst z
    rw [hp] at h
    cases h
  · rw [upd_ne z]
    exact e _ _ h
def EvG (K : PySem.W.Frag) (te : TE) (σ : L2.St) (H : Hp) (d : PyData) : Prop := ∀ H1, Ex H H1 → ∀ G, Ex G H1 → ∀ Q : VK, (∀ v G2 H2, Ex H1 H2 → Gx G H1 G2 H2 → Dp K G2 v d → Q v H2) → te σ H1 Q
def EvGA (K : PySem.W.Frag) (ta : TA) (σ : L2.St) (H : Hp) (ds : List PyData) : Prop := ∀ H1, Ex H H1 → ∀ G, Ex G H1 → ∀ Q : List V → Hp → Prop, (∀ vs G2 H2, Ex H1 H2 → Gx G H1 G2 H2 → DpAll K G2 vs ds → Q vs H2) → ta σ H1 Q
section
variable {K : PySem.W.Frag} {σ : L2.St} {H H' G : Hp} {ta tb tc te tl : TE} {t u : TT} {x y z v : V} {r r' : R2} {d : PyData} {ds es : List PyData} {D : Ends} {g : TG} {tu tz : TS}
theorem eg_of (h : Ev te σ H v) (hd : ∀ G : Hp, Dp K G v d) : EvG K te σ H d := fun H1 e G g Q q => h H1 e Q fun H2 e2 => q v G H2 e2 ((Gx.refl g).up e2) (hd G)
theorem eg_non : EvG K (tC .non) σ H .none := eg_of ev_c fun _ => .non
theorem eg_bl {b : Bool} : EvG K (tC (.bl b)) σ H (.bool b) := eg_of ev_c fun _ => .bl b
theorem eg_int {i : Int} : EvG K (tC (.int i)) σ H (.int i) := eg_of ev_c fun _ => .int i
theorem eg_str {s : Str} : EvG K (tC (.str s)) σ H (.str s) := eg_of ev_c fun _ => .str s
theorem eg_neg {i : Int} : EvG K (tUn (rU fun i => .int (-i)) (tC (.int i))) σ H (.int (-i)) := eg_of (ev_un ev_c ru_neg) fun _ => .int _
theorem eg_pow {i j : Int} (h : CPow i j) : EvG K (tOp (rI CPow fun i j => .int (i ^ j.toNat)) (tC (.int i)) (tC (.int j))) σ H (.int (i ^ j.toNat)) := fun H1 e G g Q q => ⟨i, j, rfl, rfl, h, q _ G H1 (Ex.refl H1) (Gx.refl g) (.int _)⟩
theorem ga_nil : EvGA K tNil σ H [] := fun H1 _ G g Q q => q [] G H1 (Ex.refl H1) (Gx.refl g) .nil
theorem ga_cons {ta : TA} (h : EvG K te σ H d) (hr : EvGA K ta σ H ds) : EvGA K (tCons te ta) σ H (d :: ds) := fun H1 e G g Q q =>
  h H1 e G g _ fun v G2 H2 e2 g2 hv => hr H2 (e.trans e2) G2 g2.into _ fun vs G3 H3 e3 g3 hvs => q (v :: vs) G3 H3 (e2.trans e3) (g2.trans e2 g3) (.cons (dp_ex g3.old _ _ hv) hvs)
theorem eg_tup {ta : TA} (h : EvGA K ta σ H ds) (hl : ds.length ≤ 1000) : EvG K (tTup ta) σ H (.tuple ds) := fun H1 e G g Q q =>
  h H1 e G g _ fun vs G2 H2 e2 g2 hvs => ⟨sz_of (by rw [dpA_len hvs]; omega), fun p hp => q (.ref p) _ _ (e2.trans (Ex.new hp)) (g2.new e2 hp) (.tup (st_of upd_same) (dpA_ex (Ex.new (none_of g2.into hp)) _ _ hvs))⟩
theorem eg_lst {ta : TA} (h : EvGA K ta σ H ds) (hl : ds.length ≤ 1000) : EvG K (tLst ta) σ H (.list ds) := fun H1 e G g Q q =>
  h H1 e G g _ fun vs G2 H2 e2 g2 hvs => ⟨sz_of (by rw [dpA_len hvs]; omega), fun p hp => q (.ref p) _ _ (e2.trans (Ex.new hp)) (g2.new e2 hp) (.lst (sq_of upd_same) (dpA_ex (Ex.new (none_of g2.into hp)) _ _ hvs))⟩
/-- a new list of data -/
def EvGL (K : PySem.W.Frag) (te : TE) (σ : L2.St) (H : Hp) (ds : List PyData) : Prop := ∀ H1, Ex H H1 → ∀ G, Ex G H1 → ∀ Q : VK, (∀ p vs G2 H2, H1 p = none → Ex H1 H2 → Gx G H1 G2 H2 → H2 p = some (.lst vs) → DpAll K G2 vs ds → Q (.ref p) H2) → te σ H1 Q
theorem egl_lst {ta : TA} (h : EvGA K ta σ H ds) (hl : ds.length ≤ 1000) : EvGL K (tLst ta) σ H ds := fun H1 e G g Q q =>
  h H1 e G g _ fun vs G2 H2 e2 g2 hvs => ⟨sz_of (by rw [dpA_len hvs]; omega), fun p hp => q p vs G2 _ (fresh_back e2 hp) (e2.trans (Ex.new hp)) (g2.up (Ex.new hp)) upd_same hvs⟩
/-- xs = ys + [..] of data -/
theorem q_asgGL {i : Nat} (hg : Ex G H) (h : EvGL K te σ H ds) (k : ∀ p vs G2 H1, H p = none → Ex H H1 → Gx G H G2 H1 → H1 p = some (.lst vs) → DpAll K G2 vs ds → tz D (σ.set i (some (.ref p))) H1) : tSeq (tAsg te (gName i)) tz D σ H := h H (Ex.refl H) G hg _ fun p vs G2 H2 np e2 g2 hp hv => k p vs G2 H2 np e2 g2 hp hv
theorem q_catGL {i : Nat} {l : Addr} {xs : List V} (hg : Ex G H) (ha : Ev ta σ H (.ref l)) (hl : H l = some (.lst xs)) (hx : DpAll K G xs ds) (h : EvGL K te σ H es) (hn : ds.length + es.length ≤ 100000)
    (k : ∀ p vs G2 H1, H p = none → Ex H H1 → Gx G H G2 H1 → H1 p = some (.lst vs) → DpAll K G2 vs (ds ++ es) → tz D (σ.set i (some (.ref p))) H1) : tSeq (tAsg (tOp rCat ta te) (gName i)) tz D σ H :=
  ha H (Ex.refl H) _ fun H1 e1 => h H1 e1 G (hg.trans e1) _ fun b zs G2 H2 nb e2 g2 hb hz => ⟨l, b, xs, zs, rfl, rfl, e2 _ _ (e1 _ _ hl), hb, sz_of (by rw [dpA_len hx, dpA_len hz]; exact hn), fun p hp => k p _ G2 _ (fresh_back (e1.trans e2) hp) ((e1.trans e2).trans (Ex.new hp)) (Gx.from e1 (g2.up (Ex.new hp))) upd_same (dpA_of (paired_append (dpA_paired (dpA_ex g2.old _ _ hx)) (dpA_paired hz)))⟩
end
end Kw
set_option Elab.async false
set_option linter.all false
set_option maxRecDepth 100000
set_option maxHeartbeats 4000000
namespace Kw
open PySem PySem.Spec PyProof.Rows L2 Evl
abbrev sOdd : Stmt := topS 35
theorem scOdd : FnScope ["picks", "odd"] ["picks"] (defScope sOdd) := ⟨rfl, rfl, rfl, by decide +kernel, rfl, by decide +kernel, by decide +kernel⟩
def odds1 : List PyData := [.none, .bool true, .bool false, .int (-1), .int 0, .int 1, .int 6, .int 10, .int 30, .int 31, .int ((10 : Int) ^ (18 : Int).toNat), .int ((10 : Int) ^ (30 : Int).toNat), .str "", .str "red", .str "Red", .str "a b", .str "abcdefghi"]
def odds2 : List PyData := [.tuple [], .list [], .tuple [.int 0], .list [.int 0], .tuple [.int 1, .int 0], .tuple [.str "red"]]
def odds3 : List PyData := [.tuple [.tuple [.tuple []], .tuple []], .tuple [.tuple [.tuple [.tuple [], .tuple []]], .tuple []], .list [.tuple [.tuple [.tuple [], .tuple []]], .tuple []], .tuple [.tuple [], .tuple []], .tuple [.int 0, .int 0]]
theorem odds_gd1 : ∀ d ∈ odds1, Gd 20 4 d := by
  unfold odds1
  repeat' (first | exact Gd.non _ | exact Gd.bl _ _ | exact Gd.int _ _ | exact Gd.str _ (by decide +kernel) | exact gA_nil | (refine gA_cons ?_ ?_))
theorem odds_gd2 : ∀ d ∈ odds2, Gd 20 4 d := by
  unfold odds2
  repeat' (first | exact Gd.non _ | exact Gd.bl _ _ | exact Gd.int _ _ | exact Gd.str _ (by decide +kernel) | exact gA_nil | (refine gA_cons ?_ ?_) | (refine Gd.tup (by decide) ?_) | (refine Gd.lst (by decide) ?_))
theorem odds_gd3 : ∀ d ∈ odds3, Gd 20 4 d := by
  unfold odds3
  repeat' (first | exact Gd.non _ | exact Gd.bl _ _ | exact Gd.int _ _ | exact Gd.str _ (by decide +kernel) | exact gA_nil | (refine gA_cons ?_ ?_) | (refine Gd.tup (by decide) ?_) | (refine Gd.lst (by decide) ?_))
theorem odds_gd : ∀ d ∈ odds1 ++ odds2 ++ odds3, Gd 20 4 d := gA_app (gA_app odds_gd1 odds_gd2) odds_gd3
theorem at_mod {α : Type} {xs : List α} (h : xs ≠ []) (i : Int) : ∃ (j : Nat) (x : α), i % (xs.length : Int) = (j : Int) ∧ j < xs.length ∧ xs[j]? = some x ∧ atI xs (j : Int) = some x := by
  have hl : 0 < xs.length := List.length_pos_iff.mpr h
  have h0 := Int.emod_nonneg i (show (xs.length : Int) ≠ 0 by omega)
  have h1 := Int.emod_lt_of_pos i (show (0 : Int) < (xs.length : Int) by omega)
  obtain ⟨j, hj⟩ := Int.eq_ofNat_of_zero_le h0
  rw [hj] at h1
  have hjl : j < xs.length := by omega
  refine ⟨j, xs[j], hj, hjl, List.getElem?_eq_getElem hjl, ?_⟩
  unfold atI ixN
  rw [if_pos (by omega), if_pos (by omega), Int.toNat_natCast]
  exact List.getElem?_eq_getElem hjl
section
variable {P : Program} {w : World} {K : PySem.W.Frag} {mg : Str → Option Value} {base : Heap}
def spOdd (K : PySem.W.Frag) : Sp := fun vs H Q _ => ∃ (p : Addr) (a b : Int) (ns : List Int) (G : Hp), vs = [.ref p] ∧ H p = some (.lst ((a :: b :: ns).map V.int)) ∧ Ex G H ∧ ∀ v d G2 H2, Ex H H2 → Gx G H G2 H2 → Dp K G2 v d → Gd 20 4 d → Q v H2
theorem ok_odd {f  : Addr} {fd  : FuncData} {k : Nat} (F : Fun K "_law_odd" "_law_odd" sOdd f fd) (B : Bu mg) : FnOk P w K mg base CX0 (k + 1) f fd ["picks"] (spOdd K) := by
  refine F.ok scOdd (fun vs H Q E h => ?_) (fun cdv A outer s H vs Q E hr h => ?_)
  · obtain ⟨p, a, b, ns, G, rfl, _⟩ := h
    rfl
  · obtain ⟨p, a, b, ns, G, rfl, hp, hg, q⟩ := h
    refine ⟨_, (pss_cons (ps_set (i := 1) scOdd.nd rfl (.inl rfl) (pe_lst (pa_cons pe_non (pa_cons pe_bl (pa_cons pe_bl (pa_cons (pe_un un_neg pe_int) (pa_cons pe_int (pa_cons pe_int (pa_cons pe_int (pa_cons pe_int (pa_cons pe_int (pa_cons pe_int (pa_cons (pe_op op_pow pe_int pe_int) (pa_cons (pe_op op_pow pe_int pe_int) (pa_cons pe_str (pa_cons pe_str (pa_cons pe_str (pa_cons pe_str (pa_cons pe_str pa_nil)))))))))))))))))))
      (pss_cons (ps_set (i := 1) scOdd.nd rfl (.inl rfl) (pe_op op_cat (pv 1) (pe_lst (pa_cons (pe_tup pa_nil) (pa_cons (pe_lst pa_nil) (pa_cons (pe_tup (pa_cons pe_int pa_nil)) (pa_cons (pe_lst (pa_cons pe_int pa_nil)) (pa_cons (pe_tup (pa_cons pe_int (pa_cons pe_int pa_nil))) (pa_cons (pe_tup (pa_cons pe_str pa_nil)) pa_nil)))))))))
      (pss_cons (ps_set (i := 1) scOdd.nd rfl (.inl rfl) (pe_op op_cat (pv 1) (pe_lst (pa_cons (pe_tup (pa_cons (pe_tup (pa_cons (pe_tup pa_nil) pa_nil)) (pa_cons (pe_tup pa_nil) pa_nil))) (pa_cons (pe_tup (pa_cons (pe_tup (pa_cons (pe_tup (pa_cons (pe_tup pa_nil) (pa_cons (pe_tup pa_nil) pa_nil))) pa_nil)) (pa_cons (pe_tup pa_nil) pa_nil))) (pa_cons (pe_lst (pa_cons (pe_tup (pa_cons (pe_tup (pa_cons (pe_tup pa_nil) (pa_cons (pe_tup pa_nil) pa_nil))) pa_nil)) (pa_cons (pe_tup pa_nil) pa_nil))) (pa_cons (pe_tup (pa_cons (pe_tup pa_nil) (pa_cons (pe_tup pa_nil) pa_nil))) (pa_cons (pe_tup (pa_cons pe_int (pa_cons pe_int pa_nil))) pa_nil))))))))
      (pss_one (ps_ret (pe_ix ix_list (pv 1) (pe_op op_mod (pe_op op_add (pe_ix ix_list (pv 0) pe_int (fun _ _ => rfl)) (pe_op op_mul pe_int (pe_ix ix_list (pv 0) pe_int (fun _ _ => rfl)))) (pe_callB call_len_seq (by rfl) B.len PySem.boot_len (pa_cons (pv 1) pa_nil))) (fun _ _ => rfl))))))), ?_⟩
    refine q_asgGL (K := K) (ds := odds1) hg (egl_lst (ga_cons eg_non (ga_cons eg_bl (ga_cons eg_bl (ga_cons eg_neg (ga_cons eg_int (ga_cons eg_int (ga_cons eg_int (ga_cons eg_int (ga_cons eg_int (ga_cons eg_int (ga_cons (eg_pow ⟨by decide, by decide, by decide⟩) (ga_cons (eg_pow ⟨by decide, by decide, by decide⟩) (ga_cons eg_str (ga_cons eg_str (ga_cons eg_str (ga_cons eg_str (ga_cons eg_str ga_nil))))))))))))))))) (by decide)) fun p1 v1 G1 H1 n1 e1 g1 h1 d1 => ?_
    refine q_catGL (K := K) (σ := [some (.ref p), some (.ref p1)]) (ds := odds1) (es := odds2) g1.into (ev_var rfl) h1 d1 (egl_lst (ga_cons (eg_tup ga_nil (by decide)) (ga_cons (eg_lst ga_nil (by decide)) (ga_cons (eg_tup (ga_cons eg_int ga_nil) (by show 1 ≤ 1000; decide)) (ga_cons (eg_lst (ga_cons eg_int ga_nil) (by show 1 ≤ 1000; decide)) (ga_cons (eg_tup (ga_cons eg_int (ga_cons eg_int ga_nil)) (by show 2 ≤ 1000; decide)) (ga_cons (eg_tup (ga_cons eg_str ga_nil) (by show 1 ≤ 1000; decide)) ga_nil)))))) (by decide)) (by decide) fun p2 v2 G2 H2 n2 e2 g2 h2 d2 => ?_
    have T1 : ∀ H, EvG K (tTup tNil) [some (.ref p), some (.ref p2)] H (.tuple []) := fun H => eg_tup ga_nil (by decide)
    have T2 : ∀ H, EvG K (tTup (tCons (tTup tNil) (tCons (tTup tNil) tNil))) [some (.ref p), some (.ref p2)] H (.tuple [.tuple [], .tuple []]) := fun H => eg_tup (ga_cons (T1 H) (ga_cons (T1 H) ga_nil)) (by show 2 ≤ 1000; decide)
    have T3 : ∀ H, EvG K (tTup (tCons (tTup (tCons (tTup tNil) (tCons (tTup tNil) tNil))) tNil)) [some (.ref p), some (.ref p2)] H (.tuple [.tuple [.tuple [], .tuple []]]) := fun H => eg_tup (ga_cons (T2 H) ga_nil) (by show 1 ≤ 1000; decide)
    refine q_catGL (K := K) (σ := [some (.ref p), some (.ref p2)]) (ds := odds1 ++ odds2) (es := odds3) g2.into (ev_var rfl) h2 d2 (egl_lst (ga_cons (eg_tup (ga_cons (eg_tup (ga_cons (T1 _) ga_nil) (by show 1 ≤ 1000; decide)) (ga_cons (T1 _) ga_nil)) (by show 2 ≤ 1000; decide)) (ga_cons (eg_tup (ga_cons (T3 _) (ga_cons (T1 _) ga_nil)) (by show 2 ≤ 1000; decide)) (ga_cons (eg_lst (ga_cons (T3 _) (ga_cons (T1 _) ga_nil)) (by show 2 ≤ 1000; decide)) (ga_cons (T2 _) (ga_cons (eg_tup (ga_cons eg_int (ga_cons eg_int ga_nil)) (by show 2 ≤ 1000; decide)) ga_nil))))) (by decide)) (by decide) fun p3 v3 G3 H3 n3 e3 g3 h3 d3 => ?_
    have hl3 : v3.length = 28 := by rw [dpA_len d3]; rfl
    have E3 := (e1.trans e2).trans e3
    have hp3 := E3 _ _ hp
    obtain ⟨j, x, hj, hjl, hx, hat⟩ := at_mod (xs := v3) (fun z => by rw [z] at hl3; cases hl3) (a + 7 * b)
    obtain ⟨d, hd, hdx⟩ := dpA_get d3 hx
    refine s_ret (σ := [some (.ref p), some (.ref p3)]) (v := x) (ev_op (ev_var (v := .ref p3) rfl) (ev_op (z := .int (j : Int)) (ev_op (z := .int (a + 7 * b)) (ev_op (z := .int a) (ev_var (v := .ref p) rfl) ev_c (rv_ixL (K := K) (sq_of hp3) (atI_nat (j := 0) rfl))) (ev_op (z := .int (7 * b)) ev_c (ev_op (z := .int b) (ev_var (v := .ref p) rfl) ev_c (rv_ixL (K := K) (sq_of hp3) (atI_nat (j := 1) rfl))) (rv_I (.inl ⟨by decide, by decide⟩))) rv_I0) (ev_len (K := K) (ev_var (v := .ref p3) rfl) (sq_of h3)) (rv_val fun H4 e4 Q q => ⟨a + 7 * b, (v3.length : Int), rfl, rfl, show (0 : Int) < (v3.length : Int) by omega, by show Q (V.int ((a + 7 * b) % (v3.length : Int))) H4; rw [hj]; exact q⟩)) (rv_ixL (K := K) (sq_of h3) hat)) (fun H4 e4 => ?_)
    have g : Gx G H G3 H3 := (g1.trans e1 g2).trans (e1.trans e2) g3
    exact q x d G3 H4 (E3.trans e4) (g.up e4) hdx (odds_gd d (List.mem_of_getElem? hd))
end
end Kw
set_option Elab.async false
set_option linter.all false
set_option maxRecDepth 100000
set_option maxHeartbeats 4000000
namespace Kw
open PySem PySem.Spec PyProof.Rows L2 Evl
abbrev sSpo : Stmt := topS 29
theorem scSpo : FnScope ["thing", "picks", "parts", "at", "turn_by"] ["thing", "picks"] (defScope sSpo) := ⟨rfl, rfl, rfl, by decide +kernel, rfl, by decide +kernel, by decide +kernel⟩
theorem cutTo (xs : List V) (n : Nat) : cutV xs none (some (n : Int)) = xs.take n := by
  unfold cutV
  rw [HT.sIx_nat, HT.sIx_none]
  by_cases h : n ≤ xs.length
  · rw [Nat.min_eq_left h]
    rfl
  · rw [Nat.min_eq_right (by omega), List.take_of_length_le (by show (xs.drop 0).length ≤ _; rw [List.length_drop]; omega), List.take_of_length_le (by omega)]
    rfl
theorem cutFrom (xs : List V) (n : Nat) : cutV xs (some (n : Int)) none = xs.drop n := by
  unfold cutV
  rw [HT.sIx_nat, HT.sIx_none]
  by_cases h : n ≤ xs.length
  · rw [Nat.min_eq_left h, List.take_of_length_le (by rw [List.length_drop]; omega)]
  · rw [Nat.min_eq_right (by omega), List.drop_eq_nil_of_le (Nat.le_refl _), List.drop_eq_nil_of_le (by omega), List.take_nil]
theorem rt_to {te : TE} {D : Ends} {σ : L2.St} {H : Hp} (h : te σ H D.rt) : tRet te D σ H := h
theorem as_to {te : TE} {g : TG} {D : Ends} {σ : L2.St} {H : Hp} (h : te σ H fun x H1 => g x σ H1 D.nx) : tAsg te g D σ H := h
theorem call_L {sp : Sp} {tl : TE} {E : XK} {σ : L2.St} {H : Hp} {Q : VK} {xs : List V} (h : EvL tl σ H xs) (k : ∀ p H1, H p = none → Ex H H1 → H1 p = some (.lst xs) → sp [.ref p] H1 Q E) : tCall sp [] E (tCons tl tNil) σ H Q := h H (Ex.refl H) _ fun p H1 np e1 h1 => k p H1 np e1 h1
theorem call_VL {sp : Sp} {ta tl : TE} {E : XK} {σ : L2.St} {H : Hp} {Q : VK} {v : V} {xs : List V} (ha : Ev ta σ H v) (h : EvL tl σ H xs) (k : ∀ p H1, H p = none → Ex H H1 → H1 p = some (.lst xs) → sp [v, .ref p] H1 Q E) : tCall sp [] E (tCons ta (tCons tl tNil)) σ H Q := ha H (Ex.refl H) _ fun H1 e1 => h H1 e1 _ fun p H2 np e2 h2 => k p H2 (fresh_back e1 np) (e1.trans e2) h2
theorem q_fin {t tz : TS} {D : Ends} {σ : L2.St} {H : Hp} (Φ : L2.St → Hp → Prop) (hz : ∀ σ' H', Φ σ' H' → tz D σ' H') (h : ∀ nx : L2.St → Hp → Prop, (∀ σ' H', Φ σ' H' → nx σ' H') → t { D with nx := nx } σ H) : tSeq t tz D σ H := h (tz D) hz
section
variable {K : PySem.W.Frag} {σ : L2.St} {H H' G : Hp} {ta tb tc te tl : TE} {t u : TT} {x y z v : V} {r r' : R2} {d : PyData} {ds es : List PyData} {D : Ends} {g : TG} {tu tz : TS}
def seqD : PyData → Bool
  | .tuple _ => true
  | .list _ => true
  | _ => false
theorem seqD_eq (d : PyData) : seqD d = (isTupD d || isLstD d) := by cases d <;> rfl
theorem ev_isiTL (ha : Ev ta σ H v) (hd : Dp K H v d) : Ev (tCB (rIsiT K) (tCons ta (tCons (tTup (tCons (tC (.ty "tuple")) (tCons (tC (.ty "list")) tNil))) tNil))) σ H (.bl (seqD d)) := fun H1 e Q q =>
  ha H1 e _ fun H2 e2 => ⟨by show 2 ≤ sizeLine; decide, fun p hp => by
    have e3 := Ex.new (o := .tup [.ty "tuple", .ty "list"]) hp
    refine ⟨v, p, [.ty "tuple", .ty "list"], _, [.type "tuple", .type "list"], seqD d, rfl, upd_same, .cons (.ty _) (.cons (.ty _) .nil), ty_dp (dp_ex ((e.trans e2).trans e3) _ _ hd), ?_, q _ (e2.trans e3)⟩
    refine kitAny_cons (kit_ty (kit_tup hd)) (fun h => kitAny_cons (r := seqD d) (kit_ty (kit_lst hd)) (fun h2 => ?_) fun h2 => ?_) fun h => ?_
    · rw [seqD_eq, h, h2]
      rfl
    · rw [seqD_eq, h2, Bool.or_true]
    · rw [seqD_eq, h, Bool.true_or]⟩
theorem el_listS {p : Addr} {xs : List V} (ha : Ev ta σ H (.ref p)) (h : SqL K H p xs ∨ SqT K H p xs) : EvL (tCB (rListS K) (tCons ta tNil)) σ H xs := fun H1 e Q q =>
  ha H1 e _ fun H2 e2 => ⟨p, xs, rfl, h.imp (ex_l (e.trans e2)) (ex_t (e.trans e2)), fun l hl => q l _ (fresh_back e2 hl) (e2.trans (Ex.new hl)) upd_same⟩
theorem ev_lenS {p : Addr} {xs : List V} (ha : Ev ta σ H (.ref p)) (h : SqL K H p xs ∨ SqT K H p xs) : Ev (tCB (rLenS K) (tCons ta tNil)) σ H (.int (xs.length : Int)) := fun H1 e Q q =>
  ha H1 e _ fun H2 e2 => ⟨p, xs, rfl, h.imp (ex_l (e.trans e2)) (ex_t (e.trans e2)), q H2 e2⟩
theorem dpA_take {vs : List V} (n : Nat) (h : DpAll K G vs ds) : DpAll K G (vs.take n) (ds.take n) := by
  induction n generalizing vs ds with
  | zero => exact .nil
  | succ n ih =>
    match ds, h with
    | [], h => cases h; exact .nil
    | d :: ds, h =>
      cases h with
      | cons a b => exact .cons a (ih b)
theorem dpA_drop {vs : List V} (n : Nat) (h : DpAll K G vs ds) : DpAll K G (vs.drop n) (ds.drop n) := by
  induction n generalizing vs ds with
  | zero => exact h
  | succ n ih =>
    match ds, h with
    | [], h => cases h; exact .nil
    | d :: ds, h =>
      cases h with
      | cons a b => exact ih b
theorem dpA_set {vs : List V} (n : Nat) (h : DpAll K G vs ds) (hv : Dp K G v d) : DpAll K G (vs.set n v) (ds.set n d) := by
  induction n generalizing vs ds with
  | zero =>
    match ds, h with
    | [], h => cases h; exact .nil
    | d :: ds, h =>
      cases h with
      | cons a b => exact .cons hv b
  | succ n ih =>
    match ds, h with
    | [], h => cases h; exact .nil
    | d :: ds, h =>
      cases h with
      | cons a b => exact .cons a (ih b)
theorem dpA_app {vs ws : List V} (h : DpAll K G vs ds) (h' : DpAll K G ws es) : DpAll K G (vs ++ ws) (ds ++ es) := dpA_of (paired_append (dpA_paired h) (dpA_paired h'))
end
theorem gd_seq {m n : Nat} {d : PyData} (h : Gd m n d) (hs : seqD d = true) : ∃ n' ds, n = n' + 1 ∧ ds.length ≤ m ∧ (∀ e ∈ ds, Gd m n' e) ∧ (d = .tuple ds ∨ d = .list ds) := by
  cases h with
  | tup hl h => exact ⟨_, _, rfl, hl, h, .inl rfl⟩
  | lst hl h => exact ⟨_, _, rfl, hl, h, .inr rfl⟩
  | _ => cases hs
def spSpo (K : PySem.W.Frag) (N : Nat) : Sp := fun vs H Q _ => ∃ (v : V) (p : Addr) (a b c : Int) (ns : List Int) (d : PyData) (G : Hp) (m n : Nat), n < N ∧ 20 ≤ m ∧ m ≤ 1000 ∧ vs = [v, .ref p] ∧ H p = some (.lst ((a :: b :: c :: ns).map V.int)) ∧ ns.length ≤ 1000 ∧ Ex G H ∧ Dp K G v d ∧ Gd m n d ∧ ∀ v' d' G2 H2, Ex H H2 → Gx G H G2 H2 → Dp K G2 v' d' → Gd (m + 1) (n + 4) d' → Q v' H2
section
variable {P : Program} {w : World} {K : PySem.W.Frag} {mg : Str → Option Value} {base : Heap}
theorem ok_spo {f fOdd : Addr} {fd fdOdd : FuncData} {k : Nat} (F : Fun K "_law_spoilt" "_law_spoilt" sSpo f fd) (DOdd : Df K mg "_law_odd" sOdd ["picks"] fOdd fdOdd) (GOdd : FnOk P w K mg base CX0 (k + 1) fOdd fdOdd ["picks"] (spOdd K)) (B : Bu mg) (DSpo : Df K mg "_law_spoilt" sSpo ["thing", "picks"] f fd) : ∀ N, FnOk P w K mg base CX0 (k + N + 2) f fd ["thing", "picks"] (spSpo K N) := by
  intro N
  induction N with
  | zero =>
    refine F.ok scSpo (fun vs H Q E h => ?_) (fun cdv A outer s H vs Q E hr h => ?_)
    · obtain ⟨v, p, a, b, c, ns, d, G, m, n, hn, _⟩ := h
      exact absurd hn (Nat.not_lt_zero _)
    · obtain ⟨v, p, a, b, c, ns, d, G, m, n, hn, _⟩ := h
      exact absurd hn (Nat.not_lt_zero _)
  | succ N GSpo =>
  refine F.ok scSpo (fun vs H Q E h => ?_) (fun cdv A outer s H vs Q E hr h => ?_)
  · obtain ⟨v, p, a, b, c, ns, d, G, m, n, _, _, _, rfl, _⟩ := h
    rfl
  · obtain ⟨v, p, a, b, c, ns, d, G, m, n, hn, hm0, hm1, rfl, hp, hl, hg, hd, hG, q⟩ := h
    refine ⟨_, (pss_cons (ps_if (PW.pt (pw_or (pt_not (pt_val (pe_callB call_isiT (by rfl) B.isi boot_isinstance (pa_cons (pv 0) (pa_cons (pe_tup (pa_cons (pe_bltn (v := .ty "tuple") (by rfl) B.tup boot_tuple rfl) (pa_cons (pe_bltn (v := .ty "list") (by rfl) B.lst boot_list rfl) pa_nil))) pa_nil))))) (pw_or (pt_cmpR op_eq (pe_callB call_len_seq (by rfl) B.len PySem.boot_len (pa_cons (pv 0) pa_nil)) pe_int (nomark _)) (pw_or (pt_cmpR op_lt (pe_callB call_len_seq (by rfl) B.len PySem.boot_len (pa_cons (pv 1) pa_nil)) pe_int (nomark _)) (pw_or1 (pt_cmpR op_eq (pe_op op_mod (pe_ix ix_list (pv 1) pe_int (fun _ _ => rfl)) pe_int) pe_int (nomark _))))))) (pss_one (ps_ret (pcall DOdd GOdd (hr.mono (by omega)) (pa_cons (pe_slice sl_list (pv 1) (po_some pe_int) po_none) pa_nil)))) pss_nil)
      (pss_cons (ps_set (i := 2) scSpo.nd rfl (.inl rfl) (pe_callTy call_list_of (by rfl) B.lst boot_list (pa_cons (pv 0) pa_nil)))
      (pss_cons (ps_set (i := 3) scSpo.nd rfl (.inl rfl) (pe_op op_mod (pe_ix ix_list (pv 1) pe_int (fun _ _ => rfl)) (pe_callB call_len_seq (by rfl) B.len PySem.boot_len (pa_cons (pv 2) pa_nil))))
      (pss_cons (ps_set (i := 4) scSpo.nd rfl (.inl rfl) (pe_op op_mod (pe_ix ix_list (pv 1) pe_int (fun _ _ => rfl)) pe_int))
      (pss_cons (ps_if (pt_cmpR op_eq (pv 4) pe_int (nomark _)) (pss_one (ps_set (i := 2) scSpo.nd rfl (.inl rfl) (pe_op op_cat (pe_slice sl_list (pv 2) po_none (po_some (pv 3))) (pe_slice sl_list (pv 2) (po_some (pe_op op_add (pv 3) pe_int)) po_none)))) (pss_one (ps_if (pt_cmpR op_eq (pv 4) pe_int (nomark _)) (pss_one (ps_set (i := 2) scSpo.nd rfl (.inl rfl) (pe_op op_cat (pe_slice sl_list (pv 2) po_none (po_some (pe_op op_add (pv 3) pe_int))) (pe_slice sl_list (pv 2) (po_some (pv 3)) po_none)))) (pss_one (ps_if (pt_cmpR op_eq (pv 4) pe_int (nomark _)) (pss_one (ps_set (i := 2) scSpo.nd rfl (.inl rfl) (pe_op op_cat (pe_slice sl_list (pv 2) (po_some (pv 3)) po_none) (pe_slice sl_list (pv 2) po_none (po_some (pv 3)))))) (pss_one (ps_if (pt_cmpR op_eq (pv 4) pe_int (nomark _)) (pss_one (ps_set (i := 2) scSpo.nd rfl (.inl rfl) (pe_op op_cat (pe_op op_cat (pe_slice sl_list (pv 2) po_none (po_some (pv 3))) (pe_lst (pa_cons (pcall DOdd GOdd (hr.mono (by omega)) (pa_cons (pe_slice sl_list (pv 1) (po_some pe_int) po_none) pa_nil)) pa_nil))) (pe_slice sl_list (pv 2) (po_some (pv 3)) po_none)))) (pss_one (ps_if (pt_cmpR op_gt (pv 4) pe_int (nomark _)) (pss_one (ps_asg (pcall DSpo GSpo (hr.mono (by omega)) (pa_cons (pe_ix ix_list (pv 2) (pv 3) (fun _ _ => rfl)) (pa_cons (pe_slice sl_list (pv 1) (po_some pe_int) po_none) pa_nil))) (pg_sub (pv 2) (pv 3) set_list))) pss_nil)))))))))
      (pss_cons (ps_if (pt_cmpR op_eq (pe_callB call_isi (by rfl) B.isi boot_isinstance (pa_cons (pv 0) (pa_cons (pe_bltn (v := .ty "tuple") (by rfl) B.tup boot_tuple rfl) pa_nil))) (pe_cmpR op_eq (pv 4) pe_int (nomark _)) (nomark _)) (pss_one (ps_ret (pv 2))) pss_nil)
      (pss_one (ps_ret (pe_callTy call_tupOf (by rfl) B.tup boot_tuple (pa_cons (pv 2) pa_nil)))))))))), ?_⟩
    have hdH := dp_ex hg _ _ hd
    cases hs : seqD d with
    | false =>
      refine q_when (b := true) (et_is (et_or (b := true) (et_not (et_B (ev_isiTL (K := K) (ev_var (v := v) rfl) hdH))) fun h => absurd h (by rw [hs]; decide)) (by rw [hs]; rfl)) (fun _ H1 e1 => ?_) (fun hb => absurd hb (by decide))
      refine rt_to (call_L (el_sl (K := K) (ev_var (v := .ref p) rfl) (eo_some ev_c) eo_none (sq_of (e1 _ _ hp))) fun p2 H2 n2 e2 h2 => ?_)
      rw [show (some (1 : Int)) = some ((1 : Nat) : Int) from rfl, cutFrom] at h2
      refine ⟨p2, b, c, ns, G, rfl, h2, hg.trans (e1.trans e2), fun v' d' G2 H3 e3 g3 hd3 hG3 => ?_⟩
      exact q v' d' G2 H3 ((e1.trans e2).trans e3) (Gx.from (e1.trans e2) g3) hd3 (hG3.mono (by omega) (by omega))
    | true =>
      obtain ⟨n', ds, rfl, hdl, hGs, hds⟩ := gd_seq hG hs
      obtain ⟨av, xs, rfl, hS, hA⟩ : ∃ av xs, v = .ref av ∧ (SqL K G av xs ∨ SqT K G av xs) ∧ DpAll K G xs ds := by
        rcases hds with rfl | rfl
        · obtain ⟨a, xs, e, h1, h2⟩ := dp_tup_inv hd
          exact ⟨a, xs, e, .inr h1, h2⟩
        · obtain ⟨a, xs, e, h1, h2⟩ := dp_lst_inv hd
          exact ⟨a, xs, e, .inl h1, h2⟩
      have hSH : ∀ H1, Ex H H1 → (SqL K H1 av xs ∨ SqT K H1 av xs) := fun H1 e1 => hS.imp (ex_l (hg.trans e1)) (ex_t (hg.trans e1))
      have hxl := dpA_len hA
      refine q_when (b := (!seqD d) || (decide (V.int (xs.length : Int) = V.int 0) || (decide (((a :: b :: c :: ns).map V.int).length < (9 : Int)) || decide (V.int (a % 9) = V.int 0)))) (et_or (et_not (et_B (ev_isiTL (K := K) (ev_var (v := .ref av) rfl) hdH))) fun _ => et_or (et_test (ev_op (ev_lenS (K := K) (ev_var (v := .ref av) rfl) (hSH H (Ex.refl H))) ev_c (rv_eq rfl))) fun _ => et_or (et_test (ev_op (ev_len (K := K) (ev_var (v := .ref p) rfl) (sq_of hp)) ev_c rv_I0)) fun _ => et_test (ev_op (ev_op (ev_op (z := .int a) (ev_var (v := .ref p) rfl) ev_c (rv_ixL (K := K) (sq_of hp) (atI_nat (j := 0) rfl))) ev_c (rv_I (by show (0 : Int) < 9; decide))) ev_c (rv_eq rfl))) (fun _ H1 e1 => ?_) (fun hb H1 e1 => ?_)
      · refine rt_to (call_L (el_sl (K := K) (ev_var (v := .ref p) rfl) (eo_some ev_c) eo_none (sq_of (e1 _ _ hp))) fun p2 H2 n2 e2 h2 => ?_)
        rw [show (some (1 : Int)) = some ((1 : Nat) : Int) from rfl, cutFrom] at h2
        refine ⟨p2, b, c, ns, G, rfl, h2, hg.trans (e1.trans e2), fun v' d' G2 H3 e3 g3 hd3 hG3 => ?_⟩
        exact q v' d' G2 H3 ((e1.trans e2).trans e3) (Gx.from (e1.trans e2) g3) hd3 (hG3.mono (by omega) (by omega))
      simp only [Bool.or_eq_false_iff, decide_eq_false_iff_not] at hb
      obtain ⟨_, hx0, hn9, _⟩ := hb
      have hxne : xs ≠ [] := fun z => hx0 (by rw [z]; rfl)
      have hn6 : 6 ≤ ns.length := by
        rw [List.length_map, List.length_cons, List.length_cons, List.length_cons] at hn9
        omega
      obtain ⟨j, x, hj, hjl, hx, hat⟩ := at_mod hxne b
      refine q_asgL (xs := xs) (el_listS (K := K) (ev_var (v := .ref av) rfl) (hSH H1 e1)) fun p2 H2 n2 e2 h2 => ?_
      have hp2 := e2 _ _ (e1 _ _ hp)
      have e12 := e1.trans e2
      refine q_asg (σ := [some (.ref av), some (.ref p), some (.ref p2), none, none]) (v := vN j) (ev_op (ev_op (z := .int b) (ev_var (v := .ref p) rfl) ev_c (rv_ixL (K := K) (sq_of hp2) (atI_nat (j := 1) rfl))) (ev_len (K := K) (ev_var (v := .ref p2) rfl) (sq_of h2)) (rv_val fun H4 e4 Q q => ⟨b, (xs.length : Int), rfl, rfl, by show (0 : Int) < (xs.length : Int); omega, by show Q (V.int (b % (xs.length : Int))) H4; rw [hj]; exact q⟩)) fun H3 e3 => ?_
      have h3 := e3 _ _ h2
      have hp3 := e3 _ _ hp2
      refine q_asg (σ := [some (.ref av), some (.ref p), some (.ref p2), some (vN j), none]) (v := .int (c % 12)) (ev_op (ev_op (z := .int c) (ev_var (v := .ref p) rfl) ev_c (rv_ixL (K := K) (sq_of hp3) (atI_nat (j := 2) rfl))) ev_c (rv_I (by show (0 : Int) < 12; decide))) fun H4 e4 => ?_
      have h4 := e4 _ _ h3
      have hp4 := e4 _ _ hp3
      have E4 := (e12.trans e3).trans e4
      have np2 : H p2 = none := fresh_back e1 n2
      generalize htb : c % 12 = tb
      refine q_fin (σ := [some (.ref av), some (.ref p), some (.ref p2), some (vN j), some (.int tb)]) (fun σ' H' => ∃ p3 vs3 ds3 G3, σ' = [some (.ref av), some (.ref p), some (.ref p3), some (vN j), some (.int tb)] ∧ H p3 = none ∧ Ex H H' ∧ Gx G H G3 H' ∧ G3 p3 = none ∧ H' p3 = some (.lst vs3) ∧ DpAll K G3 vs3 ds3 ∧ ds3.length ≤ m + 1 ∧ ∀ d ∈ ds3, Gd (m + 1) (n' + 4) d) (fun σ' H' hΦ => ?_) (fun nx hnx => ?_)
      · obtain ⟨p3, vs3, ds3, G3, rfl, np3, eH, gx, ng3, hp3', hA3, hl3, hG3⟩ := hΦ
        have hdH' := dp_ex eH _ _ hdH
        refine q_when (b := decide (V.bl (isTupD d) = V.bl (decide (V.int tb = V.int 4)))) (et_test (ev_op (ev_isiD (K := K) (ev_var (v := .ref av) rfl) ev_c hdH' (kit_tup hdH')) (ev_op (ev_var (v := .int tb) rfl) ev_c (rv_eq rfl)) (rv_eq rfl))) (fun _ H5 e5 => ?_) (fun _ H5 e5 => ?_)
        · refine s_ret (v := .ref p3) (ev_var rfl) fun H6 e6 => ?_
          have h6 := (e5.trans e6) _ _ hp3'
          refine q (.ref p3) (.list ds3) (upd G3 p3 (.lst vs3)) H6 (eH.trans (e5.trans e6)) ⟨gx.old.trans (Ex.new ng3), fun a o h => ?_, fun a h => ?_⟩ (.lst (sq_of upd_same) (dpA_ex (Ex.new ng3) _ _ hA3)) (.lst hl3 hG3)
          · by_cases z : a = p3
            · subst z
              rw [upd_same] at h
              rw [h6]
              exact h
            · rw [upd_ne z] at h
              exact (gx.into.trans (e5.trans e6)) _ _ h
          · by_cases z : a = p3
            · subst z
              exact .inr np3
            · rw [upd_ne z] at h
              exact gx.dom a h
        · refine rt_to ⟨.ref p3, rfl, p3, vs3, rfl, .inl ⟨sq_of (e5 _ _ hp3'), fun t nt => ?_⟩⟩
          have gx5 := gx.up e5
          exact q (.ref t) (.tuple ds3) (upd G3 t (.tup vs3)) _ (eH.trans (e5.trans (Ex.new nt))) (gx5.new (eH.trans e5) nt) (.tup (st_of upd_same) (dpA_ex (Ex.new (none_of gx5.into nt)) _ _ hA3)) (.tup hl3 hG3)
      · have hg4 : Ex G H4 := hg.trans E4
        have ngp : ∀ p3, H p3 = none → G p3 = none := fun p3 z => none_of hg z
        have up : ∀ e : PyData, e ∈ ds → Gd (m + 1) (n' + 4) e := fun e he => (hGs e he).mono (by omega) (by omega)
        have hjd : j < ds.length := by omega
        -- a place left out
        refine s_if (b := decide (V.int tb = V.int 0)) (et_test (ev_op (ev_var (v := .int tb) rfl) ev_c (rv_eq rfl))) (fun _ H5 e5 => ?_) (fun _ H5 e5 => ?_)
        · refine s_asgL (xs := cutV xs none (some (j : Int)) ++ cutV xs (some ((j + 1 : Nat) : Int)) none) (el_catN (el_sl (K := K) (ev_var (v := .ref p2) rfl) eo_none (eo_some (ev_var rfl)) (sq_of (e5 _ _ h4))) (el_sl (K := K) (ev_var (v := .ref p2) rfl) (eo_some (ev_op (ev_var (v := vN j) rfl) ev_c (rv_val fun H4 e4 Q q => ⟨(j : Int), 1, rfl, rfl, q⟩))) eo_none (sq_of (e5 _ _ h4))) (by rw [cutTo, cutFrom, List.length_take, List.length_drop]; omega)) fun p3 H6 n6 e6 h6 => ?_
          rw [cutTo, cutFrom] at h6
          exact hnx _ _ ⟨p3, _, ds.take j ++ ds.drop (j + 1), G, rfl, fresh_back (E4.trans e5) n6, E4.trans (e5.trans e6), (Gx.refl hg).up (E4.trans (e5.trans e6)), ngp _ (fresh_back (E4.trans e5) n6), h6, dpA_app (dpA_take j hA) (dpA_drop (j + 1) hA), by rw [List.length_append, List.length_take, List.length_drop]; omega, gA_app (fun e he => up e (List.mem_of_mem_take he)) (fun e he => up e (List.mem_of_mem_drop he))⟩
        have E5 := E4.trans e5
        have h5 := e5 _ _ h4
        have hp5 := e5 _ _ hp4
        -- a place twice
        refine s_if (b := decide (V.int tb = V.int 1)) (et_test (ev_op (ev_var (v := .int tb) rfl) ev_c (rv_eq rfl))) (fun _ H6 e6 => ?_) (fun _ H6 e6 => ?_)
        · refine s_asgL (xs := cutV xs none (some ((j + 1 : Nat) : Int)) ++ cutV xs (some (j : Int)) none) (el_catN (el_sl (K := K) (ev_var (v := .ref p2) rfl) eo_none (eo_some (ev_op (ev_var (v := vN j) rfl) ev_c (rv_val fun H4 e4 Q q => ⟨(j : Int), 1, rfl, rfl, q⟩))) (sq_of (e6 _ _ h5))) (el_sl (K := K) (ev_var (v := .ref p2) rfl) (eo_some (ev_var rfl)) eo_none (sq_of (e6 _ _ h5))) (by rw [cutTo, cutFrom, List.length_take, List.length_drop]; omega)) fun p3 H7 n7 e7 h7 => ?_
          rw [cutTo, cutFrom] at h7
          exact hnx _ _ ⟨p3, _, ds.take (j + 1) ++ ds.drop j, G, rfl, fresh_back (E5.trans e6) n7, E5.trans (e6.trans e7), (Gx.refl hg).up (E5.trans (e6.trans e7)), ngp _ (fresh_back (E5.trans e6) n7), h7, dpA_app (dpA_take (j + 1) hA) (dpA_drop j hA), by rw [List.length_append, List.length_take, List.length_drop]; omega, gA_app (fun e he => up e (List.mem_of_mem_take he)) (fun e he => up e (List.mem_of_mem_drop he))⟩
        have E6 := E5.trans e6
        have h6 := e6 _ _ h5
        have hp6 := e6 _ _ hp5
        -- turned
        refine s_if (b := decide (V.int tb = V.int 2)) (et_test (ev_op (ev_var (v := .int tb) rfl) ev_c (rv_eq rfl))) (fun _ H7 e7 => ?_) (fun _ H7 e7 => ?_)
        · refine s_asgL (xs := cutV xs (some (j : Int)) none ++ cutV xs none (some (j : Int))) (el_catN (el_sl (K := K) (ev_var (v := .ref p2) rfl) (eo_some (ev_var rfl)) eo_none (sq_of (e7 _ _ h6))) (el_sl (K := K) (ev_var (v := .ref p2) rfl) eo_none (eo_some (ev_var rfl)) (sq_of (e7 _ _ h6))) (by rw [cutTo, cutFrom, List.length_take, List.length_drop]; omega)) fun p3 H8 n8 e8 h8 => ?_
          rw [cutTo, cutFrom] at h8
          exact hnx _ _ ⟨p3, _, ds.drop j ++ ds.take j, G, rfl, fresh_back (E6.trans e7) n8, E6.trans (e7.trans e8), (Gx.refl hg).up (E6.trans (e7.trans e8)), ngp _ (fresh_back (E6.trans e7) n8), h8, dpA_app (dpA_drop j hA) (dpA_take j hA), by rw [List.length_append, List.length_take, List.length_drop]; omega, gA_app (fun e he => up e (List.mem_of_mem_drop he)) (fun e he => up e (List.mem_of_mem_take he))⟩
        have E7 := E6.trans e7
        have h7 := e7 _ _ h6
        have hp7 := e7 _ _ hp6
        -- an odd thing put in
        refine s_if (b := decide (V.int tb = V.int 3)) (et_test (ev_op (ev_var (v := .int tb) rfl) ev_c (rv_eq rfl))) (fun _ H8 e8 => ?_) (fun _ H8 e8 => ?_)
        · refine as_to ?_
          refine (el_sl (K := K) (σ := [some (.ref av), some (.ref p), some (.ref p2), some (vN j), some (.int tb)]) (ev_var (v := .ref p2) rfl) eo_none (eo_some (i := (j : Int)) (ev_var rfl)) (sq_of (e8 _ _ h7))) H8 (Ex.refl H8) _ fun l1 H9 n9 e9 h9 => ?_
          rw [cutTo] at h9
          refine call_L (el_sl (K := K) (ev_var (v := .ref p) rfl) (eo_some ev_c) eo_none (sq_of (e9 _ _ (e8 _ _ hp7)))) fun l2 H10 n10 e10 h10 => ?_
          rw [show (some (3 : Int)) = some ((3 : Nat) : Int) from rfl, cutFrom] at h10
          have E10 := E7.trans (e8.trans (e9.trans e10))
          obtain ⟨o1, o2, os, hos⟩ : ∃ o1 o2 os, ns = o1 :: o2 :: os := by
            match ns, hn6 with
            | o1 :: o2 :: os, _ => exact ⟨o1, o2, os, rfl⟩
          subst hos
          refine ⟨l2, o1, o2, os, G, rfl, h10, hg.trans E10, fun v' d' G2 H11 e11 g11 hd11 hG11 => ⟨by show 1 ≤ sizeLine; decide, fun l3 n12 => ?_⟩⟩
          have e12' := Ex.new (o := .lst [v']) n12
          have h9' := e12' _ _ (e11 _ _ (e10 _ _ h9))
          refine ⟨l1, l3, xs.take j, [v'], rfl, rfl, h9', upd_same, sz_of (by rw [List.length_take]; show _ + 1 ≤ _; omega), fun l4 n13 => ?_⟩
          have e13 := Ex.new (o := .lst (xs.take j ++ [v'])) n13
          have E13 := (e8.trans (e9.trans (e10.trans e11))).trans (e12'.trans e13)
          refine (el_sl (K := K) (σ := [some (.ref av), some (.ref p), some (.ref p2), some (vN j), some (.int tb)]) (ev_var (v := .ref p2) rfl) (eo_some (i := (j : Int)) (ev_var rfl)) eo_none (sq_of (E13 _ _ h7))) _ (Ex.refl _) _ fun l5 H14 n14 e14 h14 => ?_
          rw [cutFrom] at h14
          refine ⟨l4, l5, xs.take j ++ [v'], xs.drop j, rfl, rfl, e14 _ _ upd_same, h14, sz_of (by rw [List.length_append, List.length_take, List.length_drop]; show _ + 1 + _ ≤ _; omega), fun l6 n15 => ?_⟩
          have e15 := Ex.new (o := .lst ((xs.take j ++ [v']) ++ xs.drop j)) n15
          have EE : Ex H11 (upd H14 l6 (.lst ((xs.take j ++ [v']) ++ xs.drop j))) := (e12'.trans e13).trans (e14.trans e15)
          have nl6 : H l6 = none := fresh_back (E10.trans (e11.trans ((e12'.trans e13).trans e14))) n15
          have g2 := Gx.from E10 g11
          refine hnx _ _ ⟨l6, _, (ds.take j ++ [d']) ++ ds.drop j, G2, rfl, nl6, E10.trans (e11.trans EE), g2.up EE, none_of g11.into (fresh_back ((e12'.trans e13).trans e14) n15), upd_same, dpA_app (dpA_app (dpA_ex g2.old _ _ (dpA_take j hA)) (.cons hd11 .nil)) (dpA_ex g2.old _ _ (dpA_drop j hA)), ?_, gA_app (gA_app (fun e he => up e (List.mem_of_mem_take he)) (gA_cons (hG11.mono (by omega) (by omega)) gA_nil)) (fun e he => up e (List.mem_of_mem_drop he))⟩
          rw [List.length_append, List.length_append, List.length_take, List.length_drop]
          show _ + 1 + _ ≤ _
          omega
        have E8 := E7.trans e8
        have h8 := e8 _ _ h7
        have hp8 := e8 _ _ hp7
        -- a place spoilt
        refine s_when (b := decide ((4 : Int) < tb)) (et_test (ev_op (ev_var (v := .int tb) rfl) ev_c rv_gt)) (fun _ H9 e9 => ?_) (fun _ H9 e9 => ?_)
        · refine as_to ?_
          refine call_VL (v := x) (ev_op (ev_var (v := .ref p2) rfl) (ev_var (v := vN j) rfl) (rv_ixL (K := K) (sq_of (e9 _ _ h8)) hat)) (el_sl (K := K) (ev_var (v := .ref p) rfl) (eo_some ev_c) eo_none (sq_of (e9 _ _ hp8))) fun l2 H10 n10 e10 h10 => ?_
          rw [show (some (4 : Int)) = some ((4 : Nat) : Int) from rfl, cutFrom] at h10
          have E10 := E8.trans (e9.trans e10)
          obtain ⟨o1, o2, o3, o4, os, hos⟩ : ∃ o1 o2 o3 o4 os, ns = o1 :: o2 :: o3 :: o4 :: os := by
            match ns, hn6 with
            | o1 :: o2 :: o3 :: o4 :: os, _ => exact ⟨o1, o2, o3, o4, os, rfl⟩
          subst hos
          obtain ⟨dx, hdx, hDx⟩ := dpA_get hA hx
          have h10' := (e9.trans e10) _ _ h8
          refine ⟨x, l2, o2, o3, o4, os, dx, G, m, n', by omega, hm0, hm1, rfl, h10, by simp only [List.length_cons] at hl; omega, hg.trans E10, hDx, hGs dx (List.mem_of_getElem? hdx), fun v' d' G2 H11 e11 g11 hd11 hG11 => ?_⟩
          have h11 := e11 _ _ h10'
          have ng2 : G2 p2 = none := by
            by_cases z : G2 p2 = none
            · exact z
            · rcases g11.dom p2 z with z2 | z2
              · exact absurd (ngp _ np2) z2
              · rw [h10'] at z2
                cases z2
          have g2 := Gx.from E10 g11
          refine ⟨.ref p2, rfl, vN j, rfl, p2, xs, (j : Int), j, rfl, rfl, h11, ?_, ?_⟩
          · unfold ixN
            rw [if_pos (by omega), if_pos (by omega), Int.toNat_natCast]
          exact hnx _ _ ⟨p2, xs.set j v', ds.set j d', G2, rfl, np2, ex_set (E10.trans e11) np2, ⟨g2.old, ex_set g2.into ng2, g2.dom⟩, ng2, upd_same, dpA_set j (dpA_ex g2.old _ _ hA) hd11, by rw [List.length_set]; omega, fun e he => (List.mem_or_eq_of_mem_set he).elim (up e) fun z => by rw [z]; exact hG11⟩
        · exact hnx _ _ ⟨p2, xs, ds, G, rfl, np2, E8.trans e9, (Gx.refl hg).up (E8.trans e9), ngp _ np2, e9 _ _ h8, hA, by omega, up⟩
end
end Kw
set_option Elab.async false
set_option linter.all false
set_option maxRecDepth 100000
set_option maxHeartbeats 4000000
namespace Kw
open PySem PySem.Spec PyProof.Rows L2 Evl
/-! ### some data of bounded size -/
def EvX (K : PySem.W.Frag) (te : TE) (σ : L2.St) (H : Hp) (n : Nat) : Prop := ∀ H1, Ex H H1 → ∀ Q : VK, (∀ v d H2, Ex H1 H2 → Dp K H2 v d → Gd 100 n d → Q v H2) → te σ H1 Q
def EvXA (K : PySem.W.Frag) (ta : TA) (σ : L2.St) (H : Hp) (n l : Nat) : Prop := ∀ H1, Ex H H1 → ∀ Q : List V → Hp → Prop, (∀ vs ds H2, Ex H1 H2 → DpAll K H2 vs ds → ds.length = l → (∀ d ∈ ds, Gd 100 n d) → Q vs H2) → ta σ H1 Q
section
variable {K : PySem.W.Frag} {σ : L2.St} {H H' G : Hp} {ta tb tc te tl : TE} {x y z v : V} {d : PyData} {ds es : List PyData} {D : Ends} {g : TG} {tu tz : TS} {n l : Nat}
theorem xx_of (h : Ev te σ H v) (hd : Dp K H v d) (hg : Gd 100 n d) : EvX K te σ H n := fun H1 e Q q => h H1 e _ fun H2 e2 => q v d H2 e2 (dp_ex (e.trans e2) _ _ hd) hg
theorem xx_var {i : Nat} (h : σ[i]? = some (some v)) (hd : Dp K H v d) (hg : Gd 100 n d) : EvX K (tVar i) σ H n := xx_of (ev_var h) hd hg
theorem xx_non : EvX K (tC .non) σ H n := xx_of ev_c .non (.non _)
theorem xx_int {i : Int} : EvX K (tC (.int i)) σ H n := xx_of ev_c (.int i) (.int _ i)
theorem xx_str {z : Str} (h : z.length ≤ 1000 ∧ PyData.strOk z = true) : EvX K (tC (.str z)) σ H n := xx_of ev_c (.str z) (.str _ h)
theorem EvX.mono {n' : Nat} (h : EvX K te σ H n) (hn : n ≤ n') : EvX K te σ H n' := fun H1 e Q q => h H1 e Q fun v d H2 e2 hd hg => q v d H2 e2 hd (hg.mono (Nat.le_refl _) hn)
theorem EvX.later (h : EvX K te σ H n) (e : Ex H H') : EvX K te σ H' n := fun H1 e1 => h H1 (e.trans e1)
theorem xa_nil : EvXA K tNil σ H n 0 := fun H1 _ Q q => q [] [] H1 (Ex.refl H1) .nil rfl gA_nil
theorem xa_cons {ta : TA} (h : EvX K te σ H n) (hr : EvXA K ta σ H n l) : EvXA K (tCons te ta) σ H n (l + 1) := fun H1 e Q q =>
  h H1 e _ fun v d H2 e2 hv hg => hr H2 (e.trans e2) _ fun vs ds H3 e3 hvs hl hgs => q (v :: vs) (d :: ds) H3 (e2.trans e3) (.cons (dp_ex e3 _ _ hv) hvs) (by rw [List.length_cons, hl]) (gA_cons hg hgs)
theorem xx_tup {ta : TA} (h : EvXA K ta σ H n l) (hl : l ≤ 100) : EvX K (tTup ta) σ H (n + 1) := fun H1 e Q q =>
  h H1 e _ fun vs ds H2 e2 hvs hl2 hgs => ⟨sz_of (by rw [dpA_len hvs]; omega), fun p hp => q (.ref p) (.tuple ds) _ (e2.trans (Ex.new hp)) (.tup (st_of upd_same) (dpA_ex (Ex.new hp) _ _ hvs)) (.tup (by omega) hgs)⟩
theorem xx_lst {ta : TA} (h : EvXA K ta σ H n l) (hl : l ≤ 100) : EvX K (tLst ta) σ H (n + 1) := fun H1 e Q q =>
  h H1 e _ fun vs ds H2 e2 hvs hl2 hgs => ⟨sz_of (by rw [dpA_len hvs]; omega), fun p hp => q (.ref p) (.list ds) _ (e2.trans (Ex.new hp)) (.lst (sq_of upd_same) (dpA_ex (Ex.new hp) _ _ hvs)) (.lst (by omega) hgs)⟩
/-- list(t) of a tuple of data -/
theorem xx_listT {a : Addr} {xs : List V} (ha : Ev te σ H (.ref a)) (hs : SqT K H a xs) (hd : DpAll K H xs ds) (hl : ds.length ≤ 100) (hg : ∀ d ∈ ds, Gd 100 n d) : EvX K (tCB (rListS K) (tCons te tNil)) σ H (n + 1) := fun H1 e Q q =>
  el_listT (K := K) ha hs H1 e _ fun p H2 _ e2 hp => q (.ref p) (.list ds) H2 e2 (.lst (sq_of hp) (dpA_ex (e.trans e2) _ _ hd)) (.lst hl hg)
/-- a tuple of what is asked -/
theorem xx_isT {xs : List V} (h : EvP te σ H (IsT K xs)) (hd : DpAll K H xs ds) (hl : ds.length ≤ 100) (hg : ∀ d ∈ ds, Gd 100 n d) : EvX K te σ H (n + 1) := fun H1 e Q q =>
  h H1 e Q fun v H2 e2 ⟨p, hv, hs⟩ => q v (.tuple ds) H2 e2 (by rw [hv]; exact .tup hs (dpA_ex (e.trans e2) _ _ hd)) (.tup hl hg)
/-- a tuple of such data, new or old -/
def EvXT (K : PySem.W.Frag) (te : TE) (σ : L2.St) (H : Hp) (n l : Nat) : Prop := ∀ H1, Ex H H1 → ∀ Q : VK, (∀ p vs ds H2, Ex H1 H2 → SqT K H2 p vs → DpAll K H2 vs ds → ds.length ≤ l → (∀ d ∈ ds, Gd 100 n d) → Q (.ref p) H2) → te σ H1 Q
theorem xx_T (h : EvXT K te σ H n l) (hl : l ≤ 100) : EvX K te σ H (n + 1) := fun H1 e Q q => h H1 e Q fun p vs ds H2 e2 hs hd hl2 hg => q (.ref p) (.tuple ds) H2 e2 (.tup hs hd) (.tup (by omega) hg)
theorem xt_isT {xs : List V} (h : EvP te σ H (IsT K xs)) (hd : DpAll K H xs ds) (hl : ds.length ≤ l) (hg : ∀ d ∈ ds, Gd 100 n d) : EvXT K te σ H n l := fun H1 e Q q =>
  h H1 e Q fun v H2 e2 ⟨p, hv, hs⟩ => by rw [hv]; exact q p xs ds H2 e2 hs (dpA_ex (e.trans e2) _ _ hd) hl hg
theorem xt_tup {ta : TA} (h : EvXA K ta σ H n l) (hl : l ≤ 100) : EvXT K (tTup ta) σ H n l := fun H1 e Q q =>
  h H1 e _ fun vs ds H2 e2 hvs hl2 hgs => ⟨sz_of (by rw [dpA_len hvs]; omega), fun p hp => q p vs ds _ (e2.trans (Ex.new hp)) (st_of upd_same) (dpA_ex (Ex.new hp) _ _ hvs) (by omega) hgs⟩
theorem xt_cat {m : Nat} (ha : EvXT K ta σ H n l) (hb : EvXT K tb σ H n m) (hn : l + m ≤ 1000) : EvXT K (tOp (rCatA K) ta tb) σ H n (l + m) := fun H1 e Q q =>
  ha H1 e _ fun a xs ds H2 e2 hs hd hl hg => hb H2 (e.trans e2) _ fun b ys es H3 e3 hs3 hd3 hl3 hg3 => by
    have hs' := ex_t e3 hs
    have hd' := dpA_ex e3 _ _ hd
    have l1 := dpA_len hd
    have l2 := dpA_len hd3
    refine ⟨a, b, xs, ys, rfl, rfl, hs', hs3, sz_of (by omega), fun h => ?_, fun h h' => ?_, fun h h' p hp => ?_⟩
    · exact q b ys es H3 (e2.trans e3) hs3 hd3 (by omega) hg3
    · exact q a xs ds H3 (e2.trans e3) hs' hd' (by omega) hg
    · exact q p _ (ds ++ es) _ ((e2.trans e3).trans (Ex.new hp)) (st_of upd_same) (dpA_ex (Ex.new hp) _ _ (dpA_of (paired_append (dpA_paired hd') (dpA_paired hd3)))) (by rw [List.length_append]; omega) (gA_app hg hg3)
theorem rep_one {α : Type} (k : Nat) (x : α) : (List.replicate k [x]).flatten = List.replicate k x := by
  induction k with
  | zero => rfl
  | succ k ih => rw [List.replicate_succ, List.flatten_cons, ih]; rfl
theorem dpA_rep (k : Nat) (h : Dp K H v d) : DpAll K H (List.replicate k v) (List.replicate k d) := by
  induction k with
  | zero => exact .nil
  | succ k ih => exact .cons h ih
/-- (x,) * k -/
theorem xt_rep {k : Nat} (h : EvX K te σ H n) (h2 : 2 ≤ k) (h3 : k ≤ 100) : EvXT K (tOp (rRepT K) (tTup (tCons te tNil)) (tC (.int (k : Int)))) σ H n k := fun H1 e Q q =>
  h H1 e _ fun v d H2 e2 hd hg => ⟨by show 1 ≤ sizeLine; decide, fun p hp => ⟨p, (k : Int), [v], rfl, rfl, st_of upd_same, by simp, by omega, by omega, by show 1 ≤ 1000; decide, fun t nt => by
    rw [Int.toNat_natCast, rep_one]
    have e3 := (Ex.new (o := .tup [v]) hp).trans (Ex.new (o := .tup (List.replicate k v)) nt)
    exact q t _ (List.replicate k d) _ (e2.trans e3) (st_of upd_same) (dpA_ex e3 _ _ (dpA_rep k hd)) (by rw [List.length_replicate]; exact Nat.le_refl _) fun d' hd' => by rw [(List.mem_replicate.mp hd').2]; exact hg⟩⟩
/-- a new list of such data -/
def EvXL (K : PySem.W.Frag) (te : TE) (σ : L2.St) (H : Hp) (n l : Nat) : Prop := ∀ H1, Ex H H1 → ∀ Q : VK, (∀ p vs ds H2, H1 p = none → Ex H1 H2 → H2 p = some (.lst vs) → DpAll K H2 vs ds → ds.length = l → (∀ d ∈ ds, Gd 100 n d) → Q (.ref p) H2) → te σ H1 Q
theorem xl_lst {ta : TA} (h : EvXA K ta σ H n l) (hl : l ≤ 1000) : EvXL K (tLst ta) σ H n l := fun H1 e Q q =>
  h H1 e _ fun vs ds H2 e2 hvs hl2 hgs => ⟨sz_of (by rw [dpA_len hvs]; omega), fun p hp => q p vs ds _ (fresh_back e2 hp) (e2.trans (Ex.new hp)) upd_same (dpA_ex (Ex.new hp) _ _ hvs) hl2 hgs⟩
theorem xl_cat {p : Addr} {xs : List V} {m : Nat} (ha : Ev ta σ H (.ref p)) (hp : H p = some (.lst xs)) (hd : DpAll K H xs ds) (hm : ds.length = m) (hg : ∀ d ∈ ds, Gd 100 n d) (hb : EvXL K tb σ H n l) (hn : m + l ≤ 1000) : EvXL K (tOp rCat ta tb) σ H n (m + l) := fun H1 e Q q =>
  ha H1 e _ fun H2 e2 => hb H2 (e.trans e2) _ fun b zs es H3 nb e3 hb3 hz hl hgz => ⟨p, b, xs, zs, rfl, rfl, (e.trans (e2.trans e3)) _ _ hp, hb3, sz_of (by rw [dpA_len hd, dpA_len hz]; omega), fun t nt => q t _ (ds ++ es) _ (fresh_back (e2.trans e3) nt) ((e2.trans e3).trans (Ex.new nt)) upd_same (dpA_ex (Ex.new nt) _ _ (dpA_of (paired_append (dpA_paired (dpA_ex (e.trans (e2.trans e3)) _ _ hd)) (dpA_paired hz)))) (by rw [List.length_append, hm, hl]) (gA_app hg hgz)⟩
theorem q_asgXL {i : Nat} (h : EvXL K te σ H n l) (k : ∀ p vs ds H1, H p = none → Ex H H1 → H1 p = some (.lst vs) → DpAll K H1 vs ds → ds.length = l → (∀ d ∈ ds, Gd 100 n d) → tz D (σ.set i (some (.ref p))) H1) : tSeq (tAsg te (gName i)) tz D σ H := h H (Ex.refl H) _ fun p vs ds H2 np e2 hp hv hl hg => k p vs ds H2 np e2 hp hv hl hg
end
end Kw
set_option Elab.async false
set_option linter.all false
set_option maxRecDepth 100000
set_option maxHeartbeats 4000000
namespace Kw
open PySem PySem.Spec PyProof.Rows L2 Evl
section
variable {K : PySem.W.Frag} {σ : L2.St} {H H' : Hp} {ta tb tc te tl : TE} {t u : TT} {x y z v : V} {r r' : R2}
def rReprB : List V → Hp → VK → Prop := fun xs H Q => ∃ b : Bool, xs = [.bl b] ∧ Q (.str (if b then "True" else "False")) H
theorem cr_reprB {X : Cx} : CallR X (.builtin "repr") rReprB := by
  intro pins s σ H vs us Q I r h
  obtain ⟨b, rfl, q⟩ := h
  obtain ⟨u, rfl, ru⟩ := vals1 r
  cases (show u = Value.bool b from ru)
  exact PySem.P.repr_of_bool ⟨.str _, H, I.tok _, ⟨_, rfl⟩, q⟩
theorem ev_reprB {b : Bool} (ha : Ev ta σ H (.bl b)) : Ev (tCB rReprB (tCons ta tNil)) σ H (.str (if b then "True" else "False")) := fun H1 e Q q =>
  ha H1 e _ fun H2 e2 => ⟨b, rfl, q H2 e2⟩
end
end Kw
set_option Elab.async false
set_option linter.all false
set_option maxRecDepth 100000
set_option maxHeartbeats 4000000
namespace Kw
open PySem PySem.Spec PyProof.Rows L2 Evl
theorem drop3 {xs : List Int} (h : xs.length = 400) (k : Nat) (hk : k < 300) : ∃ (a b c : Int) (ns : List Int), xs.drop k = a :: b :: c :: ns ∧ ns.length ≤ 1000 := by
  have hl : (xs.drop k).length = 400 - k := by rw [List.length_drop, h]
  generalize xs.drop k = ys at hl
  match ys, hl with
  | [], hl => exact absurd hl (by show ¬ 0 = 400 - k; omega)
  | [_], hl => exact absurd hl (by show ¬ 1 = 400 - k; omega)
  | [_, _], hl => exact absurd hl (by show ¬ 2 = 400 - k; omega)
  | a :: b :: c :: ns, hl => exact ⟨a, b, c, ns, rfl, by simp only [List.length_cons] at hl; omega⟩
section
variable {K : PySem.W.Frag} {σ : L2.St} {H H' G : Hp} {ta tb tc te tl : TE} {x y z v : V} {d : PyData} {ds es : List PyData} {D : Ends} {g : TG} {tu tz : TS} {n l : Nat}
theorem el_picks {b d : Addr} {n m : Int} {xs : List Int} (h1 : σ[1]? = some (some (.ref b))) (hb : H b = some (.lst [.ref d, .int n])) (hd : H d = some (.lst (xs.map V.int))) (hx : xs.length = 400) (hm : 0 < m ∧ m ≤ 300) :
    ∃ (a b' c : Int) (ns : List Int), ns.length ≤ 1000 ∧ EvL (tSl (rSlL K) (tOp (rIxL K) (tVar 1) (tC (.int 0))) (tPart (tOp (rI (fun _ j => 0 < j) fun i j => .int (i % j)) (tOp (rIxL K) (tVar 1) (tC (.int 1))) (tC (.int m)))) tNoPart) σ H ((a :: b' :: c :: ns).map V.int) := by
  have g0 := Int.emod_nonneg n (show m ≠ 0 by omega)
  have g1 := Int.emod_lt_of_pos n hm.1
  obtain ⟨k, hk⟩ := Int.eq_ofNat_of_zero_le g0
  obtain ⟨a, b', c, ns, e, hl⟩ := drop3 hx k (by omega)
  refine ⟨a, b', c, ns, hl, ?_⟩
  have := el_sl (K := K) (σ := σ) (H := H) (lo := some (k : Int)) (hi := none) (ev_op (ev_var h1) ev_c (rv_ixL (K := K) (sq_of hb) at0)) (eo_some (ev_op (ev_op (z := .int n) (ev_var h1) ev_c (rv_ixL (K := K) (sq_of hb) at1)) (ev_c (v := .int m)) (rv_val (r := rI (fun _ j => 0 < j) fun i j => .int (i % j)) fun H4 e4 Q q => ⟨n, m, rfl, rfl, hm.1, by show Q (V.int (n % m)) H4; rw [hk]; exact q⟩))) eo_none (sq_of hd)
  rw [cutFrom, ← List.map_drop, e] at this
  exact this
theorem el_picksA {b d : Addr} {n m c0 : Int} {xs : List Int} (h1 : σ[1]? = some (some (.ref b))) (hb : H b = some (.lst [.ref d, .int n])) (hd : H d = some (.lst (xs.map V.int))) (hx : xs.length = 400) (hm : 0 < m ∧ 0 ≤ c0 ∧ m + c0 ≤ 300) :
    ∃ (a b' c : Int) (ns : List Int), ns.length ≤ 1000 ∧ EvL (tSl (rSlL K) (tOp (rIxL K) (tVar 1) (tC (.int 0))) (tPart (tOp (rI0 fun i j => .int (i + j)) (tOp (rI (fun _ j => 0 < j) fun i j => .int (i % j)) (tOp (rIxL K) (tVar 1) (tC (.int 1))) (tC (.int m))) (tC (.int c0)))) tNoPart) σ H ((a :: b' :: c :: ns).map V.int) := by
  have g0 := Int.emod_nonneg n (show m ≠ 0 by omega)
  have g1 := Int.emod_lt_of_pos n hm.1
  obtain ⟨k, hk⟩ := Int.eq_ofNat_of_zero_le (show 0 ≤ n % m + c0 by omega)
  obtain ⟨a, b', c, ns, e, hl⟩ := drop3 hx k (by omega)
  refine ⟨a, b', c, ns, hl, ?_⟩
  have := el_sl (K := K) (σ := σ) (H := H) (lo := some (k : Int)) (hi := none) (ev_op (ev_var h1) ev_c (rv_ixL (K := K) (sq_of hb) at0)) (eo_some (ev_op (ev_op (z := .int (n % m)) (ev_op (z := .int n) (ev_var h1) ev_c (rv_ixL (K := K) (sq_of hb) at1)) (ev_c (v := .int m)) (rv_val (r := rI (fun _ j => 0 < j) fun i j => .int (i % j)) fun H4 e4 Q q => ⟨n, m, rfl, rfl, hm.1, q⟩)) (ev_c (v := .int c0)) (rv_val (r := rI0 fun i j => .int (i + j)) fun H4 e4 Q q => ⟨n % m, c0, rfl, rfl, by show Q (V.int (n % m + c0)) H4; rw [hk]; exact q⟩))) eo_none (sq_of hd)
  rw [cutFrom, ← List.map_drop, e] at this
  exact this
theorem call_spo {Q : VK} {m n : Nat} {a b c : Int} {ns : List Int} (ha : Ev ta σ H v) (hd : Dp K H v d) (hg : Gd m n d) (hn : n < 9) (hm : 20 ≤ m ∧ m ≤ 1000) (hl : EvL tl σ H ((a :: b :: c :: ns).map V.int)) (hns : ns.length ≤ 1000)
    (q : ∀ v' d' H2, Ex H H2 → Dp K H2 v' d' → Gd (m + 1) (n + 4) d' → Q v' H2) : tCall (spSpo K 9) [] E0 (tCons ta (tCons tl tNil)) σ H Q :=
  call_VL ha hl fun p H1 np e1 h1 => ⟨v, p, a, b, c, ns, d, H1, m, n, hn, hm.1, hm.2, rfl, h1, hns, Ex.refl H1, dp_ex e1 _ _ hd, hg, fun v' d' G2 H2 e2 g2 hd2 hg2 => q v' d' H2 (e1.trans e2) (dp_ex g2.into _ _ hd2) hg2⟩
theorem q_asgSpo {i m n : Nat} {a b c : Int} {ns : List Int} (ha : Ev ta σ H v) (hd : Dp K H v d) (hg : Gd m n d) (hn : n < 9) (hm : 20 ≤ m ∧ m ≤ 1000) (hl : EvL tl σ H ((a :: b :: c :: ns).map V.int)) (hns : ns.length ≤ 1000)
    (q : ∀ v' d' H2, Ex H H2 → Dp K H2 v' d' → Gd (m + 1) (n + 4) d' → tz D (σ.set i (some v')) H2) : tSeq (tAsg (tCall (spSpo K 9) [] E0 (tCons ta (tCons tl tNil))) (gName i)) tz D σ H := call_spo ha hd hg hn hm hl hns q
theorem xx_spo {m k : Nat} {a b c : Int} {ns : List Int} (ha : Ev ta σ H v) (hd : Dp K H v d) (hg : Gd m n d) (hn : n < 9) (hm : 20 ≤ m ∧ m < 100) (hl : EvL tl σ H ((a :: b :: c :: ns).map V.int)) (hns : ns.length ≤ 1000) (hk : n + 4 ≤ k) : EvX K (tCall (spSpo K 9) [] E0 (tCons ta (tCons tl tNil))) σ H k := fun H1 e Q q =>
  call_spo (ha.mono e) (dp_ex e _ _ hd) hg hn ⟨hm.1, by omega⟩ (hl.mono e) hns fun v' d' H2 e2 hd2 hg2 => q v' d' H2 e2 hd2 (hg2.mono (by omega) hk)
theorem xx_odd {a b c : Int} {ns : List Int} (hl : EvL tl σ H ((a :: b :: c :: ns).map V.int)) (hk : 4 ≤ n) : EvX K (tCall (spOdd K) [] E0 (tCons tl tNil)) σ H n := fun H1 e Q q =>
  call_L (hl.mono e) fun p H2 np e2 h2 => ⟨p, a, b, c :: ns, H2, rfl, h2, Ex.refl H2, fun v d G2 H3 e3 g3 hd hg => q v d H3 (e2.trans e3) (dp_ex g3.into _ _ hd) (hg.mono (by decide) hk)⟩
theorem xt_var {p : Addr} {xs : List V} (ha : Ev te σ H (.ref p)) (hs : SqT K H p xs) (hd : DpAll K H xs ds) (hl : ds.length ≤ l) (hg : ∀ d ∈ ds, Gd 100 n d) : EvXT K te σ H n l := fun H1 e Q q =>
  ha H1 e Q fun H2 e2 => q p xs ds H2 e2 (ex_t (e.trans e2) hs) (dpA_ex (e.trans e2) _ _ hd) hl hg
theorem xt_new {xs : List V} (h : EvU te σ H xs) (hd : DpAll K H xs ds) (hl : ds.length ≤ l) (hg : ∀ d ∈ ds, Gd 100 n d) : EvXT K te σ H n l := fun H1 e Q q =>
  h H1 e Q fun p H2 _ e2 hp => q p xs ds H2 e2 (st_of hp) (dpA_ex (e.trans e2) _ _ hd) hl hg
theorem s_asgXL {i : Nat} (h : EvXL K te σ H n l) (k : ∀ p vs ds H1, H p = none → Ex H H1 → H1 p = some (.lst vs) → DpAll K H1 vs ds → ds.length = l → (∀ d ∈ ds, Gd 100 n d) → D.nx (σ.set i (some (.ref p))) H1) : tAsg te (gName i) D σ H := h H (Ex.refl H) _ fun p vs ds H2 np e2 hp hv hl hg => k p vs ds H2 np e2 hp hv hl hg
theorem q_tup2X {i j : Nat} {xs : List V} (h1 : EvU ta σ H xs) (h2 : ∀ H1, Ex H H1 → EvXT K tb σ H1 n l)
    (k : ∀ p6 pb vs ds H2, Ex H H2 → H2 p6 = some (.tup xs) → SqT K H2 pb vs → DpAll K H2 vs ds → ds.length ≤ l → (∀ d ∈ ds, Gd 100 n d) → tz D ((σ.set i (some (.ref p6))).set j (some (.ref pb))) H2) :
    tSeq (tAsg (tTup (tCons ta (tCons tb tNil))) (gTup K 2 (gCons (gName i) (gCons (gName j) gNil)))) tz D σ H :=
  h1 H (Ex.refl H) _ fun p6 H1 n1 e1 h1' => h2 H1 e1 H1 (Ex.refl H1) _ fun pb vs ds H2 e2 hs hd hl hg => ⟨by show 2 ≤ sizeLine; decide, fun p np => ⟨p, _, rfl, st_of upd_same, rfl, .ref p6, [.ref pb], rfl, .ref pb, [], rfl, rfl, k p6 pb vs ds _ ((e1.trans e2).trans (Ex.new np)) (Ex.new np _ _ (e2 _ _ h1')) (ex_t (Ex.new np) hs) (dpA_ex (Ex.new np) _ _ hd) hl hg⟩⟩
theorem xt_mono {l' : Nat} (h : EvXT K te σ H n l) (hl : l ≤ l') : EvXT K te σ H n l' := fun H1 e Q q => h H1 e Q fun p vs ds H2 e2 hs hd hl2 hg => q p vs ds H2 e2 hs hd (by omega) hg
end
end Kw
set_option Elab.async false
set_option linter.all false
set_option maxRecDepth 100000
set_option maxHeartbeats 4000000
namespace Kw
open PySem PySem.Spec PyProof.Rows L2 Evl KwX NdefX LamX
abbrev sRef : Stmt := topS 38
theorem scRef : FnScope ["call", "one", "two", "three", "kin", "e", "words", "word", "there"] ["call", "one", "two", "three"] (defScope sRef) := ⟨rfl, rfl, rfl, by decide +kernel, rfl, by decide +kernel, by decide +kernel⟩
def cnames : List Str := ["NoHouse", "NoColour", "NoRow", "NoBoxes", "NoLaying", "NoNumber", "NoBox", "NoKey", "Locks", "Unlike", "Open", "Shut", "Full", "NothingLeft"]
def nmC (i : Nat) : Str := cnames.getD i default
def resV (bs : Nat → Bool) : List V := (((List.range 14).filter bs).map fun i => V.str (nmC i)) ++ [.bl true]
/-- what the names that _law_refused looks up are; C: the class that was raised -/
structure RefT (K : PySem.W.Frag) (mg : Str → Option Value) (C : Addr) (d : Nat → Addr) (bs : Nat → Bool) (dT dL dB : Addr) : Prop where
  mT : mg "TooMany" = some (.ref dT)
  mL : mg "Locked" = some (.ref dL)
  mB : mg "BoxError" = some (.ref dB)
  m : ∀ i, i < 14 → mg (nmC i) = some (.ref (d i))
  eT : PySem.W.exmOne K (.ref C) (.ref dT) = some false
  eL : PySem.W.exmOne K (.ref C) (.ref dL) = some false
  eB : PySem.W.exmOne K (.ref C) (.ref dB) = some true
  kit : ∀ i, i < 14 → PySem.W.kitOne K (.ref C) (.ref (d i)) = some (bs i)
  kitV : PySem.W.kitOne K (.ref C) (.type "ValueError") = some true
  ec : ExcC K C
  isi : mg "isinstance" = none
  ve : mg "ValueError" = none
theorem takes0N {X : Cx} : L2N.Takes X (fun _ _ _ _ => False) := fun _ _ x => by
  obtain ⟨_, _, _, _, _, _, _, _, _, _, _, _, _, _, _, _, z⟩ := x
  exact z.elim
theorem pss_pre {X : Cx} {l : List Stmt} {t : TS} {φ : Prop} (h : φ → PSs X l t) : PSs X l (fun D σ H => φ ∧ t D σ H) := ⟨fun pins s σ H D I w => (h w.1).run pins s σ H D I w.2⟩
theorem pss_no {X : Cx} {l : List Stmt} : PSs X l (fun _ _ _ => False) := ⟨fun _ _ _ _ _ _ w => False.elim w⟩
section
variable (K : PySem.W.Frag) (C a : Addr) (d : Nat → Addr)
def tIsC (v : V) : TE := tCB (rIsE K C a) (tCons (tVar 5) (tCons (tC v) tNil))
def tPr (i : Nat) : TE := tTup (tCons (tC (.str (nmC i))) (tCons (tIsC K C a (.ref (d i))) tNil))
def tW1 (i : Nat) : TS := tAsg (tOp rCat (tVar 6) (tLst (tCons (tPr K C a d i) tNil))) (gName 6)
def tW2 (i : Nat) : TS := tAsg (tOp rCat (tVar 6) (tLst (tCons (tPr K C a d i) (tCons (tPr K C a d (i + 1)) tNil)))) (gName 6)
def tKin : TS := tAsg (tOp rCat (tLc (iList K (tVar 6)) (gTup K 2 (gCons (gName 7) (gCons (gName 8) gNil))) (tB (tVar 8)) (tVar 7) [7, 8]) (tLst (tCons (tIsC K C a (.ty "ValueError")) tNil))) (gName 4)
def tSui : TS := tSeq (tAsg (tLst (tCons (tPr K C a d 0) (tCons (tPr K C a d 1) tNil))) (gName 6)) (tSeq (tW1 K C a d 2) (tSeq (tW2 K C a d 3) (tSeq (tW2 K C a d 5) (tSeq (tW2 K C a d 7) (tSeq (tW1 K C a d 9) (tSeq (tW2 K C a d 10) (tSeq (tW1 K C a d 12)
  (tSeq (tDrop (tBM K "list" rAppend (tVar 6) (tCons (tPr K C a d 13) tNil))) (tKin K C a)))))))))
end
theorem boot_ValueError : bootBuiltins "ValueError" = some (.type "ValueError") := by decide +kernel
def spRef (K : PySem.W.Frag) (mk : Addr → NF) (b : Expr) (spL : Sp) (C : Addr) (bs : Nat → Bool) : Sp := fun vs H Q _ => ∃ (f c' : Addr) (v1 v2 v3 : V), vs = [.ref f, v1, v2, v3] ∧ H f = some (LamO f (mk c') b) ∧ H (mk c').c = some (CodeO (mk c').c (mk c').qual) ∧
  (∀ H1, Ex H H1 → ∀ (Q' : VK) (E' : XK), (∀ H2, Ex H1 H2 → E' (.ref C) none H2) → spL [v1, v2, v3] H1 Q' E') ∧ ∀ p H2, H p = none → Ex H H2 → H2 p = some (.lst (resV bs)) → Q (.ref p) H2
section
variable {P : Program} {w : World} {K : PySem.W.Frag} {mg : Str → Option Value} {base : Heap}
def tRef (K : PySem.W.Frag) (mk : Addr → NF) (b : Expr) (spL : Sp) (C : Addr) (d : Nat → Addr) (dT dL dB : Addr) : TS :=
  tSeq (tAsg (tLst tNil) (gName 4)) (tSeq (fun D σ H => tDrop (tCallV mk b 0 spL (fun σ => WE (wAsM K 5 (fun _ _ _ _ => False) D [(.ref dT, fun _ _ _ => (fun _ _ _ => False)), (.ref dL, fun _ _ _ => (fun _ _ _ => False)), (.ref dB, fun a cls dd => fun D σ H => (cls = .ref C ∧ dd = none) ∧ tSui K C a d D σ H)]) σ)
    (tCons (tVar 1) (tCons (tVar 2) (tCons (tVar 3) tNil)))) D σ H) (tRet (tVar 4)))
theorem ok_ref' {f : Addr} {fd : FuncData} {k : Nat} {mk : Addr → NF} {b : Expr} {ps : List Str} {spL : Sp} {C dT dL dB : Addr} {d : Nat → Addr} {bs : Nat → Bool} (F : Fun K "_law_refused" "_law_refused" sRef f fd) (T : RefT K mg C d bs dT dL dB) (L : ∀ c', LOk P w K mg base (L2N.CX P w) k (mk c') b ps spL)
    (core : ∀ (f c' : Addr) (v1 v2 v3 : V) (H : Hp) (Q : VK) (nx bk ct : L2.St → Hp → Prop), H f = some (LamO f (mk c') b) → H (mk c').c = some (CodeO (mk c').c (mk c').qual) → ((∀ H1, Ex H H1 → ∀ (Q' : VK) (E' : XK), (∀ H2, Ex H1 H2 → E' (.ref C) none H2) → spL [v1, v2, v3] H1 Q' E')) → (∀ p H2, H p = none → Ex H H2 → H2 p = some (.lst (resV bs)) → Q (.ref p) H2) →
      tRef K mk b spL C d dT dL dB ⟨nx, Q, bk, ct⟩ [some (.ref f), some v1, some v2, some v3, none, none, none, none, none] H) : FnOk P w K mg base CX0 (k + 1) f fd ["call", "one", "two", "three"] (spRef K mk b spL C bs) := by
  refine F.ok scRef (fun vs H Q E h => ?_) (fun cdv A outer s H vs Q E hr h => ?_)
  · obtain ⟨f, c', v1, v2, v3, rfl, _⟩ := h
    rfl
  · obtain ⟨f, c', v1, v2, v3, rfl, hf, hc, q, qq⟩ := h
    refine ⟨tRef K mk b spL C d dT dL dB, pss_cons (ps_set (i := 4) scRef.nd rfl (.inl rfl) (pe_lst pa_nil))
      (pss_cons (ps_try_asM (j := 5) (n := "e") (Wo := fun _ _ _ _ => False) (tb := fun W => tDrop (tCallV mk b 0 spL (fun σ => WE W σ) (tCons (tVar 1) (tCons (tVar 2) (tCons (tVar 3) tNil))))) rfl rfl scRef.nd rfl rfl takes0N
        (fun W pp xe tk _ => pss_one (ps_expr (pe_callV (E := fun σ => WE W σ) (j := k) L hr (Nat.le_refl k) (fun σ => L2N.passAt tk σ) rfl (.inl rfl) (pa_cons (pv 1) (pa_cons (pv 2) (pa_cons (pv 3) pa_nil))))))
        (.cons ⟨rfl, by decide, .inl T.mT⟩ (fun _ _ _ _ _ _ _ => pss_no) (.cons ⟨rfl, by decide, .inl T.mL⟩ (fun _ _ _ _ _ _ _ => pss_no) (.cons ⟨rfl, by decide, .inl T.mB⟩ (fun a oe cls dd pn hz hfs => pss_pre fun hcd => ?_) .nil))))
      (pss_one (ps_ret (pv 4)))), core f c' v1 v2 v3 H _ _ _ _ hf hc q qq⟩
    obtain ⟨rfl, rfl⟩ := hcd
    have hot : ∀ X : Cx, L2H.HotC (X.suite a ((a, oe) :: pn)) := fun X => by
      obtain ⟨vs, hv⟩ := hfs
      exact ⟨(a, oe), ⟨rfl, vs, hv, hz.2.2 vs hv⟩, List.mem_cons_self⟩
    have isE := fun (X : Cx) (ec : ExcC X.K C) => call_isE (X := X) (a := a) (pn := pn) ec hz.zc hfs
    exact (pss_cons (ps_set (i := 6) scRef.nd rfl (.inl rfl) (pe_lst (pa_cons (pe_tup (pa_cons pe_str (pa_cons (pe_callB (isE _ T.ec) (by rfl) T.isi boot_isinstance (pa_cons (pv 5) (pa_cons (pe_glob (v := .ref (d 0)) (by rfl) (T.m 0 (by decide)) rfl) pa_nil))) pa_nil))) (pa_cons (pe_tup (pa_cons pe_str (pa_cons (pe_callB (isE _ T.ec) (by rfl) T.isi boot_isinstance (pa_cons (pv 5) (pa_cons (pe_glob (v := .ref (d 1)) (by rfl) (T.m 1 (by decide)) rfl) pa_nil))) pa_nil))) pa_nil))))
          (pss_cons (ps_set (i := 6) scRef.nd rfl (.inl rfl) (pe_op op_cat (pv 6) (pe_lst (pa_cons (pe_tup (pa_cons pe_str (pa_cons (pe_callB (isE _ T.ec) (by rfl) T.isi boot_isinstance (pa_cons (pv 5) (pa_cons (pe_glob (v := .ref (d 2)) (by rfl) (T.m 2 (by decide)) rfl) pa_nil))) pa_nil))) pa_nil))))
          (pss_cons (ps_set (i := 6) scRef.nd rfl (.inl rfl) (pe_op op_cat (pv 6) (pe_lst (pa_cons (pe_tup (pa_cons pe_str (pa_cons (pe_callB (isE _ T.ec) (by rfl) T.isi boot_isinstance (pa_cons (pv 5) (pa_cons (pe_glob (v := .ref (d 3)) (by rfl) (T.m 3 (by decide)) rfl) pa_nil))) pa_nil))) (pa_cons (pe_tup (pa_cons pe_str (pa_cons (pe_callB (isE _ T.ec) (by rfl) T.isi boot_isinstance (pa_cons (pv 5) (pa_cons (pe_glob (v := .ref (d 4)) (by rfl) (T.m 4 (by decide)) rfl) pa_nil))) pa_nil))) pa_nil)))))
          (pss_cons (ps_set (i := 6) scRef.nd rfl (.inl rfl) (pe_op op_cat (pv 6) (pe_lst (pa_cons (pe_tup (pa_cons pe_str (pa_cons (pe_callB (isE _ T.ec) (by rfl) T.isi boot_isinstance (pa_cons (pv 5) (pa_cons (pe_glob (v := .ref (d 5)) (by rfl) (T.m 5 (by decide)) rfl) pa_nil))) pa_nil))) (pa_cons (pe_tup (pa_cons pe_str (pa_cons (pe_callB (isE _ T.ec) (by rfl) T.isi boot_isinstance (pa_cons (pv 5) (pa_cons (pe_glob (v := .ref (d 6)) (by rfl) (T.m 6 (by decide)) rfl) pa_nil))) pa_nil))) pa_nil)))))
          (pss_cons (ps_set (i := 6) scRef.nd rfl (.inl rfl) (pe_op op_cat (pv 6) (pe_lst (pa_cons (pe_tup (pa_cons pe_str (pa_cons (pe_callB (isE _ T.ec) (by rfl) T.isi boot_isinstance (pa_cons (pv 5) (pa_cons (pe_glob (v := .ref (d 7)) (by rfl) (T.m 7 (by decide)) rfl) pa_nil))) pa_nil))) (pa_cons (pe_tup (pa_cons pe_str (pa_cons (pe_callB (isE _ T.ec) (by rfl) T.isi boot_isinstance (pa_cons (pv 5) (pa_cons (pe_glob (v := .ref (d 8)) (by rfl) (T.m 8 (by decide)) rfl) pa_nil))) pa_nil))) pa_nil)))))
          (pss_cons (ps_set (i := 6) scRef.nd rfl (.inl rfl) (pe_op op_cat (pv 6) (pe_lst (pa_cons (pe_tup (pa_cons pe_str (pa_cons (pe_callB (isE _ T.ec) (by rfl) T.isi boot_isinstance (pa_cons (pv 5) (pa_cons (pe_glob (v := .ref (d 9)) (by rfl) (T.m 9 (by decide)) rfl) pa_nil))) pa_nil))) pa_nil))))
          (pss_cons (ps_set (i := 6) scRef.nd rfl (.inl rfl) (pe_op op_cat (pv 6) (pe_lst (pa_cons (pe_tup (pa_cons pe_str (pa_cons (pe_callB (isE _ T.ec) (by rfl) T.isi boot_isinstance (pa_cons (pv 5) (pa_cons (pe_glob (v := .ref (d 10)) (by rfl) (T.m 10 (by decide)) rfl) pa_nil))) pa_nil))) (pa_cons (pe_tup (pa_cons pe_str (pa_cons (pe_callB (isE _ T.ec) (by rfl) T.isi boot_isinstance (pa_cons (pv 5) (pa_cons (pe_glob (v := .ref (d 11)) (by rfl) (T.m 11 (by decide)) rfl) pa_nil))) pa_nil))) pa_nil)))))
          (pss_cons (ps_set (i := 6) scRef.nd rfl (.inl rfl) (pe_op op_cat (pv 6) (pe_lst (pa_cons (pe_tup (pa_cons pe_str (pa_cons (pe_callB (isE _ T.ec) (by rfl) T.isi boot_isinstance (pa_cons (pv 5) (pa_cons (pe_glob (v := .ref (d 12)) (by rfl) (T.m 12 (by decide)) rfl) pa_nil))) pa_nil))) pa_nil))))
          (pss_cons (ps_expr (pe_bm PySem.F.plainAttrs_list PySem.F.slot_list_append PySem.F.type_list_append mt_append (pv 6) (pa_cons (pe_tup (pa_cons pe_str (pa_cons (pe_callB (isE _ T.ec) (by rfl) T.isi boot_isinstance (pa_cons (pv 5) (pa_cons (pe_glob (v := .ref (d 13)) (by rfl) (T.m 13 (by decide)) rfl) pa_nil))) pa_nil))) pa_nil)))
          (pss_one (ps_set (i := 4) scRef.nd rfl (.inl rfl) (pe_op op_cat (pe_lcH (own := [("word", 7), ("there", 8)]) (g := gTup K 2 (gCons (gName 7) (gCons (gName 8) gNil))) (tt := tB (tVar 8)) (te := tVar 7) (hot _) scRef.nd (pi_listH (pv 6)) (blkOk_by (N := ["call", "one", "two", "three", "kin", "e", "words", "word", "there"]) (sc := defScope sRef) (by decide +kernel))
          (fun _ _ _ _ _ => pg_tupH (hot _) (pgs_cons (pg_name (i := 7) scRef.nd rfl (.inl rfl)) (pgs_cons (pg_name (i := 8) scRef.nd rfl (.inl rfl)) pgs_nil))) (fun _ _ _ _ _ => pts_one (pt_val (pv 8))) (fun _ _ _ _ _ => pv 7))
          (pe_lst (pa_cons (pe_callB (isE _ T.ec) (by rfl) T.isi boot_isinstance (pa_cons (pv 5) (pa_cons (pe_bltn (v := .ty "ValueError") (by rfl) T.ve boot_ValueError rfl) pa_nil))) pa_nil))))))))))))))
end
end Kw
set_option Elab.async false
set_option linter.all false
set_option maxRecDepth 100000
set_option maxHeartbeats 4000000
namespace Kw
open PySem PySem.Spec PyProof.Rows L2 Evl KwX NdefX LamX
def PairAt (K : PySem.W.Frag) (bs : Nat → Bool) (H : Hp) (v : V) (i : Nat) : Prop := ∃ t, v = .ref t ∧ SqT K H t [.str (nmC i), .bl (bs i)]
def WdAt (K : PySem.W.Frag) (bs : Nat → Bool) (H : Hp) (l : Addr) (n : Nat) : Prop := ∃ vs, H l = some (.lst vs) ∧ Paired (PairAt K bs H) vs (List.range n)
section
variable {K : PySem.W.Frag} {mg : Str → Option Value} {C a dT dL dB : Addr} {d : Nat → Addr} {bs : Nat → Bool} {σ : L2.St} {H H' : Hp} {D : Ends} {tz : TS}
theorem PairAt.ex {v : V} {i : Nat} (e : Ex H H') (h : PairAt K bs H v i) : PairAt K bs H' v i := by
  obtain ⟨t, h1, h2⟩ := h
  exact ⟨t, h1, ex_t e h2⟩
theorem ev_isC (T : RefT K mg C d bs dT dL dB) (h5 : σ[5]? = some (some (.ref a))) {i : Nat} (hi : i < 14) : Ev (tIsC K C a (.ref (d i))) σ H (.bl (bs i)) := fun H1 e Q q =>
  ⟨.ref a, h5, .ref (d i), .ref (d i), bs i, rfl, fun u r => r, T.kit i hi, q H1 (Ex.refl H1)⟩
theorem ev_isV (T : RefT K mg C d bs dT dL dB) (h5 : σ[5]? = some (some (.ref a))) : Ev (tIsC K C a (.ty "ValueError")) σ H (.bl true) := fun H1 e Q q =>
  ⟨.ref a, h5, .ty "ValueError", .type "ValueError", true, rfl, fun u r => r, T.kitV, q H1 (Ex.refl H1)⟩
theorem eu_pr (T : RefT K mg C d bs dT dL dB) (h5 : σ[5]? = some (some (.ref a))) {i : Nat} (hi : i < 14) : EvU (tPr K C a d i) σ H [.str (nmC i), .bl (bs i)] :=
  eu_tup (ea_cons ev_c (ea_cons (ev_isC T h5 hi) ea_nil)) (by show 2 ≤ 100000; decide)
theorem q_cat1U {te : TE} {xs vs : List V} {i j : Nat} {l : Addr} (h : EvU te σ H xs) (hj : σ[j]? = some (some (.ref l))) (hl : H l = some (.lst vs)) (len : vs.length ≤ 1000) (k : ∀ r t H1, H r = none → Ex H H1 → H1 t = some (.tup xs) → H1 r = some (.lst (vs ++ [.ref t])) → tz D (σ.set i (some (.ref r))) H1) :
    tSeq (tAsg (tOp rCat (tVar j) (tLst (tCons te tNil))) (gName i)) tz D σ H := by
  refine ⟨.ref l, hj, h H (Ex.refl H) _ fun t H1 nt e1 ht => ⟨by show 1 ≤ sizeLine; decide, fun q hq => ⟨l, q, vs, [.ref t], rfl, rfl, (Ex.new hq) _ _ (e1 _ _ hl), upd_same, sz_of (by rw [List.length_singleton]; omega), fun r hr => ?_⟩⟩⟩
  have e2 := (Ex.new (o := .lst [.ref t]) hq).trans (Ex.new (o := .lst (vs ++ [.ref t])) hr)
  exact k r t _ (fresh_back (e1.trans (Ex.new hq)) hr) (e1.trans e2) (e2 _ _ ht) upd_same
theorem q_cat2U {te tu : TE} {xs ys vs : List V} {i j : Nat} {l : Addr} (h : EvU te σ H xs) (h' : ∀ H1, EvU tu σ H1 ys) (hj : σ[j]? = some (some (.ref l))) (hl : H l = some (.lst vs)) (len : vs.length ≤ 1000)
    (k : ∀ r t u H1, Ex H H1 → H1 t = some (.tup xs) → H1 u = some (.tup ys) → H1 r = some (.lst (vs ++ [.ref t, .ref u])) → tz D (σ.set i (some (.ref r))) H1) : tSeq (tAsg (tOp rCat (tVar j) (tLst (tCons te (tCons tu tNil)))) (gName i)) tz D σ H := by
  refine ⟨.ref l, hj, h H (Ex.refl H) _ fun t H1 nt e1 ht => h' H1 H1 (Ex.refl H1) _ fun u H2 nu e2 hu => ⟨by show 2 ≤ sizeLine; decide, fun q hq => ⟨l, q, vs, [.ref t, .ref u], rfl, rfl, (Ex.new hq) _ _ (e2 _ _ (e1 _ _ hl)), upd_same, sz_of (by show vs.length + 2 ≤ _; omega), fun r hr => ?_⟩⟩⟩
  have e3 := (Ex.new (o := .lst [.ref t, .ref u]) hq).trans (Ex.new (o := .lst (vs ++ [.ref t, .ref u])) hr)
  exact k r t u _ ((e1.trans e2).trans e3) (e3 _ _ (e2 _ _ ht)) (e3 _ _ hu) upd_same
theorem q_lst2U {te tu : TE} {xs ys : List V} {i : Nat} (h : EvU te σ H xs) (h' : ∀ H1, EvU tu σ H1 ys) (k : ∀ r t u H1, Ex H H1 → H1 t = some (.tup xs) → H1 u = some (.tup ys) → H1 r = some (.lst [.ref t, .ref u]) → tz D (σ.set i (some (.ref r))) H1) :
    tSeq (tAsg (tLst (tCons te (tCons tu tNil))) (gName i)) tz D σ H :=
  h H (Ex.refl H) _ fun t H1 nt e1 ht => h' H1 H1 (Ex.refl H1) _ fun u H2 nu e2 hu => ⟨by show 2 ≤ sizeLine; decide, fun q hq => k q t u _ ((e1.trans e2).trans (Ex.new hq)) ((Ex.new hq) _ _ (e2 _ _ ht)) ((Ex.new hq) _ _ hu) upd_same⟩
theorem q_appUt {te : TE} {xs vs : List V} {j : Nat} {l : Addr} (h : EvU te σ H xs) (hj : σ[j]? = some (some (.ref l))) (hl : H l = some (.lst vs)) (len : vs.length ≤ 1000) (k : ∀ t H1, Ex H H1 → H1 t = some (.tup xs) → H1 l = some (.lst vs) → tz D σ (upd H1 l (.lst (vs ++ [.ref t])))) :
    tSeq (tDrop (tBM K "list" rAppend (tVar j) (tCons te tNil))) tz D σ H :=
  ⟨.ref l, hj, .inl ⟨rfl, _, sq_of hl⟩, h H (Ex.refl H) _ fun t H1 nt e1 ht => ⟨l, vs, .ref t, rfl, rfl, e1 _ _ hl, sz_lt (by omega), k t H1 e1 ht (e1 _ _ hl)⟩⟩
theorem w1 (T : RefT K mg C d bs dT dL dB) (h5 : σ[5]? = some (some (.ref a))) {l : Addr} {n : Nat} (hn : n < 14) (h6 : σ[6]? = some (some (.ref l))) (hW : WdAt K bs H l n) (k : ∀ r H1, H r = none → Ex H H1 → WdAt K bs H1 r (n + 1) → tz D (σ.set 6 (some (.ref r))) H1) :
    tSeq (tW1 K C a d n) tz D σ H := by
  obtain ⟨vs, hl, hp⟩ := hW
  have len : vs.length = n := by rw [paired_len hp, List.length_range]
  refine q_cat1U (eu_pr T h5 hn) h6 hl (by omega) fun r t H1 nr e ht hr => k r H1 nr e ⟨vs ++ [.ref t], hr, ?_⟩
  rw [List.range_succ]
  exact paired_app (paired_imp hp fun _ _ x => x.ex e) ⟨t, rfl, st_of ht⟩
theorem w2 (T : RefT K mg C d bs dT dL dB) (h5 : σ[5]? = some (some (.ref a))) {l : Addr} {n : Nat} (hn : n + 1 < 14) (h6 : σ[6]? = some (some (.ref l))) (hW : WdAt K bs H l n) (k : ∀ r H1, Ex H H1 → WdAt K bs H1 r (n + 2) → tz D (σ.set 6 (some (.ref r))) H1) :
    tSeq (tW2 K C a d n) tz D σ H := by
  obtain ⟨vs, hl, hp⟩ := hW
  have len : vs.length = n := by rw [paired_len hp, List.length_range]
  refine q_cat2U (eu_pr T h5 (by omega)) (fun H1 => eu_pr T h5 hn) h6 hl (by omega) fun r t u H1 e ht hu hr => k r H1 e ⟨vs ++ [.ref t, .ref u], hr, ?_⟩
  rw [List.range_succ, List.range_succ, show vs ++ [V.ref t, V.ref u] = (vs ++ [.ref t]) ++ [.ref u] by simp]
  exact paired_app (paired_app (paired_imp hp fun _ _ x => x.ex e) ⟨t, rfl, st_of ht⟩) ⟨u, rfl, st_of hu⟩
theorem sui_ok (T : RefT K mg C d bs dT dL dB) {y0 y1 y2 y3 y4 : Option V} (k : ∀ p y6 y7 y8 H1, H p = none → Ex H H1 → H1 p = some (.lst (resV bs)) → D.nx [y0, y1, y2, y3, some (.ref p), some (.ref a), y6, y7, y8] H1) :
    tSui K C a d D [y0, y1, y2, y3, y4, some (.ref a), none, none, none] H := by
  refine q_lst2U (i := 6) (eu_pr T rfl (by decide)) (fun H1 => eu_pr T rfl (by decide)) fun q t u G0 f0 ht hu hq => ?_
  have g0 : WdAt K bs G0 q 2 := ⟨_, hq, .cons ⟨t, rfl, st_of ht⟩ (.cons ⟨u, rfl, st_of hu⟩ .nil)⟩
  refine w1 T rfl (by decide) rfl g0 fun q1 G1 _ f1 g1 => ?_
  refine w2 T rfl (by decide) rfl g1 fun q2 G2 f2 g2 => ?_
  refine w2 T rfl (by decide) rfl g2 fun q3 G3 f3 g3 => ?_
  refine w2 T rfl (by decide) rfl g3 fun q4 G4 f4 g4 => ?_
  refine w1 T rfl (by decide) rfl g4 fun q5 G5 _ f5 g5 => ?_
  refine w2 T rfl (by decide) rfl g5 fun q6 G6 f6 g6 => ?_
  refine w1 T rfl (by decide) rfl g6 fun q7 G7 n7 f7 g7 => ?_
  have eB := ((((((f0.trans f1).trans f2).trans f3).trans f4).trans f5).trans f6).trans f7
  obtain ⟨vs, hl, hp⟩ := g7
  have len : vs.length = 13 := by rw [paired_len hp, List.length_range]
  have nH : H q7 = none := fresh_back ((((((f0.trans f1).trans f2).trans f3).trans f4).trans f5).trans f6) n7
  refine q_appUt (K := K) (eu_pr T rfl (by decide)) rfl hl (by omega) fun t9 G8 e8 ht8 hl8 => ?_
  have kp := KeepT.lst (ys := vs ++ [.ref t9]) hl8
  have eC : Ex H (upd G8 q7 (.lst (vs ++ [.ref t9]))) := Ex.mut (eB.trans e8) nH
  have hq9 : upd G8 q7 (.lst (vs ++ [.ref t9])) q7 = some (.lst (vs ++ [.ref t9])) := upd_same
  have hp9 : Paired (PairAt K bs (upd G8 q7 (.lst (vs ++ [.ref t9])))) (vs ++ [.ref t9]) (List.range 14) := by
    rw [List.range_succ]
    refine paired_app (paired_imp hp fun _ _ x => ?_) ⟨t9, rfl, keep_t kp (st_of ht8)⟩
    obtain ⟨z, z1, z2⟩ := x
    exact ⟨z, z1, keep_t ((KeepT.ex e8).trans kp) z2⟩
  generalize upd G8 q7 (.lst (vs ++ [.ref t9])) = G at eC hq9 hp9
  have len9 : (vs ++ [V.ref t9]).length = 14 := by rw [List.length_append, List.length_singleton, len]
  refine s_asgL (i := 4) (xs := resV bs) (el_catN (el_lc (ew_list (K := K) (ev_var (v := .ref q7) rfl) (sq_of hq9)) (by omega) bs (fun i => .str (nmC i)) (by rw [len9]) (fun i x H1 H2 Q e hi hy kk => ?_)) (el_lst (ea_cons (ev_isV T rfl) ea_nil) (by show 1 ≤ 100000; decide)) ?_) fun p G9 np e9 hpp => k p _ _ _ G9 (fresh_back eC np) (eC.trans e9) hpp
  · obtain ⟨rfl, hx⟩ := hy
    obtain ⟨j, hj, t, rfl, ht⟩ := paired_get hp9 hx
    have hji : j = i := by
      rw [len9] at hi
      rw [List.getElem?_range hi] at hj
      exact (Option.some.inj hj).symm
    subst hji
    refine ⟨t, _, rfl, ex_t e ht, rfl, .str (nmC j), [.bl (bs j)], rfl, .bl (bs j), [], rfl, rfl, kk _ _ (Ex.refl _) rfl (et_B (ev_var rfl)) fun _ => ev_var rfl⟩
  · rw [List.length_map]
    have := List.length_filter_le bs (List.range 14)
    rw [List.length_range] at this
    show _ + 1 ≤ 100000
    omega
theorem ref_core {mk : Addr → NF} {b : Expr} {spL : Sp} (T : RefT K mg C d bs dT dL dB) {f c' : Addr} {v1 v2 v3 : V} {Q : VK} {nx bk ct : L2.St → Hp → Prop} (hf : H f = some (LamO f (mk c') b)) (hc : H (mk c').c = some (CodeO (mk c').c (mk c').qual))
    (q : ∀ H1, Ex H H1 → ∀ (Q' : VK) (E' : XK), (∀ H2, Ex H1 H2 → E' (.ref C) none H2) → spL [v1, v2, v3] H1 Q' E') (qq : ∀ p H2, H p = none → Ex H H2 → H2 p = some (.lst (resV bs)) → Q (.ref p) H2) :
    tRef K mk b spL C d dT dL dB ⟨nx, Q, bk, ct⟩ [some (.ref f), some v1, some v2, some v3, none, none, none, none, none] H := by
  refine q_asgL (i := 4) (xs := []) (el_lst ea_nil (by decide)) fun kp H1 n1 e1 hk => ?_
  refine ⟨f, c', rfl, e1 _ _ hf, v1, rfl, v2, rfl, v3, rfl, e1 _ _ hf, e1 _ _ hc, ?_⟩
  refine q H1 e1 _ _ fun H2 e2 => ?_
  refine ⟨false, T.eT, (fun h => by cases h), fun _ => ⟨false, T.eL, (fun h => by cases h), fun _ => ⟨true, T.eB, fun _ a na => ⟨⟨rfl, rfl⟩, ?_⟩, fun h => by cases h⟩⟩⟩
  refine sui_ok (a := a) T fun p y6 y7 y8 H3 np e3 hp => ?_
  exact ⟨.ref p, rfl, qq p H3 (fresh_back (e1.trans e2) np) ((e1.trans e2).trans e3) hp⟩
end
end Kw
set_option Elab.async false
set_option linter.all false
set_option maxRecDepth 100000
set_option maxHeartbeats 4000000
namespace Kw
open PySem PySem.Spec PyProof.Rows L2 Evl KwX NdefX LamX
/-- all but the bag at a and the tables stays -/
def XB (a : Addr) (H H' : Hp) : Prop := ∀ b o, b ≠ a → H b = some o → (∀ ps, o ≠ .tbl ps) → H' b = some o
theorem XB.refl (a : Addr) (H : Hp) : XB a H H := fun _ _ _ h _ => h
theorem XB.trans {a : Addr} {H H1 H2 : Hp} (x : XB a H H1) (y : XB a H1 H2) : XB a H H2 := fun b o n h t => y b o n (x b o n h t) t
theorem XB.b {a : Addr} {H H' : Hp} (e : ExB a H H') : XB a H H' := fun b o n h _ => e b o n h
theorem XB.n {a : Addr} {H H' : Hp} (e : ExtN H H') : XB a H H' := fun b o _ h t => e b o h t
theorem XB.ex {a : Addr} {H H' : Hp} (e : Ex H H') : XB a H H' := fun b o _ h _ => e b o h
theorem Bag.n {H H' : Hp} {a : Addr} (e : ExtN H H') (h : Bag H a) : Bag H' a := by
  obtain ⟨d, n, xs, h1, h2, h3⟩ := h
  exact ⟨d, n, xs, e _ _ h1 (fun ps z => by cases z), e _ _ h2 (fun ps z => by cases z), h3⟩
theorem Tabs.bag {T : List (Addr × Str)} {H H' : Hp} {a : Addr} (h : Bag H a) (e : ExB a H H') (t : Tabs T H) : Tabs T H' := fun p hp => by
  obtain ⟨d, n, xs, g1, _⟩ := h
  obtain ⟨ps, h1, h2, h3⟩ := t p hp
  have ne1 : p.1 ≠ a := fun z => by
    rw [z, g1] at h1
    cases h1
  refine ⟨ps, e _ _ ne1 h1, h2, fun pos cv hc => ?_⟩
  obtain ⟨c, e1, e2⟩ := h3 pos cv hc
  refine ⟨c, e1, e _ _ (fun z => ?_) e2⟩
  rw [z, g1] at e2
  unfold CodeO at e2
  cases e2
theorem Bag.otherX {H H' : Hp} {a b : Addr} (hb : Bag H b) (ha : Bag H a) (e : XB a H H') (ha' : Bag H' a) : Bag H' b := by
  by_cases hab : b = a
  · rw [hab]
    exact ha'
  · obtain ⟨d, n, xs, g1, g2, g3⟩ := hb
    obtain ⟨d', n', xs', f1, _⟩ := ha
    have hd : d ≠ a := fun z => by
      rw [z, f1] at g2
      have e := congrArg List.length (HO.lst.inj (Option.some.inj g2))
      rw [List.length_map, g3.1] at e
      cases e
    exact ⟨d, n, xs, e _ _ hab g1 (fun ps z => by cases z), e _ _ hd g2 (fun ps z => by cases z), g3⟩
theorem XB.keepT {H H' : Hp} {a : Addr} (h : Bag H a) (e : XB a H H') : KeepT H H' := fun b xs r => by
  obtain ⟨d, n, ys, h1, _⟩ := h
  have nb : b ≠ a := by
    rintro rfl
    rcases r with r | ⟨o, r⟩
    · rw [h1] at r; cases r
    · rw [h1] at r; cases r
  rcases r with r | ⟨o, r⟩
  · exact .inl (e _ _ nb r (fun ps z => by cases z))
  · exact .inr ⟨o, e _ _ nb r (fun ps z => by cases z)⟩
/-- the loop over the bags of a script, lambdas made on the way -/
theorem bags_forT {K : PySem.W.Frag} {T : List (Addr × Str)} {lim : Nat} {D : Ends} {body : TS} {σ : L2.St} {H : Hp} {a : Addr} {ns : List Int} (S : L2.St → Prop) (h0 : σ[0]? = some (some (.ref a))) (hS : SqL K H a (ns.map V.int)) (hl : ns.length ≤ 63) (hT : Tabs T H) (hs : S σ)
    (turn : ∀ b H1 σ' (N : L2.St → Hp → Prop), S σ' → Bag H1 b → Tabs T H1 → (∀ σ'' H'', S σ'' → XB b H1 H'' → Bag H'' b → Tabs T H'' → N σ'' H'') → body { D with nx := N, ct := N, bk := D.nx } (σ'.set 1 (some (.ref b))) H1)
    (done : ∀ σ' H', S σ' → Tabs T H' → D.nx σ' H') : tFor (iList K (tCall (spBags K lim) [] E0 (tCons (tVar 0) (tCons (tC (.int lim)) tNil)))) (gName 1) body D σ H := by
  refine ⟨.ref a, h0, a, ns, rfl, hS, by omega, fun p ys H1 np e1 hp hB hne hln => ⟨p, rfl, ⟨ys, sq_of hp⟩, ?_⟩⟩
  refine for_it (walk_list (K := K) (a := p) (xs := ys)) (fun _ σ' H' => S σ' ∧ H' p = some (.lst ys) ∧ BagsAt H' ys ∧ Tabs T H') ⟨hs, hp, hB, hT.ext e1⟩ (fun i σ' H' _ hP => sq_of hP.2.1) (fun i x σ' H2 H3 hi hP hy => ?_) (fun σ' H2 hP => done σ' H2 hP.1 hP.2.2.2)
  obtain ⟨s2, hp2, hB2, hT2⟩ := hP
  obtain ⟨rfl, hx⟩ := hy
  have hm := List.mem_of_getElem? hx
  obtain ⟨b, rfl, hb⟩ := hB2 x hm
  have hpb : p ≠ b := fun z => hne _ hm (by rw [z])
  exact turn b _ σ' _ s2 hb hT2 fun σ'' H'' hs x2 b2 t2 => ⟨hs, x2 _ _ hpb hp2 (fun ps z => by cases z), (fun y hy => by
    obtain ⟨b', rfl, hb'⟩ := hB2 y hy
    exact ⟨b', rfl, hb'.otherX hb x2 b2⟩), t2⟩
def spLawX (K : PySem.W.Frag) (T : List (Addr × Str)) : Sp := fun vs H Q _ => ∃ (a : Addr) (ns : List Int), vs = [.ref a] ∧ SqL K H a (ns.map V.int) ∧ ns.length ≤ 63 ∧ Tabs T H ∧ ∀ H', Q (.bl true) H'
section
variable {K : PySem.W.Frag} {T : List (Addr × Str)} {C : Addr} {σ : L2.St} {H : Hp} {D : Ends} {tu tz : TS} {ta : TA} {mk : Addr → NF} {b : Expr} {spL : Sp}
/-- a list of a text and True, beside the like -/
theorem rv_neSB {p q : Addr} {x y : Str} (sx : PyData.strOk x = true) (sy : PyData.strOk y = true) (h1 : SqL K H p [.str x, .bl true]) (h2 : SqL K H q [.str y, .bl true]) : RV (rNeD K) (.ref p) (.ref q) H (.bl (!decide (x = y))) := fun H1 e Q k =>
  ⟨.list [.str x, .bool true], .list [.str y, .bool true], .lst (ex_l e h1) (.cons (.str x) (.cons (.bl true) .nil)), .lst (ex_l e h2) (.cons (.str y) (.cons (.bl true) .nil)), by simp [SeqAt.shaped, PyData.canLayAll0, PyData.canLay0, PyData.depth, PyData.depthAll, sx], by simp [SeqAt.shaped, PyData.canLayAll0, PyData.canLay0, PyData.depth, PyData.depthAll, sy], by
    have : PyData.eqv (.list [.str x, .bool true]) (.list [.str y, .bool true]) = decide (x = y) := by
      simp [PyData.eqv, PyData.eqvAll, str_beq]
    rw [this]
    exact k H1 (Ex.refl H1)⟩
/-- if _law_refused(lambda .., ..) != ["X", True]: .. , where X is refused -/
theorem s_ref (j : Nat) {v1 v2 v3 : V} {nm : Str} (hnm : PyData.strOk nm = true) (hres : resV (fun i => decide (i = j)) = [.str nm, .bl true]) (hT : Tabs T H) (ha : ∀ H1, ExtN H H1 → EvA ta σ H1 [v1, v2, v3])
    (hL : ∀ H1, ExtN H H1 → ∀ (Q' : VK) (E' : XK), (∀ H2, Ex H1 H2 → E' (.ref C) none H2) → spL [v1, v2, v3] H1 Q' E') (k : ∀ H1, ExtN H H1 → Tabs T H1 → D.nx σ H1) (hmk : ∀ c', (mk c').c = c' := by intro _; rfl) :
    tIfS (tTest (tOp (rNeD K) (tCall (spRef K mk b spL C (fun i => decide (i = j))) [] E0 (tCons (tLamV T mk b) ta)) (tLst (tCons (tC (.str nm)) (tCons (tC (.bl true)) tNil))))) tu tNext D σ H := by
  refine ⟨hT, fun f c' H1 eN nn T1 nf hf hc => ha H1 eN H1 (Ex.refl H1) _ fun H2 e2 => ⟨f, c', v1, v2, v3, rfl, e2 _ _ hf, by rw [hmk]; exact e2 _ _ hc, fun H3 e Q' E' hE => hL H3 (fun b o hb n => (e2.trans e) _ _ (eN b o hb n)) Q' E' hE, fun p H3 np e3 hp => ?_⟩⟩
  refine ⟨by show 2 ≤ sizeLine; decide, fun q nq => ?_⟩
  rw [hres] at hp
  have e4 := Ex.new (o := .lst [.str nm, .bl true]) nq
  refine rv_neSB (K := K) (x := nm) (y := nm) hnm hnm (sq_of (e4 _ _ hp)) (sq_of upd_same) _ (Ex.refl _) _ fun H5 e5 => ⟨_, rfl, ?_⟩
  rw [decide_eq_true rfl]
  have eA := ((e2.trans e3).trans e4).trans e5
  exact k H5 (fun b o hb n => eA _ _ (eN b o hb n)) (T1.ext eA)
theorem q_ref (j : Nat) {v1 v2 v3 : V} {nm : Str} (hnm : PyData.strOk nm = true) (hres : resV (fun i => decide (i = j)) = [.str nm, .bl true]) (hT : Tabs T H) (ha : ∀ H1, ExtN H H1 → EvA ta σ H1 [v1, v2, v3])
    (hL : ∀ H1, ExtN H H1 → ∀ (Q' : VK) (E' : XK), (∀ H2, Ex H1 H2 → E' (.ref C) none H2) → spL [v1, v2, v3] H1 Q' E') (k : ∀ H1, ExtN H H1 → Tabs T H1 → tz D σ H1) (hmk : ∀ c', (mk c').c = c' := by intro _; rfl) :
    tSeq (tIfS (tTest (tOp (rNeD K) (tCall (spRef K mk b spL C (fun i => decide (i = j))) [] E0 (tCons (tLamV T mk b) ta)) (tLst (tCons (tC (.str nm)) (tCons (tC (.bl true)) tNil))))) tu tNext) tz D σ H :=
  s_ref (D := { D with nx := tz D }) j hnm hres hT ha hL k hmk
end
end Kw
set_option Elab.async false
set_option linter.all false
set_option maxRecDepth 100000
set_option maxHeartbeats 4000000
namespace Kw
open PySem PySem.Spec PyProof.Rows L2 Evl KwX NdefX LamX
/-- a class of the program, as one that is asked for -/
structure ClsT (K : PySem.W.Frag) (mg : Str → Option Value) (x : Str) (C : Addr) : Prop where
  g : mg x = some (.ref C)
  i : PySem.W.isClsIn K C = true
  t : PySem.W.typeIn K (.ref C) = some (.type "type")
  b : PySem.W.subIn K (.ref C) (.type "BaseException") = some true
  h : PySem.W.hasDictIn K C = true
theorem kit_ref {K : PySem.W.Frag} {C : Addr} {t : Value} {b : Bool} (i : PySem.W.isClsIn K C = true) (ty : PySem.W.typeIn K (.ref C) = some (.type "type")) (s : PySem.W.subIn K t (.ref C) = some b) (n : b = true ∨ (t == .ref C) = false) : PySem.W.kitOne K t (.ref C) = some b := by
  unfold PySem.W.kitOne
  split
  · rename_i h
    rcases n with n | n
    · rw [n]
    · rw [n] at h; cases h
  · show (if ((PySem.W.clsIn K C).isSome && PySem.W.typeIn K (.ref C) == some (.type "type")) = true then _ else _) = _
    have i' : (PySem.W.clsIn K C).isSome = true := i
    rw [i', ty]
    rw [if_pos (by rfl)]
    exact s
theorem kit_val {K : PySem.W.Frag} {C : Addr} (s : PySem.W.subIn K (.ref C) (.type "ValueError") = some true) : PySem.W.kitOne K (.ref C) (.type "ValueError") = some true := by
  unfold PySem.W.kitOne
  split
  · rfl
  · show (if PySem.W.kitMeta "ValueError" = true then PySem.W.subIn K (.ref C) (.type "ValueError") else none) = _
    rw [if_pos (by decide +kernel)]
    exact s
/-- what a raised class says of itself -/
structure RaiseT (K : PySem.W.Frag) (C : Addr) : Prop where
  v : PySem.W.subIn K (.ref C) (.type "ValueError") = some true
  e : ExcC K C
  q : PySem.W.excIn K C [.type "ValueError", .type "Exception", .type "BaseException", .type "object"] "ValueError.__new__" = true
  k : PySem.W.keepIn K (.ref C) = true
theorem RaiseT.exc {K : PySem.W.Frag} {mg : Str → Option Value} {x : Str} {C : Addr} (r : RaiseT K C) (c : ClsT K mg x C) : ExcT K mg x C := ⟨c.g, r.q, r.k, c.b, c.t⟩
theorem refT_of {K : PySem.W.Frag} {mg : Str → Option Value} {C dT dL dB : Addr} {d : Nat → Addr} {bs : Nat → Bool} (r : RaiseT K C) (cT : ClsT K mg "TooMany" dT) (cL : ClsT K mg "Locked" dL) (cB : ClsT K mg "BoxError" dB) (c : ∀ i, i < 14 → ClsT K mg (nmC i) (d i))
    (sT : PySem.W.subIn K (.ref C) (.ref dT) = some false) (sL : PySem.W.subIn K (.ref C) (.ref dL) = some false) (sB : PySem.W.subIn K (.ref C) (.ref dB) = some true)
    (s : ∀ i, i < 14 → PySem.W.subIn K (.ref C) (.ref (d i)) = some (bs i) ∧ (bs i = true ∨ (Value.ref C == .ref (d i)) = false)) (isi : mg "isinstance" = none) (ve : mg "ValueError" = none) : RefT K mg C d bs dT dL dB :=
  ⟨cT.g, cL.g, cB.g, fun i hi => (c i hi).g, PySem.W.exm_ref cT.b cT.h cT.t sT, PySem.W.exm_ref cL.b cL.h cL.t sL, PySem.W.exm_ref cB.b cB.h cB.t sB, fun i hi => kit_ref (c i hi).i (c i hi).t (s i hi).1 (s i hi).2, kit_val r.v, r.e, isi, ve⟩
def codeVs (vs : Array Value) (c P : Addr) : Bool := (match (vs[11]? : Option Value) with | some (.ref P') => P' == P | _ => false) &&
      (match vs.getD 18 .none with | .str _ _ => true | _ => false) && (match vs.getD 7 .none with | .int _ _ => true | _ => false) &&
      (match vs.getD 9 .none with | .bool _ => true | _ => false) && (match vs.getD 10 .none with | .int _ _ => true | _ => false) && c != P
theorem codeHd_by {K : PySem.W.Frag} {c P : Addr} {od : Option Addr} {vs : Array Value} {sl : Array (Option Value)} (h : K.lookup c = some ⟨.type "code", od, .fields vs, sl⟩) (v : codeVs vs c P = true) : PySem.W.codeHdIn K c P = true := by
  unfold PySem.W.codeHdIn
  rw [h]
  exact v
theorem lookup_none {α β : Type} [BEq α] [LawfulBEq α] : ∀ {l : List (α × β)} {a : α}, a ∉ l.map (·.1) → l.lookup a = none
  | [], _, _ => rfl
  | (x, y) :: r, a, h => by
    rw [List.map_cons, List.mem_cons, not_or] at h
    rw [List.lookup_cons, show (a == x) = false from beq_eq_false_iff_ne.mpr h.1]
    exact lookup_none h.2
theorem km_none {K : Params → PySem.W.Frag} {as : List Addr} {e : ∀ P, as = (K P).map (·.1)} {ts : List Addr} {w : World} {h : Heap} (Y : (PySem.W.kmHook K as e ts).says w h) {n : Addr} (hn : as.contains n = false) : (K w.params).lookup n = none := by
  refine lookup_none ?_
  rw [← e w.params]
  intro z
  rw [List.contains_iff_mem.mpr z] at hn
  cases hn
end Kw
set_option Elab.async false
set_option linter.all false
set_option maxRecDepth 100000
set_option maxHeartbeats 4000000
namespace Kw
open PySem PySem.Spec PyProof.Rows L2 Evl KwX NdefX LamX
abbrev sLaw : Stmt := topS 40
theorem scLaw : FnScope ["script", "bag", "laying", "once", "things", "thing", "found"] ["script"] (defScope sLaw) := ⟨rfl, rfl, rfl, by decide +kernel, rfl, by decide +kernel, by decide +kernel⟩
def lamELaw0 : Expr := (exArg 0 (exLeft (stEx ((stBody ((stBody ((stBody ((defBody sLaw).getD 0 (.Pass ⟨0, 0, 0, 0⟩))).getD 7 (.Pass ⟨0, 0, 0, 0⟩))).getD 1 (.Pass ⟨0, 0, 0, 0⟩))).getD 0 (.Pass ⟨0, 0, 0, 0⟩)))))
def lamBLaw0 : Expr := lamBd lamELaw0
def lamMLaw0 : Addr → NF := mkLam "law" lamELaw0 (defScope sLaw)
theorem lamSLaw0 : nscB ["a", "b", "c"] ["a", "b", "c"] [] (lamSc lamELaw0 (defScope sLaw)) = true := by decide +kernel
theorem res4 : resV (fun i => decide (i = 4)) = [.str "NoLaying", .bl true] := by rfl
theorem gd_dN {M n : Nat} (ns : List Nat) : ∀ d ∈ dN ns, Gd M n d := fun d hd => by
  obtain ⟨i, _, rfl⟩ := List.mem_map.mp hd
  exact .int _ _
theorem gd_lay {M n : Nat} {ns : List Nat} (h : ns.length ≤ M) : Gd M (n + 1) (.tuple (dN ns)) := .tup (by rw [dN_len]; exact h) (gd_dN ns)
section
variable {K : PySem.W.Frag} {σ : L2.St} {H H' : Hp} {ta tb te tl : TE} {n : Nat} {D : Ends} {tz : TS}
theorem xx_bl {b : Bool} : EvX K (tC (.bl b)) σ H n := xx_of ev_c (.bl b) (.bl _ b)
theorem xx_neg {i : Int} : EvX K (tUn (rU fun i => .int (-i)) (tC (.int i))) σ H n := xx_of (ev_un ev_c ru_neg) (.int _) (.int _ _)
theorem xx_i {i : Int} (h : Ev te σ H (.int i)) : EvX K te σ H n := xx_of h (.int _) (.int _ _)
theorem q_asgR {i : Nat} {rs : List (List Nat)} (h : EvR K te σ H rs) (k : ∀ p ys H1, H p = none → Ex H H1 → H1 p = some (.lst ys) → TupsAt K H1 ys rs → tz D (σ.set i (some (.ref p))) H1) : tSeq (tAsg te (gName i)) tz D σ H := h H (Ex.refl H) _ k
theorem dpA_rev {xs : List V} : ∀ {ds : List PyData}, DpAll K H xs ds → DpAll K H xs.reverse ds.reverse := fun {ds} h => dpA_of (by
  have := dpA_paired h
  clear h
  induction this with
  | nil => exact .nil
  | cons r t ih => rw [List.reverse_cons, List.reverse_cons]; exact paired_append ih (.cons r .nil))
end
section
variable {P : Program} {w : World} {K : PySem.W.Frag} {mg : Str → Option Value} {base : Heap} {C4 : Addr}
theorem ok_law {f c Pt fRef fBags fTake fLaid fSpo fOdd fIsL fLIL fRdO fCyc : Addr} {fdRef fdBags fdTake fdLaid fdSpo fdOdd fdIsL fdLIL fdRdO fdCyc : FuncData} {k : Nat} {kV doc pm ct oc : Value} {an od : Option Addr} {osl : Array (Option Value)} {T : List (Addr × Str)} (lk : K.lookup f = some ⟨oc, od, .func (PySem.W.fnOf "law" "law" (defArgs sLaw) (defBody sLaw) (defScope sLaw) .none kV doc pm an (.ref c) ct), osl⟩) (hcd : PySem.W.codeIn K (.ref c) "law" = true) (TB : TabB base mg c Pt) (hm : (Pt, ("law" : Str) ++ ".<locals>." ++ "<lambda>") ∈ T) (hu : ∀ p ∈ T, p.1 = Pt → p.2 = ("law" : Str) ++ ".<locals>." ++ "<lambda>") (DRef : Df K mg "_law_refused" sRef ["call", "one", "two", "three"] fRef fdRef) (DBags : Df K mg "_law_bags" sBags ["script", "limit"] fBags fdBags) (DTake : Df K mg "_law_take" sTake ["bag", "many"] fTake fdTake) (DLaid : Df K mg "_law_laid" sLaid ["bag", "many"] fLaid fdLaid) (DSpo : Df K mg "_law_spoilt" sSpo ["thing", "picks"] fSpo fdSpo) (DOdd : Df K mg "_law_odd" sOdd ["picks"] fOdd fdOdd) (DIsL : Df K mg "is_laying" sIsL ["thing"] fIsL fdIsL) (DLIL : Df K mg "_law_is_laying" sLIL ["thing"] fLIL fdLIL) (DRdO : Df K mg "rounds_of" sRdO ["laying"] fRdO fdRdO) (DCyc : Df K mg "_law_cycles" sCyc ["laying"] fCyc fdCyc) (GRefLaw0 : FnOk P w K mg base CX0 (k + 11) fRef fdRef ["call", "one", "two", "three"] (spRef K lamMLaw0 lamBLaw0 (spLam1 (spRdOX K C4)) C4 (fun i => decide (i = 4)))) (GBags : FnOk P w K mg base CX0 (k + 3) fBags fdBags ["script", "limit"] (spBags K 10)) (GTake : FnOk P w K mg base CX0 (k + 1) fTake fdTake ["bag", "many"] (spTake K)) (GLaid : FnOk P w K mg base CX0 (k + 3) fLaid fdLaid ["bag", "many"] (spLaid K)) (GSpo : FnOk P w K mg base CX0 (k + 11) fSpo fdSpo ["thing", "picks"] (spSpo K 9)) (GOdd : FnOk P w K mg base CX0 (k + 1) fOdd fdOdd ["picks"] (spOdd K)) (GIsL : FnOk P w K mg base CX0 (k + 2) fIsL fdIsL ["thing"] (spIsL K)) (GLIL : FnOk P w K mg base CX0 (k + 2) fLIL fdLIL ["thing"] (spLIL K)) (GRdO : FnOk P w K mg base CX0 (k + 4) fRdO fdRdO ["laying"] (spRdO K)) (GCyc : FnOk P w K mg base CX0 (k + 1) fCyc fdCyc ["laying"] (spCyc K)) (B : Bu mg) : FnOk P w K mg base CX0 (k + 12) f (PySem.W.fnOf "law" "law" (defArgs sLaw) (defBody sLaw) (defScope sLaw) .none kV doc pm an (.ref c) ct) ["script"] (spLawX K T) := by
  refine okT lk hcd scLaw (fun vs H Q E h => ?_) (fun A outer s H vs Q E hr h => ?_)
  · obtain ⟨a, ns, rfl, _⟩ := h
    rfl
  · obtain ⟨a, ns, rfl, hS, hl, hT, q⟩ := h
    have hu64 := hr.units
    refine ⟨_, (pss_cons (ps_for PassesOwn.never rfl (pi_list (pcall DBags GBags (hr.mono (by omega)) (pa_cons (pv 0) (pa_cons pe_int pa_nil)))) (pg_name (i := 1) scLaw.nd rfl (.inl rfl))
      (pss_cons (ps_set (i := 2) scLaw.nd rfl (.inl rfl) (pcall DLaid GLaid (hr.mono (by omega)) (pa_cons (pv 1) (pa_cons (pe_op op_add pe_int (pcall DTake GTake (hr.mono (by omega)) (pa_cons (pv 1) (pa_cons pe_int pa_nil)))) pa_nil))))
      (pss_cons (ps_set (i := 3) scLaw.nd rfl (.inl rfl) (pcall DSpo GSpo (hr.mono (by omega)) (pa_cons (pv 2) (pa_cons (pe_slice sl_list (pe_ix ix_list (pv 1) pe_int (fun _ _ => rfl)) (po_some (pe_op op_mod (pe_ix ix_list (pv 1) pe_int (fun _ _ => rfl)) pe_int)) po_none) pa_nil))))
      (pss_cons (ps_set (i := 4) scLaw.nd rfl (.inl rfl) (pe_lst (pa_cons (pv 2) (pa_cons (pv 3) (pa_cons (pcall DSpo GSpo (hr.mono (by omega)) (pa_cons (pv 3) (pa_cons (pe_slice sl_list (pe_ix ix_list (pv 1) pe_int (fun _ _ => rfl)) (po_some (pe_op op_add (pe_op op_mod (pe_ix ix_list (pv 1) pe_int (fun _ _ => rfl)) pe_int) pe_int)) po_none) pa_nil))) pa_nil)))))
      (pss_cons (ps_set (i := 4) scLaw.nd rfl (.inl rfl) (pe_op op_cat (pv 4) (pe_lst (pa_cons (pe_callTy call_list_of (by rfl) B.lst boot_list (pa_cons (pv 2) pa_nil)) (pa_cons (pe_revT (pv 2)) (pa_cons (pe_slice sl_tupA (pv 2) (po_some pe_int) po_none) pa_nil))))))
      (pss_cons (ps_set (i := 4) scLaw.nd rfl (.inl rfl) (pe_op op_cat (pv 4) (pe_lst (pa_cons (pe_op op_catA (pv 2) (pe_tup (pa_cons pe_int pa_nil))) (pa_cons (pe_op op_catA (pv 2) (pe_tup (pa_cons (pe_callB call_len_seq (by rfl) B.len PySem.boot_len (pa_cons (pv 2) pa_nil)) pa_nil))) (pa_cons (pe_tup pa_nil) (pa_cons (pe_tup (pa_cons pe_int pa_nil)) (pa_cons (pe_tup (pa_cons pe_int pa_nil)) pa_nil))))))))
      (pss_cons (ps_set (i := 4) scLaw.nd rfl (.inl rfl) (pe_op op_cat (pv 4) (pe_lst (pa_cons (pe_tup (pa_cons pe_bl pa_nil)) (pa_cons (pe_tup (pa_cons pe_bl pa_nil)) (pa_cons (pe_tup (pa_cons pe_int (pa_cons pe_int pa_nil))) (pa_cons (pe_tup (pa_cons pe_int (pa_cons pe_int pa_nil))) (pa_cons pe_non pa_nil))))))))
      (pss_cons (ps_set (i := 4) scLaw.nd rfl (.inl rfl) (pe_op op_cat (pv 4) (pe_lst (pa_cons (pe_tupRg rfl (by rfl) B.tup (prg_1 (by rfl) B.rng pe_int)) (pa_cons (pe_tupRg rfl (by rfl) B.tup (prg_1 (by rfl) B.rng pe_int)) (pa_cons (pe_tup (pa_cons pe_str pa_nil)) (pa_cons (pe_tup (pa_cons (pe_un un_neg pe_int) (pa_cons pe_int pa_nil))) (pa_cons (pcall DOdd GOdd (hr.mono (by omega)) (pa_cons (pe_slice sl_list (pe_ix ix_list (pv 1) pe_int (fun _ _ => rfl)) (po_some (pe_op op_mod (pe_ix ix_list (pv 1) pe_int (fun _ _ => rfl)) pe_int)) po_none) pa_nil)) pa_nil))))))))
      (pss_cons (ps_for PassesOwn.never rfl (pi_list (pv 4)) (pg_name (i := 5) scLaw.nd rfl (.inl rfl))
      (pss_cons (ps_if (pt_cmpR op_ne (pe_callB cr_reprB (by rfl) B.rpr (by decide +kernel) (pa_cons (pcall DIsL GIsL (hr.mono (by omega)) (pa_cons (pv 5) pa_nil)) pa_nil)) (pe_callB cr_reprB (by rfl) B.rpr (by decide +kernel) (pa_cons (pcall DLIL GLIL (hr.mono (by omega)) (pa_cons (pv 5) pa_nil)) pa_nil)) (nomark _)) (pss_one (ps_ret pe_bl)) pss_nil)
      (pss_one (ps_if (pt_not (pt_val (pcall DLIL GLIL (hr.mono (by omega)) (pa_cons (pv 5) pa_nil)))) (pss_one (ps_if (pt_cmpR (op_neD hu64) (pcall DRef GRefLaw0 (hr.mono (by omega)) (pa_cons (pe_lamV TB rfl hm hu rfl (by decide +kernel) (fun _ => rfl)) (pa_cons (pv 5) (pa_cons pe_int (pa_cons pe_int pa_nil))))) (pe_lst (pa_cons pe_str (pa_cons pe_bl pa_nil))) (nomark _)) (pss_one (ps_ret pe_bl)) pss_nil)) pss_nil))))
      (pss_cons (ps_set (i := 6) scLaw.nd rfl (.inl rfl) (pcall DRdO GRdO (hr.mono (by omega)) (pa_cons (pv 2) pa_nil)))
      (pss_cons (ps_if (PW.pt (pw_or (pt_cmpR (op_neD hu64) (pv 6) (pcall DCyc GCyc (hr.mono (by omega)) (pa_cons (pv 2) pa_nil)) (nomark _)) (pw_or1 (pt_not (pt_val (pe_callB call_isi (by rfl) B.isi boot_isinstance (pa_cons (pv 6) (pa_cons (pe_bltn (v := .ty "list") (by rfl) B.lst boot_list rfl) pa_nil)))))))) (pss_one (ps_ret pe_bl)) pss_nil)
      (pss_cons (ps_expr (pe_bm PySem.F.plainAttrs_list PySem.F.slot_list_append PySem.F.type_list_append mt_append (pv 6) (pa_cons (pe_tup pa_nil) pa_nil)))
      (pss_one (ps_if (pt_cmpR (op_neD hu64) (pcall DRdO GRdO (hr.mono (by omega)) (pa_cons (pv 2) pa_nil)) (pe_slice sl_list (pv 6) po_none (po_some (pe_un un_neg pe_int))) (nomark _)) (pss_one (ps_ret pe_bl)) pss_nil))))))))))))))
      (pss_one (ps_ret (pe_and (pe_cmpR (op_eqD hu64) (pcall DRdO GRdO (hr.mono (by omega)) (pa_cons (pe_tup (pa_cons pe_int (pa_cons pe_int (pa_cons pe_int (pa_cons pe_int (pa_cons pe_int pa_nil)))))) pa_nil)) (pe_lst (pa_cons (pe_tup (pa_cons pe_int (pa_cons pe_int pa_nil))) (pa_cons (pe_tup (pa_cons pe_int pa_nil)) (pa_cons (pe_tup (pa_cons pe_int (pa_cons pe_int pa_nil))) pa_nil)))) (nomark _)) (pe_one (pe_cmpR (op_eqD hu64) (pcall DRdO GRdO (hr.mono (by omega)) (pa_cons (pe_tup (pa_cons pe_int (pa_cons pe_int (pa_cons pe_int pa_nil)))) pa_nil)) (pe_lst (pa_cons (pe_tup (pa_cons pe_int (pa_cons pe_int (pa_cons pe_int pa_nil)))) pa_nil)) (nomark _))))))), ?_⟩
    refine bags_forT (lim := 10) (SlotsN a 6) rfl hS hl hT ⟨_, rfl, rfl⟩ (fun b H1 σ' N hσ hb hT1 nx => ?_) (fun σ' H1 hσ _ => ?_)
    · obtain ⟨ys, hys, rfl⟩ := hσ
      refine match ys, hys with | [y1, y2, y3, y4, y5, y6], _ => ?_
      refine ⟨.ref b, rfl, .ref b, rfl, b, 30, rfl, hb, by decide, fun r H2 r0 r1 x2 b2 => ⟨1, r, rfl, rfl, ?_⟩⟩
      obtain ⟨j, rfl⟩ := Int.eq_ofNat_of_zero_le r0
      refine ⟨b, 1 + j, ?_, b2, by omega, fun p lay H3 np x3 b3 h3 hL hlen => ?_⟩
      · show [V.ref b, V.int (1 + (j : Int))] = [.ref b, .int ((1 + j : Nat) : Int)]
        rw [Int.natCast_add]
        rfl
      have hl1 : 1 ≤ lay.length := by omega
      have hl30 : lay.length ≤ 30 := by omega
      have X3 := x2.trans x3
      have T3 := Tabs.bag hb X3 hT1
      have b3' := b3
      obtain ⟨dd, nn, xs, hbb, hdd, hxs⟩ := b3'
      have sL : SqT K H3 p (lay.map vN) := st_of h3
      have dA : ∀ H', DpAll K H' (lay.map vN) (dN lay) := fun H' => dp_nats lay
      have dL : Dp K H3 (.ref p) (.tuple (dN lay)) := dp_lay sL
      have gL : Gd 40 1 (.tuple (dN lay)) := gd_lay (n := 0) (by omega)
      have lD := dN_len lay
      -- once
      obtain ⟨p1, p2, p3, ps, hps, hpk⟩ := el_picks (K := K) (σ := [some (.ref a), some (.ref b), some (.ref p), y3, y4, y5, y6]) (m := 200) rfl hbb hdd hxs.1 (by decide)
      refine q_asgSpo (K := K) (σ := [some (.ref a), some (.ref b), some (.ref p), y3, y4, y5, y6]) (ev_var (v := .ref p) rfl) dL gL (by decide) (by decide) hpk hps fun vo do1 H4 e4 dO gO => ?_
      obtain ⟨p1, p2, p3, ps, hps, hpk⟩ := el_picksA (K := K) (σ := [some (.ref a), some (.ref b), some (.ref p), some vo, y4, y5, y6]) (m := 150) (c0 := 20) rfl (e4 _ _ hbb) (e4 _ _ hdd) hxs.1 (by decide)
      refine q_asgXL (K := K) (σ := [some (.ref a), some (.ref b), some (.ref p), some vo, y4, y5, y6]) (n := 20) (l := 3)
        (xl_lst (xa_cons (xx_var (v := .ref p) rfl (dp_ex e4 _ _ dL) (gL.mono (by decide) (by decide))) (xa_cons (xx_var (v := vo) rfl dO (gO.mono (by decide) (by decide))) (xa_cons (xx_spo (ev_var (v := vo) rfl) dO gO (by decide) (by decide) hpk hps (by decide)) xa_nil))) (by decide)) fun t1 v1 d1 H5 n5 e5 h5 a5 l5 g5 => ?_
      have E5 := e4.trans e5
      refine q_asgXL (K := K) (σ := [some (.ref a), some (.ref b), some (.ref p), some vo, some (.ref t1), y5, y6]) (n := 20) (l := 3 + 3)
        (xl_cat (ev_var (v := .ref t1) rfl) h5 a5 l5 g5 (xl_lst (xa_cons (xx_listT (ev_var (v := .ref p) rfl) (ex_t E5 sL) (dA _) (by omega) (gd_dN lay))
          (xa_cons (xx_T (l := 30) (xt_new (ds := (dN lay).reverse) (ep_revT (ev_var (v := .ref p) rfl) (ex_t E5 sL)) (dpA_rev (dA _)) (by rw [List.length_reverse]; omega) fun d hd => gd_dN lay d (List.mem_reverse.mp hd)) (by decide))
          (xa_cons (xx_isT (ds := (dN lay).drop 1) (ep_slT (ev_var (v := .ref p) rfl) (eo_some ev_c) eo_none (ex_t E5 sL)) (by rw [cut1]; exact dpA_drop 1 (dA _)) (by rw [List.length_drop]; omega) fun d hd => gd_dN lay d (List.mem_of_mem_drop hd)) xa_nil))) (by decide)) (by decide)) fun t2 v2 d2 H6 n6 e6 h6 a6 l6 g6 => ?_
      have E6 := E5.trans e6
      refine q_asgXL (K := K) (σ := [some (.ref a), some (.ref b), some (.ref p), some vo, some (.ref t2), y5, y6]) (n := 20) (l := 3 + 3 + 5)
        (xl_cat (ev_var (v := .ref t2) rfl) h6 a6 l6 g6 (xl_lst (xa_cons (xx_T (xt_cat (l := 30) (m := 1) (xt_var (ev_var (v := .ref p) rfl) (ex_t E6 sL) (dA _) (by omega) (gd_dN lay)) (xt_tup (xa_cons xx_int xa_nil) (by decide)) (by decide)) (by decide))
          (xa_cons (xx_T (xt_cat (l := 30) (m := 1) (xt_var (ev_var (v := .ref p) rfl) (ex_t E6 sL) (dA _) (by omega) (gd_dN lay)) (xt_tup (xa_cons (xx_i (ev_lenT (K := K) (ev_var (v := .ref p) rfl) (ex_t E6 sL))) xa_nil) (by decide)) (by decide)) (by decide))
          (xa_cons (xx_tup xa_nil (by decide)) (xa_cons (xx_tup (xa_cons xx_int xa_nil) (by decide)) (xa_cons (xx_tup (xa_cons xx_int xa_nil) (by decide)) xa_nil))))) (by decide)) (by decide)) fun t3 v3 d3 H7 n7 e7 h7 a7 l7 g7 => ?_
      have E7 := E6.trans e7
      refine q_asgXL (K := K) (σ := [some (.ref a), some (.ref b), some (.ref p), some vo, some (.ref t3), y5, y6]) (n := 20) (l := 3 + 3 + 5 + 5)
        (xl_cat (ev_var (v := .ref t3) rfl) h7 a7 l7 g7 (xl_lst (xa_cons (xx_tup (xa_cons xx_bl xa_nil) (by decide)) (xa_cons (xx_tup (xa_cons xx_bl xa_nil) (by decide)) (xa_cons (xx_tup (xa_cons xx_int (xa_cons xx_int xa_nil)) (by decide)) (xa_cons (xx_tup (xa_cons xx_int (xa_cons xx_int xa_nil)) (by decide)) (xa_cons xx_non xa_nil))))) (by decide)) (by decide)) fun t4 v4 d4 H8 n8 e8 h8 a8 l8 g8 => ?_
      have E8 := E7.trans e8
      obtain ⟨o1, o2, o3, os, hos, hok⟩ := el_picks (K := K) (H := H8) (σ := [some (.ref a), some (.ref b), some (.ref p), some vo, some (.ref t4), y5, y6]) (m := 300) rfl (E8 _ _ hbb) (E8 _ _ hdd) hxs.1 (by decide)
      refine q_asgXL (K := K) (σ := [some (.ref a), some (.ref b), some (.ref p), some vo, some (.ref t4), y5, y6]) (n := 20) (l := 3 + 3 + 5 + 5 + 5)
        (xl_cat (ev_var (v := .ref t4) rfl) h8 a8 l8 g8 (xl_lst (xa_cons (xx_T (l := 30) (xt_new (ds := dN (List.range 30)) (eu_tupR (n := 30) ev_c (by decide)) (dp_nats _) (by rw [dN_len, List.length_range]; decide) (gd_dN _)) (by decide))
          (xa_cons (xx_T (l := 31) (xt_new (ds := dN (List.range 31)) (eu_tupR (n := 31) ev_c (by decide)) (dp_nats _) (by rw [dN_len, List.length_range]; decide) (gd_dN _)) (by decide))
          (xa_cons (xx_tup (xa_cons (xx_str (by decide +kernel)) xa_nil) (by decide)) (xa_cons (xx_tup (xa_cons xx_neg (xa_cons xx_int xa_nil)) (by decide)) (xa_cons (xx_odd hok (by decide)) xa_nil))))) (by decide)) (by decide)) fun t5 v5 d5 H9 n9 e9 h9 a9 l9 g9 => ?_
      have E9 := E8.trans e9
      have T9 := T3.ext E9
      -- each thing
      refine q_forLn (K := K) (σ := [some (.ref a), some (.ref b), some (.ref p), some vo, some (.ref t5), y5, y6]) (a := t5) (xs := v5) (ev_var (v := .ref t5) rfl) (sq_of h9) (fun i σ' H' => (∃ y5, σ' = [some (.ref a), some (.ref b), some (.ref p), some vo, some (.ref t5), y5, y6]) ∧ ExtN H9 H' ∧ Tabs T H')
        (fun Ha ea => ⟨⟨y5, rfl⟩, ExtN.ex ea, T9.ext ea⟩) (fun i σ' H' _ hP => sqL_n hP.2.1 (sq_of h9)) (fun i x σ' H' hx hP => ?_) (fun σ' H' hP => ?_)
      · obtain ⟨⟨y5, rfl⟩, eN, hT2⟩ := hP
        obtain ⟨dx, hdx, hDx0⟩ := dpA_get a9 hx
        have hDx := dp_n eN _ _ hDx0
        refine q_when (σ := [some (.ref a), some (.ref b), some (.ref p), some vo, some (.ref t5), some x, y6]) (b := false) (et_is (et_test (ev_op (ev_reprB (b := layD dx) (ev_call (z := .bl (layD dx)) (ea_cons (ev_var (v := x) rfl) ea_nil) (SpV.of fun H9 e9 Q q E => ⟨x, dx, rfl, dp_ex e9 _ _ hDx, q⟩))) (ev_reprB (b := layD dx) (ev_call (z := .bl (layD dx)) (ea_cons (ev_var (v := x) rfl) ea_nil) (SpV.of fun H9 e9 Q q E => ⟨x, dx, rfl, dp_ex e9 _ _ hDx, q⟩))) (rv_ne rfl))) (by rw [decide_eq_true rfl]; rfl)) (fun hb => absurd hb (by decide)) (fun _ Ha ea => ?_)
        refine s_when (σ := [some (.ref a), some (.ref b), some (.ref p), some vo, some (.ref t5), some x, y6]) (b := !layD dx) (et_not (et_B (ev_call (z := .bl (layD dx)) (ea_cons (ev_var (v := x) rfl) ea_nil) (SpV.of fun H9 e9 Q q E => ⟨x, dx, rfl, dp_ex (ea.trans e9) _ _ hDx, q⟩)))) (fun hb Hb eb => ?_) (fun hb Hb eb => ⟨⟨_, rfl⟩, eN.trans (ExtN.ex (ea.trans eb)), hT2.ext (ea.trans eb)⟩)
        have hf : layD dx = false := by simpa using hb
        have eNb := eN.trans (ExtN.ex (ea.trans eb))
        exact s_ref (K := K) (T := T) (mk := lamMLaw0) (b := lamBLaw0) (C := C4) (spL := spLam1 (spRdOX K C4)) (σ := [some (.ref a), some (.ref b), some (.ref p), some vo, some (.ref t5), some x, y6]) 4 (nm := "NoLaying") (by decide +kernel) res4 (v1 := x) (v2 := .int 0) (v3 := .int 0) (hT2.ext (ea.trans eb)) (fun H5 e5 => ea_cons (ev_var rfl) (ea_cons ev_c (ea_cons ev_c ea_nil))) (fun H5 e5 Q' E' hE => ⟨x, .int 0, .int 0, rfl, x, dx, rfl, dp_n (eNb.trans e5) _ _ hDx0, hf, hE⟩) (fun H5 e5 t5 => ⟨⟨_, rfl⟩, eNb.trans e5, t5⟩)
      · obtain ⟨⟨y5, rfl⟩, eN, hT2⟩ := hP
        have sL2 : SqT K H' p (lay.map vN) := keep_t (keepN eN) (ex_t E9 sL)
        refine q_asgR (K := K) (σ := [some (.ref a), some (.ref b), some (.ref p), some vo, some (.ref t5), y5, y6]) (er_rdO (ev_var (v := .ref p) rfl) sL2 hL hl1 hl30) fun f ys Ha nf ea hf hTu => ?_
        refine q_when (σ := [some (.ref a), some (.ref b), some (.ref p), some vo, some (.ref t5), y5, some (.ref f)]) (b := false) (et_is (et_or (a := false) (b := false) (et_is (et_test (ev_neVR (K := K) (ev_var (v := .ref f) rfl) (sq_of hf) hTu (er_cyc (ev_var (v := .ref p) rfl) (ex_t ea sL2) hL hl30))) (by rw [decide_eq_true rfl]; rfl)) fun _ => et_is (et_not (et_B (ev_isi (K := K) (T := "list") (b := true) (ev_var (v := .ref f) rfl) ev_c (fun Hb eb => ty_lst (sq_of (eb _ _ hf))) (by decide +kernel)))) rfl) rfl) (fun hb => absurd hb (by decide)) (fun _ Hb eb => ?_)
        refine q_appU (K := K) (σ := [some (.ref a), some (.ref b), some (.ref p), some vo, some (.ref t5), y5, some (.ref f)]) (ys := []) (eb _ _ hf) (ev_var rfl) (eu_tup ea_nil (by decide)) (by rw [show ys.length = _ from paired_len hTu]; have := cycs_len lay lay.length; unfold cycles; omega) fun pe Hc npe ec hpe => ?_
        have hc : Hc f = some (.lst ys) := ec _ _ (eb _ _ hf)
        have eF : Ex H' (upd Hc f (.lst (ys ++ [.ref pe]))) := Ex.mut ((ea.trans eb).trans ec) nf
        have kF : KeepT Ha (upd Hc f (.lst (ys ++ [.ref pe]))) := (KeepT.ex (eb.trans ec)).trans (KeepT.lst hc)
        have hF : upd Hc f (.lst (ys ++ [.ref pe])) f = some (.lst (ys ++ [.ref pe])) := upd_same
        generalize upd Hc f (.lst (ys ++ [.ref pe])) = Hd at eF kF hF
        have hne : Ev (tOp (rNeD K) (tCall (spRdO K) [] E0 (tCons (tVar 2) tNil)) (tSl (rSlL K) (tVar 6) tNoPart (tPart (tUn (rU fun i => .int (-i)) (tC (.int 1)))))) [some (.ref a), some (.ref b), some (.ref p), some vo, some (.ref t5), y5, some (.ref f)] Hd (.bl false) := fun H1 e Q q =>
          er_rdO (K := K) (ta := tVar 2) (ev_var (v := .ref p) rfl) (ex_t eF sL2) hL hl1 hl30 H1 e _ fun p2 zs H2 np2 e2 hp2 hT2 => el_sl (K := K) (lo := none) (hi := some (-1)) (ev_var (v := .ref f) rfl) eo_none (eo_some (ev_un ev_c ru_neg)) (sq_of hF) H2 (e.trans e2) _ fun p3 H3 np3 e3 hp3 => by
            rw [cut_last] at hp3
            have := rv_neLR (K := K) (sq_of (e3 _ _ hp2)) (hT2.keep (KeepT.ex e3)) (sq_of hp3) (hTu.keep (kF.trans (KeepT.ex ((e.trans e2).trans e3)))) H3 (Ex.refl H3) Q fun H4 e4 => by
              rw [decide_eq_true rfl]
              exact q H4 ((e2.trans e3).trans e4)
            exact this
        refine s_when (σ := [some (.ref a), some (.ref b), some (.ref p), some vo, some (.ref t5), y5, some (.ref f)]) (b := false) (et_test hne) (fun hb => absurd hb (by decide)) (fun _ He ee => ?_)
        exact nx _ _ ⟨_, rfl, rfl⟩ ((((XB.b X3).trans (XB.ex E9)).trans (XB.n eN)).trans (XB.ex (eF.trans ee))) (((b3.ex E9).n eN).ex (eF.trans ee)) (hT2.ext (eF.trans ee))
    · refine s_ret (v := .bl true) (ev_is (ev_andV (ev_eqRR (K := K) (er_rdOU (lay := [2, 1, 0, 4, 3]) (eu_tup (vs := [2, 1, 0, 4, 3].map vN) (ea_cons ev_c (ea_cons ev_c (ea_cons ev_c (ea_cons ev_c (ea_cons ev_c ea_nil))))) (by decide)) (List.isPerm_iff.mp (by decide +kernel)) (by decide) (by decide)) (fun H2 e2 => er_lst (rs := [[0, 2], [1], [3, 4]]) (ts_cons (eu_tup (vs := [0, 2].map vN) (ea_cons ev_c (ea_cons ev_c ea_nil)) (by decide)) (ts_cons (eu_tup (vs := [1].map vN) (ea_cons ev_c ea_nil) (by decide)) (ts_cons (eu_tup (vs := [3, 4].map vN) (ea_cons ev_c (ea_cons ev_c ea_nil)) (by decide)) ts_nil))) (by decide)))
        fun _ => ev_eqRR (K := K) (er_rdOU (lay := [1, 2, 0]) (eu_tup (vs := [1, 2, 0].map vN) (ea_cons ev_c (ea_cons ev_c (ea_cons ev_c ea_nil))) (by decide)) (List.isPerm_iff.mp (by decide +kernel)) (by decide) (by decide)) (fun H2 e2 => er_lst (rs := [[0, 1, 2]]) (ts_cons (eu_tup (vs := [0, 1, 2].map vN) (ea_cons ev_c (ea_cons ev_c (ea_cons ev_c ea_nil))) (by decide)) ts_nil) (by decide))) ?_) (fun H2 e2 => q H2)
      rw [decide_eq_true (show cycles [2, 1, 0, 4, 3] = [[0, 2], [1], [3, 4]] by decide +kernel), decide_eq_true (show cycles [1, 2, 0] = [[0, 1, 2]] by decide +kernel)]
      rfl
end
end Kw
set_option Elab.async false
set_option linter.all false
set_option maxRecDepth 100000
namespace Kw
open PySem PySem.Spec PyProof.Rows L2 KwX NdefX LamX
abbrev lamQ_Law : Str := ("law" : Str) ++ ".<locals>." ++ "<lambda>"
set_option maxHeartbeats 4000000 in
theorem all_mk {l : PySem.W.OpenLaw} {w : World} {K : PySem.W.Frag} {h : Heap} {mg : Str → Option Value} {fa f1 f2 f3 f4 f5 f6 f7 f8 f9 f10 f11 f12 f13 f14 f15 f16 f17 f18 f19 c_Law Pt_Law dT dL dB d0 d1 d2 d3 d4 d5 d6 d7 d8 d9 d10 d11 d12 d13 : Addr} (X : K.In h) (G : h.Ns mainGlobals mg) (hfa : mg "law" = some (.ref fa))
    (tab_Law : h.get? Pt_Law = some { cls := .none, data := .fields #[] })
    {od1 an1 od2 an2 od3 an3 od4 an4 od5 an5 od6 an6 od7 an7 od8 an8 od9 an9 od10 an10 od11 an11 od12 an12 od13 an13 od14 an14 od15 an15 od16 an16 od17 an17 od18 an18 od19 an19 : Option Addr} {sl1 sl2 sl3 sl4 sl5 sl6 sl7 sl8 sl9 sl10 sl11 sl12 sl13 sl14 sl15 sl16 sl17 sl18 sl19 : Array (Option Value)} {oc1 kV1 dc1 pm1 ct1 cd1 oc2 kV2 dc2 pm2 ct2 cd2 oc3 kV3 dc3 pm3 ct3 cd3 oc4 kV4 dc4 pm4 ct4 cd4 oc5 kV5 dc5 pm5 ct5 cd5 oc6 kV6 dc6 pm6 ct6 cd6 oc7 kV7 dc7 pm7 ct7 cd7 oc8 kV8 dc8 pm8 ct8 cd8 oc9 kV9 dc9 pm9 ct9 cd9 oc10 kV10 dc10 pm10 ct10 cd10 oc11 kV11 dc11 pm11 ct11 cd11 oc12 kV12 dc12 pm12 ct12 cd12 oc13 kV13 dc13 pm13 ct13 cd13 oc14 kV14 dc14 pm14 ct14 cd14 oc15 kV15 dc15 pm15 ct15 cd15 oc16 kV16 dc16 pm16 ct16 cd16 oc17 kV17 dc17 pm17 ct17 cd17 oc18 kV18 dc18 pm18 ct18 cd18 oc19 kV19 dc19 pm19 ct19 : Value} {t_MOST_BOXES : Tok} {tod_Law : Option Addr} {tvs_Law : Array Value} {tsl_Law : Array (Option Value)}
    (a1 : PySem.W.nsIn K mainGlobals "_law_cell_at" = some (some (.ref f1)))
    (l1 : K.lookup f1 = some ⟨oc1, od1, .func (PySem.W.fnOf "_law_cell_at" "_law_cell_at" (defArgs sCell) (defBody sCell) (defScope sCell) .none kV1 dc1 pm1 an1 cd1 ct1), sl1⟩)
    (c1 : PySem.W.codeIn K cd1 "_law_cell_at" = true)
    (k1 : PySem.W.keepIn K (.ref f1) = true)
    (a2 : PySem.W.nsIn K mainGlobals "_law_draws" = some (some (.ref f2)))
    (l2 : K.lookup f2 = some ⟨oc2, od2, .func (PySem.W.fnOf "_law_draws" "_law_draws" (defArgs sDraw) (defBody sDraw) (defScope sDraw) .none kV2 dc2 pm2 an2 cd2 ct2), sl2⟩)
    (c2 : PySem.W.codeIn K cd2 "_law_draws" = true)
    (k2 : PySem.W.keepIn K (.ref f2) = true)
    (a3 : PySem.W.nsIn K mainGlobals "_law_bag" = some (some (.ref f3)))
    (l3 : K.lookup f3 = some ⟨oc3, od3, .func (PySem.W.fnOf "_law_bag" "_law_bag" (defArgs sBag) (defBody sBag) (defScope sBag) .none kV3 dc3 pm3 an3 cd3 ct3), sl3⟩)
    (c3 : PySem.W.codeIn K cd3 "_law_bag" = true)
    (k3 : PySem.W.keepIn K (.ref f3) = true)
    (a4 : PySem.W.nsIn K mainGlobals "_law_bags" = some (some (.ref f4)))
    (l4 : K.lookup f4 = some ⟨oc4, od4, .func (PySem.W.fnOf "_law_bags" "_law_bags" (defArgs sBags) (defBody sBags) (defScope sBags) .none kV4 dc4 pm4 an4 cd4 ct4), sl4⟩)
    (c4 : PySem.W.codeIn K cd4 "_law_bags" = true)
    (k4 : PySem.W.keepIn K (.ref f4) = true)
    (a5 : PySem.W.nsIn K mainGlobals "_law_take" = some (some (.ref f5)))
    (l5 : K.lookup f5 = some ⟨oc5, od5, .func (PySem.W.fnOf "_law_take" "_law_take" (defArgs sTake) (defBody sTake) (defScope sTake) .none kV5 dc5 pm5 an5 cd5 ct5), sl5⟩)
    (c5 : PySem.W.codeIn K cd5 "_law_take" = true)
    (k5 : PySem.W.keepIn K (.ref f5) = true)
    (a6 : PySem.W.nsIn K mainGlobals "_law_mixed" = some (some (.ref f6)))
    (l6 : K.lookup f6 = some ⟨oc6, od6, .func (PySem.W.fnOf "_law_mixed" "_law_mixed" (defArgs sMix) (defBody sMix) (defScope sMix) .none kV6 dc6 pm6 an6 cd6 ct6), sl6⟩)
    (c6 : PySem.W.codeIn K cd6 "_law_mixed" = true)
    (k6 : PySem.W.keepIn K (.ref f6) = true)
    (a7 : PySem.W.nsIn K mainGlobals "_law_laid" = some (some (.ref f7)))
    (l7 : K.lookup f7 = some ⟨oc7, od7, .func (PySem.W.fnOf "_law_laid" "_law_laid" (defArgs sLaid) (defBody sLaid) (defScope sLaid) .none kV7 dc7 pm7 an7 cd7 ct7), sl7⟩)
    (c7 : PySem.W.codeIn K cd7 "_law_laid" = true)
    (k7 : PySem.W.keepIn K (.ref f7) = true)
    (a8 : PySem.W.nsIn K mainGlobals "_law_odd" = some (some (.ref f8)))
    (l8 : K.lookup f8 = some ⟨oc8, od8, .func (PySem.W.fnOf "_law_odd" "_law_odd" (defArgs sOdd) (defBody sOdd) (defScope sOdd) .none kV8 dc8 pm8 an8 cd8 ct8), sl8⟩)
    (c8 : PySem.W.codeIn K cd8 "_law_odd" = true)
    (k8 : PySem.W.keepIn K (.ref f8) = true)
    (a9 : PySem.W.nsIn K mainGlobals "_law_spoilt" = some (some (.ref f9)))
    (l9 : K.lookup f9 = some ⟨oc9, od9, .func (PySem.W.fnOf "_law_spoilt" "_law_spoilt" (defArgs sSpo) (defBody sSpo) (defScope sSpo) .none kV9 dc9 pm9 an9 cd9 ct9), sl9⟩)
    (c9 : PySem.W.codeIn K cd9 "_law_spoilt" = true)
    (k9 : PySem.W.keepIn K (.ref f9) = true)
    (a10 : PySem.W.nsIn K mainGlobals "is_whole" = some (some (.ref f10)))
    (l10 : K.lookup f10 = some ⟨oc10, od10, .func (PySem.W.fnOf "is_whole" "is_whole" (defArgs sWho) (defBody sWho) (defScope sWho) .none kV10 dc10 pm10 an10 cd10 ct10), sl10⟩)
    (c10 : PySem.W.codeIn K cd10 "is_whole" = true)
    (k10 : PySem.W.keepIn K (.ref f10) = true)
    (a11 : PySem.W.nsIn K mainGlobals "is_laying" = some (some (.ref f11)))
    (l11 : K.lookup f11 = some ⟨oc11, od11, .func (PySem.W.fnOf "is_laying" "is_laying" (defArgs sIsL) (defBody sIsL) (defScope sIsL) .none kV11 dc11 pm11 an11 cd11 ct11), sl11⟩)
    (c11 : PySem.W.codeIn K cd11 "is_laying" = true)
    (k11 : PySem.W.keepIn K (.ref f11) = true)
    (a12 : PySem.W.nsIn K mainGlobals "_law_from" = some (some (.ref f12)))
    (l12 : K.lookup f12 = some ⟨oc12, od12, .func (PySem.W.fnOf "_law_from" "_law_from" (defArgs sLFr) (defBody sLFr) (defScope sLFr) .none kV12 dc12 pm12 an12 cd12 ct12), sl12⟩)
    (c12 : PySem.W.codeIn K cd12 "_law_from" = true)
    (k12 : PySem.W.keepIn K (.ref f12) = true)
    (a13 : PySem.W.nsIn K mainGlobals "_law_is_laying" = some (some (.ref f13)))
    (l13 : K.lookup f13 = some ⟨oc13, od13, .func (PySem.W.fnOf "_law_is_laying" "_law_is_laying" (defArgs sLIL) (defBody sLIL) (defScope sLIL) .none kV13 dc13 pm13 an13 cd13 ct13), sl13⟩)
    (c13 : PySem.W.codeIn K cd13 "_law_is_laying" = true)
    (k13 : PySem.W.keepIn K (.ref f13) = true)
    (a14 : PySem.W.nsIn K mainGlobals "check_laying" = some (some (.ref f14)))
    (l14 : K.lookup f14 = some ⟨oc14, od14, .func (PySem.W.fnOf "check_laying" "check_laying" (defArgs sChL) (defBody sChL) (defScope sChL) .none kV14 dc14 pm14 an14 cd14 ct14), sl14⟩)
    (c14 : PySem.W.codeIn K cd14 "check_laying" = true)
    (k14 : PySem.W.keepIn K (.ref f14) = true)
    (a15 : PySem.W.nsIn K mainGlobals "round_from" = some (some (.ref f15)))
    (l15 : K.lookup f15 = some ⟨oc15, od15, .func (PySem.W.fnOf "round_from" "round_from" (defArgs sRdF) (defBody sRdF) (defScope sRdF) .none kV15 dc15 pm15 an15 cd15 ct15), sl15⟩)
    (c15 : PySem.W.codeIn K cd15 "round_from" = true)
    (k15 : PySem.W.keepIn K (.ref f15) = true)
    (a16 : PySem.W.nsIn K mainGlobals "rounds_of" = some (some (.ref f16)))
    (l16 : K.lookup f16 = some ⟨oc16, od16, .func (PySem.W.fnOf "rounds_of" "rounds_of" (defArgs sRdO) (defBody sRdO) (defScope sRdO) .none kV16 dc16 pm16 an16 cd16 ct16), sl16⟩)
    (c16 : PySem.W.codeIn K cd16 "rounds_of" = true)
    (k16 : PySem.W.keepIn K (.ref f16) = true)
    (a17 : PySem.W.nsIn K mainGlobals "_law_cycles" = some (some (.ref f17)))
    (l17 : K.lookup f17 = some ⟨oc17, od17, .func (PySem.W.fnOf "_law_cycles" "_law_cycles" (defArgs sCyc) (defBody sCyc) (defScope sCyc) .none kV17 dc17 pm17 an17 cd17 ct17), sl17⟩)
    (c17 : PySem.W.codeIn K cd17 "_law_cycles" = true)
    (k17 : PySem.W.keepIn K (.ref f17) = true)
    (a18 : PySem.W.nsIn K mainGlobals "_law_refused" = some (some (.ref f18)))
    (l18 : K.lookup f18 = some ⟨oc18, od18, .func (PySem.W.fnOf "_law_refused" "_law_refused" (defArgs sRef) (defBody sRef) (defScope sRef) .none kV18 dc18 pm18 an18 cd18 ct18), sl18⟩)
    (c18 : PySem.W.codeIn K cd18 "_law_refused" = true)
    (k18 : PySem.W.keepIn K (.ref f18) = true)
    (a19 : PySem.W.nsIn K mainGlobals "law" = some (some (.ref f19)))
    (l19 : K.lookup f19 = some ⟨oc19, od19, .func (PySem.W.fnOf "law" "law" (defArgs sLaw) (defBody sLaw) (defScope sLaw) .none kV19 dc19 pm19 an19 (.ref c_Law) ct19), sl19⟩)
    (c19 : PySem.W.codeIn K (.ref c_Law) "law" = true)
    (k19 : PySem.W.keepIn K (.ref f19) = true)
    (z_isi : PySem.W.nsIn K mainGlobals "isinstance" = some none)
    (z_tup : PySem.W.nsIn K mainGlobals "tuple" = some none)
    (z_lst : PySem.W.nsIn K mainGlobals "list" = some none)
    (z_str : PySem.W.nsIn K mainGlobals "str" = some none)
    (z_len : PySem.W.nsIn K mainGlobals "len" = some none)
    (z_all : PySem.W.nsIn K mainGlobals "all" = some none)
    (z_zip : PySem.W.nsIn K mainGlobals "zip" = some none)
    (z_rng : PySem.W.nsIn K mainGlobals "range" = some none)
    (z_int : PySem.W.nsIn K mainGlobals "int" = some none)
    (z_max : PySem.W.nsIn K mainGlobals "max" = some none)
    (z_min : PySem.W.nsIn K mainGlobals "min" = some none)
    (z_srt : PySem.W.nsIn K mainGlobals "sorted" = some none)
    (z_enu : PySem.W.nsIn K mainGlobals "enumerate" = some none)
    (z_sum : PySem.W.nsIn K mainGlobals "sum" = some none)
    (z_abs : PySem.W.nsIn K mainGlobals "abs" = some none)
    (z_rpr : PySem.W.nsIn K mainGlobals "repr" = some none)
    (z_set : PySem.W.nsIn K mainGlobals "set" = some none)
    (z_bool : PySem.W.nsIn K mainGlobals "bool" = some none)
    (z_ver : PySem.W.nsIn K mainGlobals "ValueError" = some none)
    (z_any : PySem.W.nsIn K mainGlobals "any" = some none)
    (m_MOST_BOXES : PySem.W.nsIn K mainGlobals "MOST_BOXES" = some (some (.int 30 t_MOST_BOXES)))
    (e_NoHouse : PySem.W.nsIn K mainGlobals "NoHouse" = some (some (.ref d0)))
    (i_NoHouse : PySem.W.isClsIn K d0 = true)
    (t_NoHouse : PySem.W.typeIn K (.ref d0) = some (.type "type"))
    (b_NoHouse : PySem.W.subIn K (.ref d0) (.type "BaseException") = some true)
    (h_NoHouse : PySem.W.hasDictIn K d0 = true)
    (e_NoColour : PySem.W.nsIn K mainGlobals "NoColour" = some (some (.ref d1)))
    (i_NoColour : PySem.W.isClsIn K d1 = true)
    (t_NoColour : PySem.W.typeIn K (.ref d1) = some (.type "type"))
    (b_NoColour : PySem.W.subIn K (.ref d1) (.type "BaseException") = some true)
    (h_NoColour : PySem.W.hasDictIn K d1 = true)
    (e_NoRow : PySem.W.nsIn K mainGlobals "NoRow" = some (some (.ref d2)))
    (i_NoRow : PySem.W.isClsIn K d2 = true)
    (t_NoRow : PySem.W.typeIn K (.ref d2) = some (.type "type"))
    (b_NoRow : PySem.W.subIn K (.ref d2) (.type "BaseException") = some true)
    (h_NoRow : PySem.W.hasDictIn K d2 = true)
    (e_NoBoxes : PySem.W.nsIn K mainGlobals "NoBoxes" = some (some (.ref d3)))
    (i_NoBoxes : PySem.W.isClsIn K d3 = true)
    (t_NoBoxes : PySem.W.typeIn K (.ref d3) = some (.type "type"))
    (b_NoBoxes : PySem.W.subIn K (.ref d3) (.type "BaseException") = some true)
    (h_NoBoxes : PySem.W.hasDictIn K d3 = true)
    (e_NoLaying : PySem.W.nsIn K mainGlobals "NoLaying" = some (some (.ref d4)))
    (i_NoLaying : PySem.W.isClsIn K d4 = true)
    (t_NoLaying : PySem.W.typeIn K (.ref d4) = some (.type "type"))
    (b_NoLaying : PySem.W.subIn K (.ref d4) (.type "BaseException") = some true)
    (h_NoLaying : PySem.W.hasDictIn K d4 = true)
    (e_NoNumber : PySem.W.nsIn K mainGlobals "NoNumber" = some (some (.ref d5)))
    (i_NoNumber : PySem.W.isClsIn K d5 = true)
    (t_NoNumber : PySem.W.typeIn K (.ref d5) = some (.type "type"))
    (b_NoNumber : PySem.W.subIn K (.ref d5) (.type "BaseException") = some true)
    (h_NoNumber : PySem.W.hasDictIn K d5 = true)
    (e_NoBox : PySem.W.nsIn K mainGlobals "NoBox" = some (some (.ref d6)))
    (i_NoBox : PySem.W.isClsIn K d6 = true)
    (t_NoBox : PySem.W.typeIn K (.ref d6) = some (.type "type"))
    (b_NoBox : PySem.W.subIn K (.ref d6) (.type "BaseException") = some true)
    (h_NoBox : PySem.W.hasDictIn K d6 = true)
    (e_NoKey : PySem.W.nsIn K mainGlobals "NoKey" = some (some (.ref d7)))
    (i_NoKey : PySem.W.isClsIn K d7 = true)
    (t_NoKey : PySem.W.typeIn K (.ref d7) = some (.type "type"))
    (b_NoKey : PySem.W.subIn K (.ref d7) (.type "BaseException") = some true)
    (h_NoKey : PySem.W.hasDictIn K d7 = true)
    (e_Locks : PySem.W.nsIn K mainGlobals "Locks" = some (some (.ref d8)))
    (i_Locks : PySem.W.isClsIn K d8 = true)
    (t_Locks : PySem.W.typeIn K (.ref d8) = some (.type "type"))
    (b_Locks : PySem.W.subIn K (.ref d8) (.type "BaseException") = some true)
    (h_Locks : PySem.W.hasDictIn K d8 = true)
    (e_Unlike : PySem.W.nsIn K mainGlobals "Unlike" = some (some (.ref d9)))
    (i_Unlike : PySem.W.isClsIn K d9 = true)
    (t_Unlike : PySem.W.typeIn K (.ref d9) = some (.type "type"))
    (b_Unlike : PySem.W.subIn K (.ref d9) (.type "BaseException") = some true)
    (h_Unlike : PySem.W.hasDictIn K d9 = true)
    (e_Open : PySem.W.nsIn K mainGlobals "Open" = some (some (.ref d10)))
    (i_Open : PySem.W.isClsIn K d10 = true)
    (t_Open : PySem.W.typeIn K (.ref d10) = some (.type "type"))
    (b_Open : PySem.W.subIn K (.ref d10) (.type "BaseException") = some true)
    (h_Open : PySem.W.hasDictIn K d10 = true)
    (e_Shut : PySem.W.nsIn K mainGlobals "Shut" = some (some (.ref d11)))
    (i_Shut : PySem.W.isClsIn K d11 = true)
    (t_Shut : PySem.W.typeIn K (.ref d11) = some (.type "type"))
    (b_Shut : PySem.W.subIn K (.ref d11) (.type "BaseException") = some true)
    (h_Shut : PySem.W.hasDictIn K d11 = true)
    (e_Full : PySem.W.nsIn K mainGlobals "Full" = some (some (.ref d12)))
    (i_Full : PySem.W.isClsIn K d12 = true)
    (t_Full : PySem.W.typeIn K (.ref d12) = some (.type "type"))
    (b_Full : PySem.W.subIn K (.ref d12) (.type "BaseException") = some true)
    (h_Full : PySem.W.hasDictIn K d12 = true)
    (e_NothingLeft : PySem.W.nsIn K mainGlobals "NothingLeft" = some (some (.ref d13)))
    (i_NothingLeft : PySem.W.isClsIn K d13 = true)
    (t_NothingLeft : PySem.W.typeIn K (.ref d13) = some (.type "type"))
    (b_NothingLeft : PySem.W.subIn K (.ref d13) (.type "BaseException") = some true)
    (h_NothingLeft : PySem.W.hasDictIn K d13 = true)
    (e_TooMany : PySem.W.nsIn K mainGlobals "TooMany" = some (some (.ref dT)))
    (i_TooMany : PySem.W.isClsIn K dT = true)
    (t_TooMany : PySem.W.typeIn K (.ref dT) = some (.type "type"))
    (b_TooMany : PySem.W.subIn K (.ref dT) (.type "BaseException") = some true)
    (h_TooMany : PySem.W.hasDictIn K dT = true)
    (e_Locked : PySem.W.nsIn K mainGlobals "Locked" = some (some (.ref dL)))
    (i_Locked : PySem.W.isClsIn K dL = true)
    (t_Locked : PySem.W.typeIn K (.ref dL) = some (.type "type"))
    (b_Locked : PySem.W.subIn K (.ref dL) (.type "BaseException") = some true)
    (h_Locked : PySem.W.hasDictIn K dL = true)
    (e_BoxError : PySem.W.nsIn K mainGlobals "BoxError" = some (some (.ref dB)))
    (i_BoxError : PySem.W.isClsIn K dB = true)
    (t_BoxError : PySem.W.typeIn K (.ref dB) = some (.type "type"))
    (b_BoxError : PySem.W.subIn K (.ref dB) (.type "BaseException") = some true)
    (h_BoxError : PySem.W.hasDictIn K dB = true)
    (v_NoLaying : PySem.W.subIn K (.ref d4) (.type "ValueError") = some true)
    (s_NoLaying_NoHouse : PySem.W.subIn K (.ref d4) (.ref d0) = some false)
    (n_NoLaying_NoHouse : (Value.ref d4 == .ref d0) = false)
    (s_NoLaying_NoColour : PySem.W.subIn K (.ref d4) (.ref d1) = some false)
    (n_NoLaying_NoColour : (Value.ref d4 == .ref d1) = false)
    (s_NoLaying_NoRow : PySem.W.subIn K (.ref d4) (.ref d2) = some false)
    (n_NoLaying_NoRow : (Value.ref d4 == .ref d2) = false)
    (s_NoLaying_NoBoxes : PySem.W.subIn K (.ref d4) (.ref d3) = some false)
    (n_NoLaying_NoBoxes : (Value.ref d4 == .ref d3) = false)
    (s_NoLaying_NoLaying : PySem.W.subIn K (.ref d4) (.ref d4) = some true)
    (s_NoLaying_NoNumber : PySem.W.subIn K (.ref d4) (.ref d5) = some false)
    (n_NoLaying_NoNumber : (Value.ref d4 == .ref d5) = false)
    (s_NoLaying_NoBox : PySem.W.subIn K (.ref d4) (.ref d6) = some false)
    (n_NoLaying_NoBox : (Value.ref d4 == .ref d6) = false)
    (s_NoLaying_NoKey : PySem.W.subIn K (.ref d4) (.ref d7) = some false)
    (n_NoLaying_NoKey : (Value.ref d4 == .ref d7) = false)
    (s_NoLaying_Locks : PySem.W.subIn K (.ref d4) (.ref d8) = some false)
    (n_NoLaying_Locks : (Value.ref d4 == .ref d8) = false)
    (s_NoLaying_Unlike : PySem.W.subIn K (.ref d4) (.ref d9) = some false)
    (n_NoLaying_Unlike : (Value.ref d4 == .ref d9) = false)
    (s_NoLaying_Open : PySem.W.subIn K (.ref d4) (.ref d10) = some false)
    (n_NoLaying_Open : (Value.ref d4 == .ref d10) = false)
    (s_NoLaying_Shut : PySem.W.subIn K (.ref d4) (.ref d11) = some false)
    (n_NoLaying_Shut : (Value.ref d4 == .ref d11) = false)
    (s_NoLaying_Full : PySem.W.subIn K (.ref d4) (.ref d12) = some false)
    (n_NoLaying_Full : (Value.ref d4 == .ref d12) = false)
    (s_NoLaying_NothingLeft : PySem.W.subIn K (.ref d4) (.ref d13) = some false)
    (n_NoLaying_NothingLeft : (Value.ref d4 == .ref d13) = false)
    (s_NoLaying_TooMany : PySem.W.subIn K (.ref d4) (.ref dT) = some false)
    (s_NoLaying_Locked : PySem.W.subIn K (.ref d4) (.ref dL) = some false)
    (s_NoLaying_BoxError : PySem.W.subIn K (.ref d4) (.ref dB) = some true)
    (w1_NoLaying : PySem.W.findIn K (.ref d4) "__getattribute__" = some (some (.builtin "BaseException.__getattribute__")))
    (w2_NoLaying : PySem.W.findIn K (.ref d4) "__getattr__" = some none)
    (w5_NoLaying : PySem.W.findIn K (.ref d4) "__class__" = some (some (.builtin "object.__class__")))
    (w8_NoLaying : PySem.W.mroIn K d4 (.type "object") = some true)
    (xq_NoLaying : PySem.W.excIn K d4 [.type "ValueError", .type "Exception", .type "BaseException", .type "object"] "ValueError.__new__" = true)
    (xk_NoLaying : PySem.W.keepIn K (.ref d4) = true)
    (w6 : PySem.W.specialIn K (.builtin "object.__class__") "__get__" = some (some (.builtin "getset_descriptor.__get__")))
    (w7 : PySem.W.takesIn K (.builtin "object.__class__") = some true)
    (tn_Law : K.lookup Pt_Law = none)
    (tl_Law : K.lookup c_Law = some ⟨.type "code", tod_Law, .fields tvs_Law, tsl_Law⟩)
    (th_Law : codeVs tvs_Law c_Law Pt_Law = true)
    : LawAtS l w K CX0 20 63 "script" mg fa h := by
  have e := hfa.symm.trans (PySem.W.mg_of X G a19)
  cases e
  have F1 := fun_mk (st := sCell) l1 c1 k1
  have D1 : Df K mg "_law_cell_at" sCell ["script", "k"] f1 _ := ⟨F1, PySem.W.mg_of X G a1, F1.binds fun _ _ _ _ _ _ us hl => match us, hl with | [_, _], _ => rfl⟩
  have F2 := fun_mk (st := sDraw) l2 c2 k2
  have D2 : Df K mg "_law_draws" sDraw ["cell", "many", "size"] f2 _ := ⟨F2, PySem.W.mg_of X G a2, F2.binds fun _ _ _ _ _ _ us hl => match us, hl with | [_, _, _], _ => rfl⟩
  have F3 := fun_mk (st := sBag) l3 c3 k3
  have D3 : Df K mg "_law_bag" sBag ["script", "k"] f3 _ := ⟨F3, PySem.W.mg_of X G a3, F3.binds fun _ _ _ _ _ _ us hl => match us, hl with | [_, _], _ => rfl⟩
  have F4 := fun_mk (st := sBags) l4 c4 k4
  have D4 : Df K mg "_law_bags" sBags ["script", "limit"] f4 _ := ⟨F4, PySem.W.mg_of X G a4, F4.binds fun _ _ _ _ _ _ us hl => match us, hl with | [_, _], _ => rfl⟩
  have F5 := fun_mk (st := sTake) l5 c5 k5
  have D5 : Df K mg "_law_take" sTake ["bag", "many"] f5 _ := ⟨F5, PySem.W.mg_of X G a5, F5.binds fun _ _ _ _ _ _ us hl => match us, hl with | [_, _], _ => rfl⟩
  have F6 := fun_mk (st := sMix) l6 c6 k6
  have D6 : Df K mg "_law_mixed" sMix ["bag", "many"] f6 _ := ⟨F6, PySem.W.mg_of X G a6, F6.binds fun _ _ _ _ _ _ us hl => match us, hl with | [_, _], _ => rfl⟩
  have F7 := fun_mk (st := sLaid) l7 c7 k7
  have D7 : Df K mg "_law_laid" sLaid ["bag", "many"] f7 _ := ⟨F7, PySem.W.mg_of X G a7, F7.binds fun _ _ _ _ _ _ us hl => match us, hl with | [_, _], _ => rfl⟩
  have F8 := fun_mk (st := sOdd) l8 c8 k8
  have D8 : Df K mg "_law_odd" sOdd ["picks"] f8 _ := ⟨F8, PySem.W.mg_of X G a8, F8.binds fun _ _ _ _ _ _ us hl => match us, hl with | [_], _ => rfl⟩
  have F9 := fun_mk (st := sSpo) l9 c9 k9
  have D9 : Df K mg "_law_spoilt" sSpo ["thing", "picks"] f9 _ := ⟨F9, PySem.W.mg_of X G a9, F9.binds fun _ _ _ _ _ _ us hl => match us, hl with | [_, _], _ => rfl⟩
  have F10 := fun_mk (st := sWho) l10 c10 k10
  have D10 : Df K mg "is_whole" sWho ["thing"] f10 _ := ⟨F10, PySem.W.mg_of X G a10, F10.binds fun _ _ _ _ _ _ us hl => match us, hl with | [_], _ => rfl⟩
  have F11 := fun_mk (st := sIsL) l11 c11 k11
  have D11 : Df K mg "is_laying" sIsL ["thing"] f11 _ := ⟨F11, PySem.W.mg_of X G a11, F11.binds fun _ _ _ _ _ _ us hl => match us, hl with | [_], _ => rfl⟩
  have F12 := fun_mk (st := sLFr) l12 c12 k12
  have D12 : Df K mg "_law_from" sLFr ["thing", "least", "top"] f12 _ := ⟨F12, PySem.W.mg_of X G a12, F12.binds fun _ _ _ _ _ _ us hl => match us, hl with | [_, _, _], _ => rfl⟩
  have F13 := fun_mk (st := sLIL) l13 c13 k13
  have D13 : Df K mg "_law_is_laying" sLIL ["thing"] f13 _ := ⟨F13, PySem.W.mg_of X G a13, F13.binds fun _ _ _ _ _ _ us hl => match us, hl with | [_], _ => rfl⟩
  have F14 := fun_mk (st := sChL) l14 c14 k14
  have D14 : Df K mg "check_laying" sChL ["laying"] f14 _ := ⟨F14, PySem.W.mg_of X G a14, F14.binds fun _ _ _ _ _ _ us hl => match us, hl with | [_], _ => rfl⟩
  have F15 := fun_mk (st := sRdF) l15 c15 k15
  have D15 : Df K mg "round_from" sRdF ["laying", "box"] f15 _ := ⟨F15, PySem.W.mg_of X G a15, F15.binds fun _ _ _ _ _ _ us hl => match us, hl with | [_, _], _ => rfl⟩
  have F16 := fun_mk (st := sRdO) l16 c16 k16
  have D16 : Df K mg "rounds_of" sRdO ["laying"] f16 _ := ⟨F16, PySem.W.mg_of X G a16, F16.binds fun _ _ _ _ _ _ us hl => match us, hl with | [_], _ => rfl⟩
  have F17 := fun_mk (st := sCyc) l17 c17 k17
  have D17 : Df K mg "_law_cycles" sCyc ["laying"] f17 _ := ⟨F17, PySem.W.mg_of X G a17, F17.binds fun _ _ _ _ _ _ us hl => match us, hl with | [_], _ => rfl⟩
  have F18 := fun_mk (st := sRef) l18 c18 k18
  have D18 : Df K mg "_law_refused" sRef ["call", "one", "two", "three"] f18 _ := ⟨F18, PySem.W.mg_of X G a18, F18.binds fun _ _ _ _ _ _ us hl => match us, hl with | [_, _, _, _], _ => rfl⟩
  have F19 := fun_mk (st := sLaw) l19 c19 k19
  have B : Bu mg := ⟨PySem.W.mg_none_of X G z_isi, PySem.W.mg_none_of X G z_tup, PySem.W.mg_none_of X G z_lst, PySem.W.mg_none_of X G z_str, PySem.W.mg_none_of X G z_len, PySem.W.mg_none_of X G z_all, PySem.W.mg_none_of X G z_zip, PySem.W.mg_none_of X G z_rng, PySem.W.mg_none_of X G z_int, PySem.W.mg_none_of X G z_max, PySem.W.mg_none_of X G z_min, PySem.W.mg_none_of X G z_srt, PySem.W.mg_none_of X G z_enu, PySem.W.mg_none_of X G z_sum, PySem.W.mg_none_of X G z_abs, PySem.W.mg_none_of X G z_rpr, PySem.W.mg_none_of X G z_set, PySem.W.mg_none_of X G z_bool, PySem.W.mg_none_of X G z_ver, PySem.W.mg_none_of X G z_any⟩
  have n_MOST_BOXES := PySem.W.mg_of X G m_MOST_BOXES
  have C_NoHouse : ClsT K mg "NoHouse" d0 := ⟨PySem.W.mg_of X G e_NoHouse, i_NoHouse, t_NoHouse, b_NoHouse, h_NoHouse⟩
  have C_NoColour : ClsT K mg "NoColour" d1 := ⟨PySem.W.mg_of X G e_NoColour, i_NoColour, t_NoColour, b_NoColour, h_NoColour⟩
  have C_NoRow : ClsT K mg "NoRow" d2 := ⟨PySem.W.mg_of X G e_NoRow, i_NoRow, t_NoRow, b_NoRow, h_NoRow⟩
  have C_NoBoxes : ClsT K mg "NoBoxes" d3 := ⟨PySem.W.mg_of X G e_NoBoxes, i_NoBoxes, t_NoBoxes, b_NoBoxes, h_NoBoxes⟩
  have C_NoLaying : ClsT K mg "NoLaying" d4 := ⟨PySem.W.mg_of X G e_NoLaying, i_NoLaying, t_NoLaying, b_NoLaying, h_NoLaying⟩
  have C_NoNumber : ClsT K mg "NoNumber" d5 := ⟨PySem.W.mg_of X G e_NoNumber, i_NoNumber, t_NoNumber, b_NoNumber, h_NoNumber⟩
  have C_NoBox : ClsT K mg "NoBox" d6 := ⟨PySem.W.mg_of X G e_NoBox, i_NoBox, t_NoBox, b_NoBox, h_NoBox⟩
  have C_NoKey : ClsT K mg "NoKey" d7 := ⟨PySem.W.mg_of X G e_NoKey, i_NoKey, t_NoKey, b_NoKey, h_NoKey⟩
  have C_Locks : ClsT K mg "Locks" d8 := ⟨PySem.W.mg_of X G e_Locks, i_Locks, t_Locks, b_Locks, h_Locks⟩
  have C_Unlike : ClsT K mg "Unlike" d9 := ⟨PySem.W.mg_of X G e_Unlike, i_Unlike, t_Unlike, b_Unlike, h_Unlike⟩
  have C_Open : ClsT K mg "Open" d10 := ⟨PySem.W.mg_of X G e_Open, i_Open, t_Open, b_Open, h_Open⟩
  have C_Shut : ClsT K mg "Shut" d11 := ⟨PySem.W.mg_of X G e_Shut, i_Shut, t_Shut, b_Shut, h_Shut⟩
  have C_Full : ClsT K mg "Full" d12 := ⟨PySem.W.mg_of X G e_Full, i_Full, t_Full, b_Full, h_Full⟩
  have C_NothingLeft : ClsT K mg "NothingLeft" d13 := ⟨PySem.W.mg_of X G e_NothingLeft, i_NothingLeft, t_NothingLeft, b_NothingLeft, h_NothingLeft⟩
  have C_TooMany : ClsT K mg "TooMany" dT := ⟨PySem.W.mg_of X G e_TooMany, i_TooMany, t_TooMany, b_TooMany, h_TooMany⟩
  have C_Locked : ClsT K mg "Locked" dL := ⟨PySem.W.mg_of X G e_Locked, i_Locked, t_Locked, b_Locked, h_Locked⟩
  have C_BoxError : ClsT K mg "BoxError" dB := ⟨PySem.W.mg_of X G e_BoxError, i_BoxError, t_BoxError, b_BoxError, h_BoxError⟩
  have hC : ∀ i, i < 14 → ClsT K mg (nmC i) ([d0, d1, d2, d3, d4, d5, d6, d7, d8, d9, d10, d11, d12, d13].getD i d0) := fun i hi => match i, hi with | 0, _ => C_NoHouse | 1, _ => C_NoColour | 2, _ => C_NoRow | 3, _ => C_NoBoxes | 4, _ => C_NoLaying | 5, _ => C_NoNumber | 6, _ => C_NoBox | 7, _ => C_NoKey | 8, _ => C_Locks | 9, _ => C_Unlike | 10, _ => C_Open | 11, _ => C_Shut | 12, _ => C_Full | 13, _ => C_NothingLeft | i + 14, hi => absurd hi (by omega)
  have R_NoLaying : RaiseT K d4 := ⟨v_NoLaying, ⟨w1_NoLaying, w2_NoLaying, b_NoLaying, h_NoLaying, w5_NoLaying, w6, w7, w8_NoLaying⟩, xq_NoLaying, xk_NoLaying⟩
  have E_NoLaying := R_NoLaying.exc C_NoLaying
  have T_NoLaying : RefT K mg d4 (fun i => [d0, d1, d2, d3, d4, d5, d6, d7, d8, d9, d10, d11, d12, d13].getD i d0) (fun i => decide (i = 4)) dT dL dB := refT_of R_NoLaying C_TooMany C_Locked C_BoxError hC s_NoLaying_TooMany s_NoLaying_Locked s_NoLaying_BoxError (fun i hi => match i, hi with | 0, _ => ⟨s_NoLaying_NoHouse, .inr n_NoLaying_NoHouse⟩ | 1, _ => ⟨s_NoLaying_NoColour, .inr n_NoLaying_NoColour⟩ | 2, _ => ⟨s_NoLaying_NoRow, .inr n_NoLaying_NoRow⟩ | 3, _ => ⟨s_NoLaying_NoBoxes, .inr n_NoLaying_NoBoxes⟩ | 4, _ => ⟨s_NoLaying_NoLaying, .inl rfl⟩ | 5, _ => ⟨s_NoLaying_NoNumber, .inr n_NoLaying_NoNumber⟩ | 6, _ => ⟨s_NoLaying_NoBox, .inr n_NoLaying_NoBox⟩ | 7, _ => ⟨s_NoLaying_NoKey, .inr n_NoLaying_NoKey⟩ | 8, _ => ⟨s_NoLaying_Locks, .inr n_NoLaying_Locks⟩ | 9, _ => ⟨s_NoLaying_Unlike, .inr n_NoLaying_Unlike⟩ | 10, _ => ⟨s_NoLaying_Open, .inr n_NoLaying_Open⟩ | 11, _ => ⟨s_NoLaying_Shut, .inr n_NoLaying_Shut⟩ | 12, _ => ⟨s_NoLaying_Full, .inr n_NoLaying_Full⟩ | 13, _ => ⟨s_NoLaying_NothingLeft, .inr n_NoLaying_NothingLeft⟩ | i + 14, hi => absurd hi (by omega)) B.isi B.ver
  refine ⟨PySem.W.fnOf "law" "law" (defArgs sLaw) (defBody sLaw) (defScope sLaw) .none kV19 dc19 pm19 an19 (.ref c_Law) ct19, [(c_Law, Pt_Law)], spLawX K [(Pt_Law, lamQ_Law)], (fun p hp => ?_), (fun p hp => ?_), (fun p hp => ?_), fun s v => .of_eq rfl, (fun H a ns hl _ hH hS => ⟨a, ns, rfl, hS, hl, (fun p hp => ?_), fun _ => rfl⟩), fun base _ _ TB => ?_⟩
  ·
    rw [List.mem_singleton.mp hp]
    exact tab_Law
  ·
    rw [List.mem_singleton.mp hp]
    exact tn_Law
  ·
    rw [List.mem_singleton.mp hp]
    exact PySem.W.codeHd_of_K X (codeHd_by tl_Law th_Law)
  ·
    rw [List.mem_singleton.mp hp]
    exact TabS.nil (hH (c_Law, Pt_Law) (by simp))
  have TB_Law := TB (c_Law, Pt_Law) (by simp)
  have g1 : ∀ k : Nat, FnOk l.prog w K mg base CX0 (k + 1) f1 _ ["script", "k"] (spCell K) := fun k => ok_cell F1   B
  have g2 : ∀ k : Nat, FnOk l.prog w K mg base CX0 (k + 1) f2 _ ["cell", "many", "size"] (spDraw K) := fun k => ok_draw F2   B B
  have g3 : ∀ k : Nat, FnOk l.prog w K mg base CX0 (k + 2) f3 _ ["script", "k"] (spBag K) := fun k => ok_bag F3 D1 D2 (g1 k) (g2 k) 
  have g4 : ∀ k : Nat, FnOk l.prog w K mg base CX0 (k + 3) f4 _ ["script", "limit"] (spBags K 10) := fun k => ok_bags (by decide) F4 B B D3 (g3 k)
  have g5 : ∀ k : Nat, FnOk l.prog w K mg base CX0 (k + 1) f5 _ ["bag", "many"] (spTake K) := fun k => ok_take F5   B
  have g6 : ∀ k : Nat, FnOk l.prog w K mg base CX0 (k + 2) f6 _ ["bag", "many"] (spMix K) := fun k => ok_mix F6 D5 (g5 k) B
  have g7 : ∀ k : Nat, FnOk l.prog w K mg base CX0 (k + 3) f7 _ ["bag", "many"] (spLaid K) := fun k => ok_laid F7 D6 (g6 k) B
  have g8 : ∀ k : Nat, FnOk l.prog w K mg base CX0 (k + 1) f8 _ ["picks"] (spOdd K) := fun k => ok_odd F8   B
  have g9 : ∀ k : Nat, FnOk l.prog w K mg base CX0 (k + 11) f9 _ ["thing", "picks"] (spSpo K 9) := fun k => ok_spo F9 D8 (g8 k) B D9 9
  have g10 : ∀ k : Nat, FnOk l.prog w K mg base CX0 (k + 1) f10 _ ["thing"] (spWho K) := fun k => ok_who F10   B
  have g11 : ∀ k : Nat, FnOk l.prog w K mg base CX0 (k + 2) f11 _ ["thing"] (spIsL K) := fun k => ok_isL F11 D10 (g10 k) B n_MOST_BOXES
  have g12 : ∀ k : Nat, FnOk l.prog w K mg base CX0 (k + 1) f12 _ ["thing", "least", "top"] (spLFr K) := fun k => ok_LFr F12   B
  have g13 : ∀ k : Nat, FnOk l.prog w K mg base CX0 (k + 2) f13 _ ["thing"] (spLIL K) := fun k => ok_LIL F13 D12 (g12 k) B
  have g14 : ∀ k : Nat, FnOk l.prog w K mg base CX0 (k + 3) f14 _ ["laying"] (spChL K) := fun k => ok_chL F14 D11 (g11 k) 
  have g15 : ∀ k : Nat, FnOk l.prog w K mg base CX0 (k + 1) f15 _ ["laying", "box"] (spRdF K) := fun k => ok_rdF F15   B
  have g16 : ∀ k : Nat, FnOk l.prog w K mg base CX0 (k + 4) f16 _ ["laying"] (spRdO K) := fun k => ok_rdO F16 D14 D15 (g14 k) (g15 k) B
  have g17 : ∀ k : Nat, FnOk l.prog w K mg base CX0 (k + 1) f17 _ ["laying"] (spCyc K) := fun k => ok_cyc F17   B
  have gChLX : ∀ k : Nat, FnOk l.prog w K mg base (L2N.CX l.prog w) (k + 3) f14 _ ["laying"] (spChLX K d4) := fun k => ok_chLX F14 D11 (g11 k) E_NoLaying
  have gRdOX : ∀ k : Nat, FnOk l.prog w K mg base (L2N.CX l.prog w) (k + 4) f16 _ ["laying"] (spRdOX K d4) := fun k => ok_rdOX F16 D14 (gChLX k)
  have L0 : ∀ c', LOk l.prog w K mg base (L2N.CX l.prog w) 18 (lamMLaw0 c') lamBLaw0 ["a", "b", "c"] (spLam1 (spRdOX K d4)) := fun c' => lok_1 (F := lamMLaw0 c') (nscope_by lamSLaw0) rfl rfl (fun pm ctv us hl => match us, hl with | [_, _, _], _ => rfl) D16 (gRdOX 13)
  have gRef0 : FnOk l.prog w K mg base CX0 19 f18 _ ["call", "one", "two", "three"] (spRef K lamMLaw0 lamBLaw0 (spLam1 (spRdOX K d4)) d4 (fun i => decide (i = 4))) := ok_ref' (k := 18) F18 T_NoLaying L0 fun f c' v1 v2 v3 H Q nx bk ct hf hc q qq => ref_core T_NoLaying hf hc q qq
  exact ok_law (k := 8) (T := [(Pt_Law, lamQ_Law)]) l19 c19 TB_Law (List.mem_singleton.mpr rfl) (fun p hp _ => by rw [List.mem_singleton.mp hp]) D18 D4 D5 D7 D9 D8 D11 D13 D16 D17 gRef0 (g4 8) (g5 8) (g7 8) (g9 8) (g8 8) (g11 8) (g13 8) (g16 8) (g17 8) B
end Kw
open PySem PySem.W PyProof.Rows
set_option maxHeartbeats 0 in
theorem PySem.Challenge.cw_keyswithin_k08_layings_and_their_rounds_holds : PySem.Challenge.rw_keyswithin_k08_layings_and_their_rounds.Holds := by
  w_on; o_law; k_head; (case hw => w_witness2)
  k_fill
  refine LamX.walk_ofTs (l := PySem.Challenge.rw_keyswithin_k08_layings_and_their_rounds) (n := 63) (k := 20) (x := "script") (CX := fun _ => L2.CX0) rfl (by decide) rfl ⟨rfl, by decide, by decide⟩ (fun w h Y => PySem.W.km_in_of Y) ?F (fun _ _ _ _ _ h => h)
  case F =>
    intro w mg fa h Y KX G hmg
    refine' Kw.all_mk KX G hmg (PySem.W.km_tabs_of Y _ (List.mem_singleton.mpr rfl)) ?a1 ?l1 ?c1 ?k1 ?a2 ?l2 ?c2 ?k2 ?a3 ?l3 ?c3 ?k3 ?a4 ?l4 ?c4 ?k4 ?a5 ?l5 ?c5 ?k5 ?a6 ?l6 ?c6 ?k6 ?a7 ?l7 ?c7 ?k7 ?a8 ?l8 ?c8 ?k8 ?a9 ?l9 ?c9 ?k9 ?a10 ?l10 ?c10 ?k10 ?a11 ?l11 ?c11 ?k11 ?a12 ?l12 ?c12 ?k12 ?a13 ?l13 ?c13 ?k13 ?a14 ?l14 ?c14 ?k14 ?a15 ?l15 ?c15 ?k15 ?a16 ?l16 ?c16 ?k16 ?a17 ?l17 ?c17 ?k17 ?a18 ?l18 ?c18 ?k18 ?a19 ?l19 ?c19 ?k19 ?z_isi ?z_tup ?z_lst ?z_str ?z_len ?z_all ?z_zip ?z_rng ?z_int ?z_max ?z_min ?z_srt ?z_enu ?z_sum ?z_abs ?z_rpr ?z_set ?z_bool ?z_ver ?z_any ?m_MOST_BOXES ?e_NoHouse ?i_NoHouse ?t_NoHouse ?b_NoHouse ?h_NoHouse ?e_NoColour ?i_NoColour ?t_NoColour ?b_NoColour ?h_NoColour ?e_NoRow ?i_NoRow ?t_NoRow ?b_NoRow ?h_NoRow ?e_NoBoxes ?i_NoBoxes ?t_NoBoxes ?b_NoBoxes ?h_NoBoxes ?e_NoLaying ?i_NoLaying ?t_NoLaying ?b_NoLaying ?h_NoLaying ?e_NoNumber ?i_NoNumber ?t_NoNumber ?b_NoNumber ?h_NoNumber ?e_NoBox ?i_NoBox ?t_NoBox ?b_NoBox ?h_NoBox ?e_NoKey ?i_NoKey ?t_NoKey ?b_NoKey ?h_NoKey ?e_Locks ?i_Locks ?t_Locks ?b_Locks ?h_Locks ?e_Unlike ?i_Unlike ?t_Unlike ?b_Unlike ?h_Unlike ?e_Open ?i_Open ?t_Open ?b_Open ?h_Open ?e_Shut ?i_Shut ?t_Shut ?b_Shut ?h_Shut ?e_Full ?i_Full ?t_Full ?b_Full ?h_Full ?e_NothingLeft ?i_NothingLeft ?t_NothingLeft ?b_NothingLeft ?h_NothingLeft ?e_TooMany ?i_TooMany ?t_TooMany ?b_TooMany ?h_TooMany ?e_Locked ?i_Locked ?t_Locked ?b_Locked ?h_Locked ?e_BoxError ?i_BoxError ?t_BoxError ?b_BoxError ?h_BoxError ?v_NoLaying ?s_NoLaying_NoHouse ?n_NoLaying_NoHouse ?s_NoLaying_NoColour ?n_NoLaying_NoColour ?s_NoLaying_NoRow ?n_NoLaying_NoRow ?s_NoLaying_NoBoxes ?n_NoLaying_NoBoxes ?s_NoLaying_NoLaying ?s_NoLaying_NoNumber ?n_NoLaying_NoNumber ?s_NoLaying_NoBox ?n_NoLaying_NoBox ?s_NoLaying_NoKey ?n_NoLaying_NoKey ?s_NoLaying_Locks ?n_NoLaying_Locks ?s_NoLaying_Unlike ?n_NoLaying_Unlike ?s_NoLaying_Open ?n_NoLaying_Open ?s_NoLaying_Shut ?n_NoLaying_Shut ?s_NoLaying_Full ?n_NoLaying_Full ?s_NoLaying_NothingLeft ?n_NoLaying_NothingLeft ?s_NoLaying_TooMany ?s_NoLaying_Locked ?s_NoLaying_BoxError ?w1_NoLaying ?w2_NoLaying ?w5_NoLaying ?w8_NoLaying ?xq_NoLaying ?xk_NoLaying ?w6 ?w7 ?tn_Law ?tl_Law ?th_Law
    (case a1 => k_is)
    (case l1 => k_is)
    (case c1 => k_is)
    (case k1 => k_is)
    (case a2 => k_is)
    (case l2 => k_is)
    (case c2 => k_is)
    (case k2 => k_is)
    (case a3 => k_is)
    (case l3 => k_is)
    (case c3 => k_is)
    (case k3 => k_is)
    (case a4 => k_is)
    (case l4 => k_is)
    (case c4 => k_is)
    (case k4 => k_is)
    (case a5 => k_is)
    (case l5 => k_is)
    (case c5 => k_is)
    (case k5 => k_is)
    (case a6 => k_is)
    (case l6 => k_is)
    (case c6 => k_is)
    (case k6 => k_is)
    (case a7 => k_is)
    (case l7 => k_is)
    (case c7 => k_is)
    (case k7 => k_is)
    (case a8 => k_is)
    (case l8 => k_is)
    (case c8 => k_is)
    (case k8 => k_is)
    (case a9 => k_is)
    (case l9 => k_is)
    (case c9 => k_is)
    (case k9 => k_is)
    (case a10 => k_is)
    (case l10 => k_is)
    (case c10 => k_is)
    (case k10 => k_is)
    (case a11 => k_is)
    (case l11 => k_is)
    (case c11 => k_is)
    (case k11 => k_is)
    (case a12 => k_is)
    (case l12 => k_is)
    (case c12 => k_is)
    (case k12 => k_is)
    (case a13 => k_is)
    (case l13 => k_is)
    (case c13 => k_is)
    (case k13 => k_is)
    (case a14 => k_is)
    (case l14 => k_is)
    (case c14 => k_is)
    (case k14 => k_is)
    (case a15 => k_is)
    (case l15 => k_is)
    (case c15 => k_is)
    (case k15 => k_is)
    (case a16 => k_is)
    (case l16 => k_is)
    (case c16 => k_is)
    (case k16 => k_is)
    (case a17 => k_is)
    (case l17 => k_is)
    (case c17 => k_is)
    (case k17 => k_is)
    (case a18 => k_is)
    (case l18 => k_is)
    (case c18 => k_is)
    (case k18 => k_is)
    (case a19 => k_is)
    (case l19 => k_is)
    (case c19 => k_is)
    (case k19 => k_is)
    (case z_isi => k_is)
    (case z_tup => k_is)
    (case z_lst => k_is)
    (case z_str => k_is)
    (case z_len => k_is)
    (case z_all => k_is)
    (case z_zip => k_is)
    (case z_rng => k_is)
    (case z_int => k_is)
    (case z_max => k_is)
    (case z_min => k_is)
    (case z_srt => k_is)
    (case z_enu => k_is)
    (case z_sum => k_is)
    (case z_abs => k_is)
    (case z_rpr => k_is)
    (case z_set => k_is)
    (case z_bool => k_is)
    (case z_ver => k_is)
    (case z_any => k_is)
    (case m_MOST_BOXES => k_is)
    (case e_NoHouse => k_is)
    (case i_NoHouse => k_is)
    (case t_NoHouse => k_is)
    (case b_NoHouse => k_is)
    (case h_NoHouse => k_is)
    (case e_NoColour => k_is)
    (case i_NoColour => k_is)
    (case t_NoColour => k_is)
    (case b_NoColour => k_is)
    (case h_NoColour => k_is)
    (case e_NoRow => k_is)
    (case i_NoRow => k_is)
    (case t_NoRow => k_is)
    (case b_NoRow => k_is)
    (case h_NoRow => k_is)
    (case e_NoBoxes => k_is)
    (case i_NoBoxes => k_is)
    (case t_NoBoxes => k_is)
    (case b_NoBoxes => k_is)
    (case h_NoBoxes => k_is)
    (case e_NoLaying => k_is)
    (case i_NoLaying => k_is)
    (case t_NoLaying => k_is)
    (case b_NoLaying => k_is)
    (case h_NoLaying => k_is)
    (case e_NoNumber => k_is)
    (case i_NoNumber => k_is)
    (case t_NoNumber => k_is)
    (case b_NoNumber => k_is)
    (case h_NoNumber => k_is)
    (case e_NoBox => k_is)
    (case i_NoBox => k_is)
    (case t_NoBox => k_is)
    (case b_NoBox => k_is)
    (case h_NoBox => k_is)
    (case e_NoKey => k_is)
    (case i_NoKey => k_is)
    (case t_NoKey => k_is)
    (case b_NoKey => k_is)
    (case h_NoKey => k_is)
    (case e_Locks => k_is)
    (case i_Locks => k_is)
    (case t_Locks => k_is)
    (case b_Locks => k_is)
    (case h_Locks => k_is)
    (case e_Unlike => k_is)
    (case i_Unlike => k_is)
    (case t_Unlike => k_is)
    (case b_Unlike => k_is)
    (case h_Unlike => k_is)
    (case e_Open => k_is)
    (case i_Open => k_is)
    (case t_Open => k_is)
    (case b_Open => k_is)
    (case h_Open => k_is)
    (case e_Shut => k_is)
    (case i_Shut => k_is)
    (case t_Shut => k_is)
    (case b_Shut => k_is)
    (case h_Shut => k_is)
    (case e_Full => k_is)
    (case i_Full => k_is)
    (case t_Full => k_is)
    (case b_Full => k_is)
    (case h_Full => k_is)
    (case e_NothingLeft => k_is)
    (case i_NothingLeft => k_is)
    (case t_NothingLeft => k_is)
    (case b_NothingLeft => k_is)
    (case h_NothingLeft => k_is)
    (case e_TooMany => k_is)
    (case i_TooMany => k_is)
    (case t_TooMany => k_is)
    (case b_TooMany => k_is)
    (case h_TooMany => k_is)
    (case e_Locked => k_is)
    (case i_Locked => k_is)
    (case t_Locked => k_is)
    (case b_Locked => k_is)
    (case h_Locked => k_is)
    (case e_BoxError => k_is)
    (case i_BoxError => k_is)
    (case t_BoxError => k_is)
    (case b_BoxError => k_is)
    (case h_BoxError => k_is)
    (case v_NoLaying => k_is)
    (case s_NoLaying_NoHouse => k_is)
    (case n_NoLaying_NoHouse => decide)
    (case s_NoLaying_NoColour => k_is)
    (case n_NoLaying_NoColour => decide)
    (case s_NoLaying_NoRow => k_is)
    (case n_NoLaying_NoRow => decide)
    (case s_NoLaying_NoBoxes => k_is)
    (case n_NoLaying_NoBoxes => decide)
    (case s_NoLaying_NoLaying => k_is)
    (case s_NoLaying_NoNumber => k_is)
    (case n_NoLaying_NoNumber => decide)
    (case s_NoLaying_NoBox => k_is)
    (case n_NoLaying_NoBox => decide)
    (case s_NoLaying_NoKey => k_is)
    (case n_NoLaying_NoKey => decide)
    (case s_NoLaying_Locks => k_is)
    (case n_NoLaying_Locks => decide)
    (case s_NoLaying_Unlike => k_is)
    (case n_NoLaying_Unlike => decide)
    (case s_NoLaying_Open => k_is)
    (case n_NoLaying_Open => decide)
    (case s_NoLaying_Shut => k_is)
    (case n_NoLaying_Shut => decide)
    (case s_NoLaying_Full => k_is)
    (case n_NoLaying_Full => decide)
    (case s_NoLaying_NothingLeft => k_is)
    (case n_NoLaying_NothingLeft => decide)
    (case s_NoLaying_TooMany => k_is)
    (case s_NoLaying_Locked => k_is)
    (case s_NoLaying_BoxError => k_is)
    (case w1_NoLaying => k_is)
    (case w2_NoLaying => k_is)
    (case w5_NoLaying => k_is)
    (case w8_NoLaying => k_is)
    (case xq_NoLaying => k_exc)
    (case xk_NoLaying => k_is)
    (case w6 => k_is)
    (case w7 => k_is)
    (case tn_Law => exact Kw.km_none Y (by decide +kernel))
    (case tl_Law => k_is)
    (case th_Law => decide +kernel)
